/- Plain mathematics: what digits to a base stand for, sums of digits by place, that a number has one list of digits without a leading zero. Memory: what a slice reads as, a block that is known whole. Limbs: .int .u32; digits: .int .i64. divideLong: the numbers. Knuth's guess: the numbers. Numbers alone: the borrow of a subtraction of limbs by its formula on bits; a limb above another one, joined by an or. Contracts of the functions that only compute with numbers: Add32, Sub32, Div32, Len32, LeadingZeros32, sign. The small readers of package natural and of the reference: Valid, NaturalOk, checkOne, checkBoth, pairFault, At. Package natural: limited, countBits, trim, compare. A row of limbs that the call itself made; make. -/
import Derived.Test.YtfgkhdpdjclmkaaGreatRows
import Derived.WalkKit
import Derived.Deep.Draws
import Derived.Lib.Hide
import Derived.Lib.BitFns
import Derived.WalkSpells
import Derived.WalkLawsBesides
import Derived.Deep.QuietTactic
import Derived.BigQuiet
import Derived.Lib.Small
import Derived.Lib.Walk
import Derived.StillTailTactics
import Derived.Laws.OwnMore
namespace Go.Proofs.YtfgkhdpdjclmkaaGreat
set_option linter.unusedVariables false

/-- The first k digits of f to the base b. -/
def S (b : Nat) (f : Nat → Nat) : Nat → Nat
  | 0 => 0
  | k + 1 => S b f k + f k * b ^ k
theorem S_zero (b : Nat) (f : Nat → Nat) : S b f 0 = 0 := rfl
theorem S_succ (b : Nat) (f : Nat → Nat) (k : Nat) : S b f (k + 1) = S b f k + f k * b ^ k := rfl
theorem S_ext {b : Nat} {f g : Nat → Nat} : ∀ {k : Nat}, (∀ j, j < k → f j = g j) → S b f k = S b g k
  | 0, _ => rfl
  | k + 1, h => by rw [S_succ, S_succ, S_ext (fun j hj => h j (by omega)), h k (by omega)]
theorem S_lt {b : Nat} {f : Nat → Nat} {k : Nat} (hb : 0 < b) (h : ∀ j, j < k → f j < b) : S b f k < b ^ k := by
  induction k with
  | zero => simp [S_zero]
  | succ k ih =>
    have h1 := ih (fun j hj => h j (by omega))
    have h2 : f k + 1 ≤ b := h k (by omega)
    have h3 : (f k + 1) * b ^ k ≤ b * b ^ k := Nat.mul_le_mul_right _ h2
    rw [Nat.add_mul, Nat.one_mul] at h3
    rw [S_succ, show b ^ (k + 1) = b * b ^ k by rw [Nat.pow_succ, Nat.mul_comm]]
    omega
theorem S_zeros {b : Nat} {f : Nat → Nat} {m : Nat} : ∀ {n : Nat}, m ≤ n → (∀ j, m ≤ j → j < n → f j = 0) → S b f n = S b f m
  | 0, hm, _ => by rw [show m = 0 by omega]
  | n + 1, hm, h => by
    rcases Nat.lt_or_ge n m with h1 | h1
    · rw [show m = n + 1 by omega]
    · rw [S_succ, h n h1 (by omega), Nat.zero_mul, Nat.add_zero]
      exact S_zeros h1 (fun j hj hj' => h j hj (by omega))
theorem S_add (b : Nat) (f : Nat → Nat) (m : Nat) : ∀ n, S b f (m + n) = S b f m + b ^ m * S b (fun i => f (m + i)) n
  | 0 => by simp [S_zero]
  | n + 1 => by
    rw [← Nat.add_assoc, S_succ, S_add b f m n, S_succ, Nat.pow_add]
    grind
theorem S_front (b : Nat) (f : Nat → Nat) (n : Nat) : S b f (n + 1) = f 0 + b * S b (fun i => f (i + 1)) n := by
  rw [Nat.add_comm n 1, S_add]
  simp [S_succ, S_zero, Nat.add_comm]
theorem S_mono {b : Nat} {f : Nat → Nat} {m n : Nat} (h : m ≤ n) : S b f m ≤ S b f n := by
  obtain ⟨d, rfl⟩ := Nat.le.dest h
  rw [S_add]; omega
/-- The greatest place at which two numbers differ decides. -/
theorem S_less {b : Nat} {f g : Nat → Nat} {n k : Nat} (hb : 0 < b) (hk : k < n) (hf : ∀ j, j < n → f j < b) (hlt : f k < g k) (he : ∀ j, k < j → j < n → f j = g j) : S b f n < S b g n := by
  obtain ⟨d, rfl⟩ := Nat.le.dest (show k + 1 ≤ n from hk)
  rw [S_add b f (k + 1) d, S_add b g (k + 1) d, S_succ b f k, S_succ b g k]
  rw [S_ext (f := fun i => f (k + 1 + i)) (g := fun i => g (k + 1 + i)) (fun j hj => he _ (by omega) (by omega))]
  have h1 := S_lt (f := f) (k := k) hb (fun j hj => hf j (by omega))
  have h2 : (f k + 1) * b ^ k ≤ g k * b ^ k := Nat.mul_le_mul_right _ hlt
  rw [Nat.add_mul, Nat.one_mul] at h2
  omega
/-- Digits to the base b. -/
def Dig (b : Nat) (xs : List Nat) : Prop := ∀ x ∈ xs, x < b
theorem Dig.at_ {b : Nat} {xs : List Nat} (h : Dig b xs) (hb : 0 < b) (j : Nat) : xs.getD j 0 < b := by
  rcases Nat.lt_or_ge j xs.length with h1 | h1
  · rw [List.getD_eq_getElem?_getD, List.getElem?_eq_getElem h1]; exact h _ (List.getElem_mem h1)
  · rw [List.getD_eq_getElem?_getD, List.getElem?_eq_none h1]; exact hb
/-- The number that digits stand for, the least significant one first. -/
def vb (b : Nat) (xs : List Nat) : Nat := S b (fun i => xs.getD i 0) xs.length
theorem getD_none {xs : List Nat} {j : Nat} (h : xs.length ≤ j) : xs.getD j 0 = 0 := by rw [List.getD_eq_getElem?_getD, List.getElem?_eq_none h]; rfl
theorem vb_len {b : Nat} {xs : List Nat} {n : Nat} (h : xs.length ≤ n) : S b (fun i => xs.getD i 0) n = vb b xs := S_zeros h (fun j hj _ => getD_none hj)
theorem vb_nil (b : Nat) : vb b [] = 0 := rfl
theorem vb_lt {b : Nat} {xs : List Nat} (hb : 0 < b) (h : Dig b xs) : vb b xs < b ^ xs.length := S_lt hb (fun j _ => h.at_ hb j)
theorem getD_take (xs : List Nat) (k j : Nat) : (xs.take k).getD j 0 = if j < k then xs.getD j 0 else 0 := by
  rw [List.getD_eq_getElem?_getD, List.getElem?_take]
  split
  · rw [List.getD_eq_getElem?_getD]
  · rfl
theorem getD_drop (xs : List Nat) (k j : Nat) : (xs.drop k).getD j 0 = xs.getD (k + j) 0 := by
  rw [List.getD_eq_getElem?_getD, List.getElem?_drop, List.getD_eq_getElem?_getD]
theorem getD_set (xs : List Nat) (i x j : Nat) (hi : i < xs.length) : (xs.set i x).getD j 0 = if i = j then x else xs.getD j 0 := by
  rw [List.getD_eq_getElem?_getD, List.getElem?_set]
  split
  · rfl
  · rw [List.getD_eq_getElem?_getD]
theorem getD_append (xs ys : List Nat) (j : Nat) : (xs ++ ys).getD j 0 = if j < xs.length then xs.getD j 0 else ys.getD (j - xs.length) 0 := by
  rw [List.getD_eq_getElem?_getD, List.getElem?_append]
  split
  · rw [List.getD_eq_getElem?_getD]
  · rw [List.getD_eq_getElem?_getD]
theorem vb_append {b : Nat} (xs ys : List Nat) : vb b (xs ++ ys) = vb b xs + b ^ xs.length * vb b ys := by
  unfold vb
  rw [List.length_append, S_add]
  congr 1
  · exact S_ext (fun j hj => by simp only [getD_append, if_pos hj])
  · congr 1
    exact S_ext (fun j _ => by simp only [getD_append]; rw [if_neg (by omega)]; congr 1; omega)
theorem vb_one (b x : Nat) : vb b [x] = x := by simp [vb, S_succ, S_zero]
theorem vb_snoc {b : Nat} (xs : List Nat) (x : Nat) : vb b (xs ++ [x]) = vb b xs + b ^ xs.length * x := by rw [vb_append, vb_one]
theorem vb_cons {b : Nat} (x : Nat) (xs : List Nat) : vb b (x :: xs) = x + b * vb b xs := by
  rw [show x :: xs = [x] ++ xs from rfl, vb_append, vb_one]; simp
theorem vb_take_of_zeros {b : Nat} {xs : List Nat} {k : Nat} (hk : k ≤ xs.length) (h : ∀ j, k ≤ j → j < xs.length → xs.getD j 0 = 0) : vb b (xs.take k) = vb b xs := by
  have e : (xs.take k).length = k := by rw [List.length_take]; omega
  show S b (fun i => (xs.take k).getD i 0) (xs.take k).length = S b (fun i => xs.getD i 0) xs.length
  rw [e, S_zeros (m := k) hk h]
  exact S_ext (fun j hj => by simp only [getD_take, if_pos hj])
/-- No leading zero. -/
def Top (xs : List Nat) : Prop := ∀ m, xs.length = m + 1 → xs.getD m 0 ≠ 0
theorem Top.nil : Top [] := fun m h => by cases h
theorem Top.low {b : Nat} {xs : List Nat} (h : Top xs) {m : Nat} (hm : xs.length = m + 1) : b ^ m ≤ vb b xs := by
  unfold vb
  rw [hm, S_succ]
  have h1 : 1 * b ^ m ≤ xs.getD m 0 * b ^ m := Nat.mul_le_mul_right _ (Nat.one_le_iff_ne_zero.2 (h m hm))
  omega
theorem vb_less_len {b : Nat} {xs ys : List Nat} (hb : 0 < b) (h : Dig b xs) (t : Top ys) (hl : xs.length < ys.length) : vb b xs < vb b ys := by
  obtain ⟨m, hm⟩ : ∃ m, ys.length = m + 1 := ⟨ys.length - 1, by omega⟩
  have h1 := vb_lt hb h
  have h2 := t.low (b := b) hm
  have h3 : b ^ xs.length ≤ b ^ m := Nat.pow_le_pow_right hb (by omega)
  omega
/-- Digits without a leading zero that stand for n. -/
structure Rep (b : Nat) (xs : List Nat) (n : Nat) : Prop where
  dig : Dig b xs
  val : vb b xs = n
  top : Top xs
theorem Rep.unique {b : Nat} {xs ys : List Nat} {n : Nat} (hb : 0 < b) (h : Rep b xs n) (k : Rep b ys n) : xs = ys := by
  have hl : xs.length = ys.length := by
    rcases Nat.lt_trichotomy xs.length ys.length with e | e | e
    · have := vb_less_len hb h.dig k.top e; rw [h.val, k.val] at this; omega
    · exact e
    · have := vb_less_len hb k.dig h.top e; rw [h.val, k.val] at this; omega
  have all : ∀ d, d ≤ xs.length → ∀ j, xs.length - d ≤ j → j < xs.length → xs.getD j 0 = ys.getD j 0 := by
    intro d
    induction d with
    | zero => intro _ j h1 h2; omega
    | succ d ih =>
      intro hd j h1 h2
      rcases Nat.lt_trichotomy (xs.getD j 0) (ys.getD j 0) with e | e | e
      · have := S_less (f := fun i => xs.getD i 0) (g := fun i => ys.getD i 0) hb h2 (fun i _ => h.dig.at_ hb i) e (fun i h3 h4 => ih (by omega) i (by omega) h4)
        have e1 := h.val; have e2 := k.val
        unfold vb at e1 e2
        rw [← hl] at e2
        omega
      · exact e
      · have := S_less (f := fun i => ys.getD i 0) (g := fun i => xs.getD i 0) hb h2 (fun i _ => k.dig.at_ hb i) e (fun i h3 h4 => (ih (by omega) i (by omega) h4).symm)
        have e1 := h.val; have e2 := k.val
        unfold vb at e1 e2
        rw [← hl] at e2
        omega
  refine List.ext_getElem hl (fun j h1 h2 => ?_)
  have := all xs.length (Nat.le_refl _) j (by omega) h1
  rwa [List.getD_eq_getElem?_getD, List.getD_eq_getElem?_getD, List.getElem?_eq_getElem h1, List.getElem?_eq_getElem h2] at this
theorem Rep.zero_nil {b : Nat} {xs : List Nat} (hb : 0 < b) (h : Rep b xs 0) : xs = [] := h.unique hb ⟨(by intro x hx; cases hx), rfl, Top.nil⟩
theorem Rep.length_le {b : Nat} {xs : List Nat} {n m : Nat} (hb : 1 < b) (h : Rep b xs n) (hn : n < b ^ m) : xs.length ≤ m := by
  rcases Nat.lt_or_ge m xs.length with e | e
  · obtain ⟨k, hk⟩ : ∃ k, xs.length = k + 1 := ⟨xs.length - 1, by omega⟩
    have h1 := h.top.low (b := b) hk
    have h2 : b ^ m ≤ b ^ k := Nat.pow_le_pow_right (by omega) (by omega)
    rw [h.val] at h1
    omega
  · exact e
theorem Rep.lt_pow {b : Nat} {xs : List Nat} {n : Nat} (hb : 0 < b) (h : Rep b xs n) : n < b ^ xs.length := by rw [← h.val]; exact vb_lt hb h.dig
end Go.Proofs.YtfgkhdpdjclmkaaGreat

namespace Go.Proofs.YtfgkhdpdjclmkaaGreat
open Go.RowKit

/-- Element j of a list of numbers, as an integer. Plain, so that no rule looks into it. -/
@[irreducible] def nth (xs : List Nat) (j : Nat) : Int := ((xs.getD j 0 : Nat) : Int)
theorem nth_nn (xs : List Nat) (j : Nat) : 0 ≤ nth xs j := by unfold nth; omega
def Lim (xs : List Nat) : Prop := ∀ x ∈ xs, x < 4294967296
theorem getD_mem_or (xs : List Nat) (j : Nat) : xs.getD j 0 ∈ xs ∨ xs.getD j 0 = 0 := by
  rcases Nat.lt_or_ge j xs.length with h | h
  · left; simp [h]
  · right; simp [h]
theorem Lim.nth {xs : List Nat} (h : Lim xs) (j : Nat) : Go.Proofs.YtfgkhdpdjclmkaaGreat.nth xs j < 4294967296 := by
  unfold Go.Proofs.YtfgkhdpdjclmkaaGreat.nth
  rcases getD_mem_or xs j with e | e
  · have := h _ e; omega
  · omega
theorem bcell {B : Nat} {W w1 : World} (hb : Below B W w1) : (∀ b o, b < B → w1.cell? ⟨b, o, none⟩ = W.cell? ⟨b, o, none⟩) ∧ (∀ b o, b < B → w1.frozen? ⟨b, o, none⟩ = W.frozen? ⟨b, o, none⟩) :=
  ⟨fun b o h => hb.cell (p := ⟨b, o, none⟩) h, fun b o h => hb.frozen (p := ⟨b, o, none⟩) h⟩
theorem below_drewN {B : Nat} {a w : World} (h : Below B a w) (n : Nat) : Below B a (w.drewN n) := ⟨h.os, h.tape, h.output, h.size, h.block⟩
theorem bl1 (w : World) (o : Obj) : Below w.heap.size w (w.alloc o) := (Below.refl _ _).alloc (Nat.le_refl _) o
theorem nth_eq {xs ys : List Nat} {i j : Nat} (h : nth xs i = nth ys j) : xs.getD i 0 = ys.getD j 0 := by unfold nth at h; omega
theorem nth_lt {xs ys : List Nat} {i j : Nat} (h : nth xs i < nth ys j) : xs.getD i 0 < ys.getD j 0 := by unfold nth at h; omega
/-- A call that leaves the world W alone, where the walk wants its world among those that g lists. -/
theorem calm {P : Program} {f : FuncId} {args : Array Value} {W : World} {v : Value} {g : Nat → World} (n : Nat) (hg : W = g n)
    (h : Calls P f args W fun e w' => e = .returned v ∧ W = w') : Calls P f args W fun e w'' => e = .returned v ∧ ∃ m, w'' = g m :=
  h.mono fun _ _ hh => ⟨hh.1, n, hh.2.symm.trans hg⟩
/-- The places of n elements that begin at A: below block B; place j holds f j. -/
def Rd (w : World) (B : Nat) (A : Option Addr) (n : Nat) (f : Nat → Value) : Prop :=
  0 < n → ∃ b off, A = some ⟨b, off, none⟩ ∧ b < B ∧ ∀ j, j < n → w.cell? ⟨b, off + j, none⟩ = some (f j)
section
variable {w w' : World} {B B' n m : Nat} {A : Option Addr} {f : Nat → Value}
theorem Rd.keep (h : Rd w B A n f) (hk : ∀ p : Addr, p.block < B → w'.cell? p = w.cell? p) : Rd w' B A n f := fun hn => by
  obtain ⟨b, off, e, hb, hc⟩ := h hn
  exact ⟨b, off, e, hb, fun j hj => (hk _ hb).trans (hc j hj)⟩
theorem Rd.more (h : Rd w B A n f) (hB : B ≤ B') : Rd w B' A n f := fun hn => by
  obtain ⟨b, off, e, hb, hc⟩ := h hn
  exact ⟨b, off, e, by omega, hc⟩
theorem Rd.below (h : Rd w B A n f) (hb : Below B' w w') (hB : B ≤ B') : Rd w' B A n f := h.keep fun _ hp => hb.cell (by omega)
theorem Rd.grown (h : Rd w B A n f) {row : Option Nat} (hg : w.grownBy w' row) (hB : B ≤ w.heap.size) (hr : ∀ g, row = some g → B ≤ g) : Rd w' B A n f :=
  h.keep fun p hp => World.cell?_of_block (hg.block p.block (by omega) (fun e => by have := hr _ e.symm; omega))
theorem Rd.take (h : Rd w B A n f) (hm : m ≤ n) : Rd w B A m f := fun hn => by
  obtain ⟨b, off, e, hb, hc⟩ := h (by omega)
  exact ⟨b, off, e, hb, fun j hj => hc j (by omega)⟩
theorem Rd.congr {g : Nat → Value} (h : Rd w B A n f) (he : ∀ j, j < n → f j = g j) : Rd w B A n g := fun hn => by
  obtain ⟨b, off, e, hb, hc⟩ := h hn
  exact ⟨b, off, e, hb, fun j hj => by rw [← he j hj]; exact hc j hj⟩
end

/-- n limbs. -/
structure LRd (w : World) (B : Nat) (A : Option Addr) (n c : Nat) (xs : List Nat) : Prop where
  len : Hid (xs.length = n)
  cap : n ≤ c ∧ c ≤ 9223372036854775807
  lim : Lim xs
  rd : Rd w B A n (fun j => .int .u32 (nth xs j))
/-- n numbers of type int. -/
structure NRd (w : World) (B : Nat) (A : Option Addr) (n c : Nat) (xs : List Nat) : Prop where
  len : Hid (xs.length = n)
  cap : n ≤ c ∧ c ≤ 9223372036854775807
  rd : Rd w B A n (fun j => .int .i64 (nth xs j))
section
variable {w w' : World} {B B' n m c : Nat} {A : Option Addr} {xs : List Nat}
theorem LRd.keep (h : LRd w B A n c xs) (hk : ∀ p : Addr, p.block < B → w'.cell? p = w.cell? p) : LRd w' B A n c xs := ⟨h.len, h.cap, h.lim, h.rd.keep hk⟩
theorem LRd.more (h : LRd w B A n c xs) (hB : B ≤ B') : LRd w B' A n c xs := ⟨h.len, h.cap, h.lim, h.rd.more hB⟩
theorem LRd.below (h : LRd w B A n c xs) (hb : Below B' w w') (hB : B ≤ B') : LRd w' B A n c xs := ⟨h.len, h.cap, h.lim, h.rd.below hb hB⟩
theorem NRd.keep (h : NRd w B A n c xs) (hk : ∀ p : Addr, p.block < B → w'.cell? p = w.cell? p) : NRd w' B A n c xs := ⟨h.len, h.cap, h.rd.keep hk⟩
theorem NRd.more (h : NRd w B A n c xs) (hB : B ≤ B') : NRd w B' A n c xs := ⟨h.len, h.cap, h.rd.more hB⟩
theorem NRd.below (h : NRd w B A n c xs) (hb : Below B' w w') (hB : B ≤ B') : NRd w' B A n c xs := ⟨h.len, h.cap, h.rd.below hb hB⟩
end

/-- Block g is just the cells cs of element type t, none of them frozen. -/
def Row (w : World) (g : Nat) (t : TypeId) (cs : List Value) : Prop := w.heap[g]? = some (.cells cs.toArray t (0, 0))
section
variable {w w' : World} {g : Nat} {t : TypeId} {cs : List Value}
theorem Row.lt (h : Row w g t cs) : g < w.heap.size := by
  rcases Nat.lt_or_ge g w.heap.size with hlt | hge
  · exact hlt
  · unfold Row at h; rw [Array.getElem?_eq_none hge] at h; cases h
theorem Row.cell (h : Row w g t cs) (i : Nat) : w.cell? ⟨g, i, none⟩ = cs[i]? := by
  rw [cell_of_row w g i cs.toArray t (0, 0) h]; simp
theorem Row.frozen (h : Row w g t cs) (i : Nat) : w.frozen? ⟨g, i, none⟩ = false := by
  unfold Row at h; simp [World.frozen?, h]
theorem Row.new (w : World) (t : TypeId) (cs : List Value) : Row (w.alloc (.cells cs.toArray t)) w.heap.size t cs := heap_alloc_new w _
theorem Row.alloc (h : Row w g t cs) (o : Obj) : Row (w.alloc o) g t cs := (Below.heap_alloc w o g h.lt).trans h
theorem Row.set_ (h : Row w g t cs) (i : Nat) (u : Value) : Row (w.setCell ⟨g, i, none⟩ u) g t (cs.set i u) := by
  unfold Row at h ⊢
  simp [World.setCell, Array.getElem?_modify, h]
theorem Row.far (h : Row w g t cs) {p : Addr} (hp : g ≠ p.block) (u : Value) : Row (w.setCell p u) g t cs := (Below.heap_setCell w p u g hp).trans h
theorem Row.below {B : Nat} (h : Row w g t cs) (hb : Below B w w') (hg : g < B) : Row w' g t cs := (hb.block g hg).trans h
theorem Row.grown {row : Option Nat} (h : Row w g t cs) (hb : w.grownBy w' row) (hg : some g ≠ row) : Row w' g t cs := (hb.block g h.lt hg).trans h
theorem Row.drewN (h : Row w g t cs) (n : Nat) : Row (w.drewN n) g t cs := h
end
end Go.Proofs.YtfgkhdpdjclmkaaGreat

namespace Go.Proofs.YtfgkhdpdjclmkaaGreat
open Go.RowKit
set_option maxHeartbeats 400000
set_option maxRecDepth 100000
set_option linter.unusedSimpArgs false
set_option linter.unusedVariables false

theorem bitLen_pos {x : Nat} (h0 : x ≠ 0) (hx : x < 2 ^ 64) : 1 ≤ Lib.bitLen x := by rw [Lib.bitLen_half x h0 hx]; omega
theorem bitLen_gt {k x : Nat} (h : 2 ^ k ≤ x) (hx : x < 2 ^ 64) : k + 1 ≤ Lib.bitLen x := by
  rw [Lib.bitLen_shift k x h hx]
  have h1 : x / 2 ^ k ≠ 0 := by
    have := Nat.div_pos h (Nat.two_pow_pos k)
    omega
  have h2 : x / 2 ^ k < 2 ^ 64 := Nat.lt_of_le_of_lt (Nat.div_le_self _ _) hx
  have := bitLen_pos h1 h2
  omega
theorem bitLen_hi {x : Nat} (hx : x < 4294967296) : x < 2 ^ Lib.bitLen x := by
  rcases Nat.lt_or_ge x (2 ^ Lib.bitLen x) with e | e
  · exact e
  · have := bitLen_gt e (by omega); omega
theorem bitLen_lo {x : Nat} (h0 : x ≠ 0) (hx : x < 4294967296) : 2 ^ (Lib.bitLen x - 1) ≤ x := by
  have h1 := bitLen_pos h0 (show x < 2 ^ 64 by omega)
  rcases Nat.lt_or_ge x (2 ^ (Lib.bitLen x - 1)) with e | e
  · have h2 : Lib.bitLen x ≤ 32 := Lib.bitLen_le x 32 (by omega) (by omega)
    have := Lib.bitLen_le x (Lib.bitLen x - 1) (by omega) e
    omega
  · exact e
/-- Shifted so, the top limb has its highest bit. -/
theorem lz_range {x : Nat} (h0 : x ≠ 0) (hx : x < 4294967296) : 2147483648 ≤ x * 2 ^ (32 - Lib.bitLen x) ∧ (x + 1) * 2 ^ (32 - Lib.bitLen x) ≤ 4294967296 := by
  have h1 := bitLen_hi hx
  have h2 := bitLen_lo h0 hx
  have h3 := bitLen_pos h0 (show x < 2 ^ 64 by omega)
  have h4 : Lib.bitLen x ≤ 32 := Lib.bitLen_le x 32 (by omega) (by omega)
  have e1 : (2 : Nat) ^ (Lib.bitLen x - 1) * 2 ^ (32 - Lib.bitLen x) = 2147483648 := by rw [← Nat.pow_add, show Lib.bitLen x - 1 + (32 - Lib.bitLen x) = 31 by omega]
  have e2 : (2 : Nat) ^ Lib.bitLen x * 2 ^ (32 - Lib.bitLen x) = 4294967296 := by rw [← Nat.pow_add, show Lib.bitLen x + (32 - Lib.bitLen x) = 32 by omega]
  constructor
  · rw [← e1]; exact Nat.mul_le_mul_right _ h2
  · rw [← e2]; exact Nat.mul_le_mul_right _ h1
theorem dsor_num {b P y E s d2 D t d1 h : Nat} (hP : 0 < P) (hv : D + d2 * (b * P) = (s + y * P) * E) (hs : s < P) (h2 : (y + 1) * E ≤ b) (hE : 0 < E) (hD : D = t + d1 * P) (ht : t < P) (h1 : h ≤ y * E) :
    d2 = 0 ∧ D = (s + y * P) * E ∧ D < b * P ∧ h ≤ d1 := by
  have a1 : (s + y * P + 1) * E ≤ (y + 1) * P * E := Nat.mul_le_mul_right _ (by rw [Nat.add_mul, Nat.one_mul]; omega)
  have a2 : (y + 1) * E * P ≤ b * P := Nat.mul_le_mul_right _ h2
  have a3 : (y + 1) * P * E = (y + 1) * E * P := by grind
  have a4 : (s + y * P + 1) * E = (s + y * P) * E + E := by grind
  have hd2 : d2 = 0 := by
    rcases Nat.eq_zero_or_pos d2 with e | e
    · exact e
    · have : 1 * (b * P) ≤ d2 * (b * P) := Nat.mul_le_mul_right _ e
      omega
  subst hd2
  rw [Nat.zero_mul, Nat.add_zero] at hv
  refine ⟨rfl, hv, by omega, ?_⟩
  have a5 : h * P ≤ y * E * P := Nat.mul_le_mul_right _ h1
  have a6 : (s + y * P) * E = s * E + y * E * P := by grind
  have a7 : h * P < (d1 + 1) * P := by rw [Nat.add_mul, Nat.one_mul]; omega
  have := Nat.lt_of_mul_lt_mul_right a7
  omega
/-- The limbs of the quotient from k on are found; what is left of R lies in cs2. -/
def DlIs (b n N R D k : Nat) (cs2 cs3 : List Nat) : Prop :=
  (∀ j, k + n ≤ j → cs2.getD j 0 = 0) ∧ S b (fun t => cs2.getD (k + t) 0) n < D ∧
  R = S b (fun t => cs3.getD (k + t) 0) (N - n + 1 - k) * b ^ k * D + S b (fun t => cs2.getD t 0) (N + 1)
theorem dl_low {b n N i : Nat} {cs : List Nat} (hi : i + n ≤ N) (hz : ∀ j, i + n + 1 ≤ j → cs.getD j 0 = 0) :
    S b (fun t => cs.getD t 0) (N + 1) = S b (fun t => cs.getD t 0) i + b ^ i * S b (fun t => cs.getD (i + t) 0) (n + 1) := by
  rw [show N + 1 = i + (N + 1 - i) by omega, S_add, S_zeros (f := fun t => cs.getD (i + t) 0) (m := n + 1) (by omega) (fun j h1 _ => hz _ (by omega))]
theorem dl_core {b n N i q R D : Nat} {cs2 cs cs3 : List Nat} (h3l : cs3.length = N - n + 1) (hi : i + n ≤ N) (hDb : D ≤ b ^ n)
    (out : ∀ j, j < i ∨ i + n + 1 ≤ j → cs.getD j 0 = cs2.getD j 0) (h : DlIs b n N R D (i + 1) cs2 cs3)
    (hU : S b (fun t => cs2.getD (i + t) 0) (n + 1) = q * D + S b (fun t => cs.getD (i + t) 0) (n + 1)) (hlt : S b (fun t => cs.getD (i + t) 0) (n + 1) < D) : DlIs b n N R D i cs (cs3.set i q) := by
  obtain ⟨h1, h2, h3⟩ := h
  have hz : ∀ j, i + n + 1 ≤ j → cs2.getD j 0 = 0 := fun j hj => h1 j (by omega)
  have hz' : ∀ j, i + n + 1 ≤ j → cs.getD j 0 = 0 := fun j hj => by rw [out j (by omega)]; exact hz j hj
  have htop : cs.getD (i + n) 0 = 0 := by
    rw [S_succ] at hlt
    rcases Nat.eq_zero_or_pos (cs.getD (i + n) 0) with e | e
    · exact e
    · have : 1 * b ^ n ≤ cs.getD (i + n) 0 * b ^ n := Nat.mul_le_mul_right _ e
      omega
  refine ⟨fun j hj => ?_, ?_, ?_⟩
  · rcases Nat.eq_or_lt_of_le hj with e | e
    · rw [← e]; exact htop
    · exact hz' j e
  · have := S_mono (b := b) (f := fun t => cs.getD (i + t) 0) (show n ≤ n + 1 by omega); omega
  · rw [h3, dl_low hi hz, dl_low hi hz', hU, S_ext (f := fun t => cs.getD t 0) (g := fun t => cs2.getD t 0) (k := i) (fun j hj => out j (by omega))]
    rw [show N - n + 1 - i = (N - n + 1 - (i + 1)) + 1 by omega, S_front b (fun t => (cs3.set i q).getD (i + t) 0), getD_set _ _ _ _ (by omega), if_pos (by omega)]
    rw [S_ext (f := fun t => (cs3.set i q).getD (i + (t + 1)) 0) (g := fun t => cs3.getD (i + 1 + t) 0) (fun t _ => by rw [getD_set _ _ _ _ (by omega), if_neg (by omega)]; congr 1; omega)]
    rw [Nat.pow_succ]
    generalize S b (fun t => cs3.getD (i + 1 + t) 0) (N - n + 1 - (i + 1)) = s1
    generalize S b (fun t => cs.getD (i + t) 0) (n + 1) = s2
    generalize S b (fun t => cs2.getD t 0) i = s3
    generalize b ^ i = P
    clear h1 h2 h3 hz hz' hU hlt out
    grind
theorem dl_window {b n i D : Nat} {cs2 : List Nat} (hb : 0 < b) (hd : cs2.getD i 0 < b) (h2 : S b (fun t => cs2.getD (i + 1 + t) 0) n < D) : S b (fun t => cs2.getD (i + t) 0) (n + 1) < b * D := by
  rw [S_front]
  rw [S_ext (f := fun t => cs2.getD (i + (t + 1)) 0) (g := fun t => cs2.getD (i + 1 + t) 0) (fun t _ => by congr 1; omega)]
  have h3 : b * (S b (fun t => cs2.getD (i + 1 + t) 0) n + 1) ≤ b * D := Nat.mul_le_mul_left b h2
  rw [Nat.mul_add, Nat.mul_one] at h3
  have h4 : cs2.getD (i + 0) 0 = cs2.getD i 0 := rfl
  omega
/-- No borrow: the guess was right. -/
theorem dl_right {b n g D U W : Nat} (e : W + g * D = U + 0 * b ^ (n + 1)) (h : U < (g + 1) * D) : U = g * D + W ∧ W < D := by
  rw [Nat.zero_mul, Nat.add_zero] at e
  rw [Nat.add_mul, Nat.one_mul] at h
  omega
/-- A borrow: the guess was 1 too large. -/
theorem dl_wrong {b n g D U W V : Nat} (hb : 0 < b) (e : W + g * D = U + 1 * b ^ (n + 1)) (hW : W < b ^ (n + 1)) (hV : V < b ^ (n + 1)) (hD : D ≤ b ^ n) (hg : g * D ≤ U + D) (hv : V % b ^ (n + 1) = (W + D) % b ^ (n + 1)) :
    U = (g - 1) * D + V ∧ V < D ∧ 0 < g := by
  have hp : b ^ n ≤ b ^ (n + 1) := Nat.pow_le_pow_right hb (by omega)
  rw [Nat.one_mul] at e
  have h1 : U < g * D := by omega
  have h0 : 0 < g := by
    rcases Nat.eq_zero_or_pos g with e0 | e0
    · subst e0; omega
    · exact e0
  obtain ⟨k, rfl⟩ : ∃ k, g = k + 1 := ⟨g - 1, by omega⟩
  rw [Nat.add_mul, Nat.one_mul] at *
  rw [Nat.add_sub_cancel, Nat.mod_eq_of_lt hV, show W + D = (U - k * D) + b ^ (n + 1) by omega, Nat.add_mod_right, Nat.mod_eq_of_lt (by omega)] at *
  omega
theorem dl_start {b n N R D : Nat} {cs2 cs3 : List Nat} (hb : 0 < b) (hn : n ≤ N) (hl : cs2.length = N + 1) (hd : Dig b cs2) (hz : ∀ j, cs3.getD j 0 = 0) (hR : vb b cs2 = R) (hlow : R < D * b ^ (N - n + 1)) : DlIs b n N R D (N - n + 1) cs2 cs3 := by
  have e : vb b cs2 = S b (fun t => cs2.getD t 0) (N + 1) := by unfold vb; rw [hl]
  refine ⟨fun j hj => getD_none (by omega), ?_, ?_⟩
  · rw [← hR, e, show N + 1 = (N - n + 1) + n by omega, S_add] at hlow
    have h1 : S b (fun t => cs2.getD (N - n + 1 + t) 0) n * b ^ (N - n + 1) < D * b ^ (N - n + 1) := by
      rw [Nat.mul_comm]; omega
    exact Nat.lt_of_mul_lt_mul_right h1
  · rw [Nat.sub_self, S_zero, Nat.zero_mul, Nat.zero_mul, Nat.zero_add, ← e, hR]
theorem dl_end {b n N p q D : Nat} {cs2 cs3 : List Nat} {E : Nat} (hE : 0 < E) (hn : n ≤ N) (h3l : cs3.length = N - n + 1) (hl : cs2.length = N + 1) (hD : D = q * E) (h : DlIs b n N (p * E) D 0 cs2 cs3) : vb b cs3 = p / q ∧ vb b cs2 / E = p % q := by
  obtain ⟨h1, h2, h3⟩ := h
  simp only [Nat.zero_add, Nat.sub_zero, Nat.pow_zero, Nat.mul_one] at h1 h2 h3
  rw [S_zeros (m := n) (f := fun t => cs2.getD t 0) (by omega) (fun j hj _ => h1 j hj)] at h3
  have e2 : vb b cs2 = S b (fun t => cs2.getD t 0) n := by unfold vb; rw [hl]; exact S_zeros (by omega) (fun j hj _ => h1 j hj)
  have e3 : vb b cs3 = S b (fun t => cs3.getD t 0) (N - n + 1) := by unfold vb; rw [h3l]
  rw [← e2] at h2 h3
  rw [← e3] at h3
  subst hD
  have hq : 0 < q := by
    rcases Nat.eq_zero_or_pos q with e | e
    · subst e; simp at h2
    · exact e
  have hv : vb b cs2 = (p - vb b cs3 * q) * E := by
    rw [Nat.sub_mul, Nat.mul_assoc]; omega
  have hle : vb b cs3 * q ≤ p := by
    have : vb b cs3 * q * E ≤ p * E := by rw [Nat.mul_assoc]; omega
    exact Nat.le_of_mul_le_mul_right this hE
  rw [hv] at h2
  have hlt := Nat.lt_of_mul_lt_mul_right h2
  have hp : p = (p - vb b cs3 * q) + q * vb b cs3 := by rw [Nat.mul_comm q]; omega
  generalize p - vb b cs3 * q = r at *
  constructor
  · rw [hp, Nat.add_mul_div_left _ _ hq, Nat.div_eq_of_lt hlt, Nat.zero_add]
  · rw [hv, Nat.mul_div_cancel _ hE, hp, Nat.add_mul_mod_self_left, Nat.mod_eq_of_lt hlt]
theorem kn_dec {B E v1 v0 H a0 dl ul g r : Nat} (hg : g * v1 + r = H) (hgt : r * B + a0 < g * v0) (hul : ul < E) : (H * B + a0) * E + ul < g * ((v1 * B + v0) * E + dl) := by
  have h1 : H * B + a0 + 1 ≤ g * (v1 * B + v0) := by
    have e : g * (v1 * B + v0) + r * B = H * B + g * v0 := by rw [← hg]; grind
    omega
  have h2 : (H * B + a0 + 1) * E ≤ g * (v1 * B + v0) * E := Nat.mul_le_mul_right E h1
  have e3 : (H * B + a0 + 1) * E = (H * B + a0) * E + E := by grind
  have e4 : g * ((v1 * B + v0) * E + dl) = g * (v1 * B + v0) * E + g * dl := by grind
  omega
theorem kn_ok {B E v1 v0 H a0 dl ul g r : Nat} (hB : 2 ≤ B) (hv : B ≤ 2 * v1) (hg : g * v1 + r = H) (hle : g * v0 ≤ r * B + a0) (hgB : g ≤ B) (hdl : dl < E) : g * ((v1 * B + v0) * E + dl) ≤ ((H * B + a0) * E + ul) + ((v1 * B + v0) * E + dl) := by
  have h1 : g * (v1 * B + v0) ≤ H * B + a0 := by
    have e : g * (v1 * B + v0) + r * B = H * B + g * v0 := by rw [← hg]; grind
    omega
  have h2 : g * (v1 * B + v0) * E ≤ (H * B + a0) * E := Nat.mul_le_mul_right E h1
  have e4 : g * ((v1 * B + v0) * E + dl) = g * (v1 * B + v0) * E + g * dl := by grind
  have h5 : g * dl ≤ B * E := Nat.mul_le_mul hgB (by omega)
  have h6 : 1 * B ≤ v1 * B := Nat.mul_le_mul_right B (by omega)
  have h7 : B * E ≤ (v1 * B + v0) * E := Nat.mul_le_mul_right E (by omega)
  omega
theorem kn_start {B E v1 v0 H a0 dl ul : Nat} (hv : 0 < v1) (ha : a0 < B) (hul : ul < E) : (H * B + a0) * E + ul < (H / v1 + 1) * ((v1 * B + v0) * E + dl) := by
  have h0 : H + 1 ≤ (H / v1 + 1) * v1 := by
    have := Nat.lt_mul_div_succ H hv
    rw [Nat.mul_comm] at this
    exact this
  have h1 : (H + 1) * (B * E) ≤ (H / v1 + 1) * v1 * (B * E) := Nat.mul_le_mul_right _ h0
  have e1 : (H + 1) * (B * E) = H * B * E + B * E := by grind
  have h2 : (a0 + 1) * E ≤ B * E := Nat.mul_le_mul_right E ha
  have e2 : (H * B + a0) * E + E = H * B * E + (a0 + 1) * E := by grind
  have e3 : (H / v1 + 1) * ((v1 * B + v0) * E + dl) = (H / v1 + 1) * v1 * (B * E) + (H / v1 + 1) * (v0 * E + dl) := by grind
  omega
/-- The guess is the quotient or one more. -/
theorem kn_top {B E v1 v0 H a0 dl ul a2 a1 : Nat} (hv : B ≤ 2 * v1) (hB : 2 ≤ B) (ha1 : a1 < B) (h0 : v0 < B) (hdl : dl < E) (hH : H = a2 * B + a1) (h : (H * B + a0) * E + ul < B * ((v1 * B + v0) * E + dl)) : a2 ≤ v1 := by
  rcases Nat.lt_or_ge v1 a2 with e | e
  · exfalso
    have h1 : (v1 + 1) * B ≤ a2 * B := Nat.mul_le_mul_right B e
    have h2 : (v1 + 1) * B * (B * E) ≤ H * (B * E) := Nat.mul_le_mul_right _ (by omega)
    have e1 : (H * B + a0) * E = H * (B * E) + a0 * E := by grind
    have h3 : (v0 + 1) * E ≤ B * E := Nat.mul_le_mul_right E h0
    have e2 : B * ((v1 * B + v0) * E + dl) = v1 * B * (B * E) + B * (v0 * E + dl) := by grind
    have e3 : (v1 + 1) * B * (B * E) = v1 * B * (B * E) + B * (B * E) := by grind
    have e4 : (v0 + 1) * E = v0 * E + E := by grind
    have h4 : B * (v0 * E + dl) ≤ B * (B * E) := Nat.mul_le_mul_left B (by omega)
    omega
  · exact e
/-- The three greatest limbs tell U and D apart from what lies below. -/
theorem kn_split {b m : Nat} {f : Nat → Nat} : S b f (m + 3) = ((f (m + 2) * b + f (m + 1)) * b + f m) * b ^ m + S b f m := by
  rw [S_succ, S_succ, S_succ, Nat.pow_succ, Nat.pow_succ]; grind
theorem kn_split2 {b m : Nat} {f : Nat → Nat} : S b f (m + 2) = (f (m + 1) * b + f m) * b ^ m + S b f m := by
  rw [S_succ, S_succ, Nat.pow_succ]; grind
end Go.Proofs.YtfgkhdpdjclmkaaGreat

namespace Go.Proofs.YtfgkhdpdjclmkaaGreat

/-- The borrow of x - y - c. -/
def brw (x y c : Int) : Int := if x < y + c then 1 else 0
theorem brw_01 (x y c : Int) : 0 ≤ brw x y c ∧ brw x y c ≤ 1 := by unfold brw; split <;> omega
theorem shr_and (a b : Nat) : (a &&& b) / 2147483648 = (a / 2147483648) &&& (b / 2147483648) := by
  rw [show 2147483648 = 2 ^ 31 from rfl, ← Nat.shiftRight_eq_div_pow, ← Nat.shiftRight_eq_div_pow, ← Nat.shiftRight_eq_div_pow, Nat.shiftRight_and_distrib]
theorem shr_or (a b : Nat) : (a ||| b) / 2147483648 = (a / 2147483648) ||| (b / 2147483648) := by
  rw [show 2147483648 = 2 ^ 31 from rfl, ← Nat.shiftRight_eq_div_pow, ← Nat.shiftRight_eq_div_pow, ← Nat.shiftRight_eq_div_pow, Nat.shiftRight_or_distrib]
theorem shr_xor (a b : Nat) : (a ^^^ b) / 2147483648 = (a / 2147483648) ^^^ (b / 2147483648) := by
  rw [show 2147483648 = 2 ^ 31 from rfl, ← Nat.shiftRight_eq_div_pow, ← Nat.shiftRight_eq_div_pow, ← Nat.shiftRight_eq_div_pow, Nat.shiftRight_xor_distrib]
theorem borrow_nat (x y c d : Nat) (hx : x < 4294967296) (hy : y < 4294967296) (hc : c ≤ 1) (e : (d : Int) = ((x : Int) - y - c) % 4294967296) :
    (((4294967295 ^^^ x) &&& y) ||| ((4294967295 ^^^ (x ^^^ y)) &&& d)) / 2147483648 = if x < y + c then 1 else 0 := by
  rw [shr_or, shr_and, shr_and, shr_xor, shr_xor, shr_xor]
  generalize hmx : x / 2147483648 = mx
  generalize hmy : y / 2147483648 = my
  generalize hmd : d / 2147483648 = md
  have a1 : mx = 0 ∨ mx = 1 := by omega
  have a2 : my = 0 ∨ my = 1 := by omega
  have a3 : md = 0 ∨ md = 1 := by omega
  have k : (4294967295 : Nat) / 2147483648 = 1 := by decide
  rw [k]
  rcases a1 with rfl | rfl <;> rcases a2 with rfl | rfl <;> rcases a3 with rfl | rfl <;> simp <;> omega
theorem borrow_bits (x y c : Int) (hx : 0 ≤ x ∧ x < 4294967296) (hy : 0 ≤ y ∧ y < 4294967296) (hc : 0 ≤ c ∧ c ≤ 1) :
    bits .or .u32 (bits .and .u32 (bits .xor .u32 IntKind.u32.max x) y) (bits .and .u32 (bits .xor .u32 IntKind.u32.max (bits .xor .u32 x y)) ((x - y - c) % 4294967296)) / 2147483648 = brw x y c := by
  obtain ⟨x, rfl⟩ := Int.eq_ofNat_of_zero_le hx.1
  obtain ⟨y, rfl⟩ := Int.eq_ofNat_of_zero_le hy.1
  obtain ⟨c, rfl⟩ := Int.eq_ofNat_of_zero_le hc.1
  obtain ⟨d, hd⟩ := Int.eq_ofNat_of_zero_le (show 0 ≤ ((x : Int) - y - c) % 4294967296 by omega)
  have l1 : x < 4294967296 := by omega
  have l2 : y < 4294967296 := by omega
  have l3 : c ≤ 1 := by omega
  have l4 : d < 4294967296 := by omega
  have hm : IntKind.u32.max = ((4294967295 : Nat) : Int) := by decide
  have b32 : (2 : Nat) ^ 32 = 4294967296 := by decide
  have x1 : 4294967295 ^^^ x < 4294967296 := by rw [← b32]; exact Nat.xor_lt_two_pow (by omega) (by omega)
  have x2 : x ^^^ y < 4294967296 := by rw [← b32]; exact Nat.xor_lt_two_pow (by omega) (by omega)
  have x3 : 4294967295 ^^^ (x ^^^ y) < 4294967296 := by rw [← b32]; exact Nat.xor_lt_two_pow (by omega) (by omega)
  have x4 : (4294967295 ^^^ x) &&& y < 4294967296 := Nat.lt_of_le_of_lt Nat.and_le_right l2
  have x5 : (4294967295 ^^^ (x ^^^ y)) &&& d < 4294967296 := Nat.lt_of_le_of_lt Nat.and_le_right l4
  have key := borrow_nat x y c d l1 l2 l3 hd.symm
  rw [hd, hm, u32_xor_nat _ _ (by omega) l1, u32_xor_nat x y l1 l2, u32_xor_nat _ _ (by omega) x2, u32_and_nat _ _ x1 l2, u32_and_nat _ _ x3 l4, u32_or_nat _ _ x4 x5]
  unfold brw
  rw [show (2147483648 : Int) = ((2147483648 : Nat) : Int) from rfl, ← Int.natCast_ediv, key]
  split <;> split <;> first | rfl | omega
/-- hi above lo. -/
theorem join_bits (hi lo : Int) (hx : 0 ≤ hi ∧ hi < 4294967296) (hy : 0 ≤ lo ∧ lo < 4294967296) : bits .or .u64 (hi * 4294967296) lo = hi * 4294967296 + lo := by
  obtain ⟨x, rfl⟩ := Int.eq_ofNat_of_zero_le hx.1
  obtain ⟨y, rfl⟩ := Int.eq_ofNat_of_zero_le hy.1
  have e : (x : Int) * 4294967296 = ((x * 4294967296 : Nat) : Int) := by omega
  rw [e, u64_or_nat _ _ (by omega) (by omega)]
  have h32 : (2 : Nat) ^ 32 = 4294967296 := by decide
  have hk := Nat.shiftLeft_add_eq_or_of_lt (b := y) (i := 32) (by omega) x
  rw [Nat.shiftLeft_eq, h32] at hk
  rw [← hk]
  omega
end Go.Proofs.YtfgkhdpdjclmkaaGreat

namespace Go.Proofs.YtfgkhdpdjclmkaaGreat
open Go.RowKit

set_option maxHeartbeats 400000 in
theorem sign_any (b : Bool) (w : World) :
    Calls Tryz.prog 136 #[.bool b] w fun e w' => e = .returned (.int .i64 (if b then -1 else 1)) ∧ w = w' := by
  cases b
  all_goals
    go_enter Tryz.func136, Tryz.ntmps136
    go_wp2
    go_ret
    exact ⟨rfl, rfl⟩
set_option maxHeartbeats 400000 in
theorem add32_any (x y c : Int) (w : World) (hx : 0 ≤ x ∧ x < 4294967296) (hy : 0 ≤ y ∧ y < 4294967296) (hc : 0 ≤ c ∧ c ≤ 1) :
    Calls Tryz.prog 148 #[.int .u32 x, .int .u32 y, .int .u32 c] w fun e w' => e = .returned (.tuple #[.int .u32 ((x + y + c) % 4294967296), .int .u32 ((x + y + c) / 4294967296)]) ∧ w = w' := by
  go_enter Tryz.func148, Tryz.ntmps148
  go_wp2
  go_ret2
  exact ⟨rfl, rfl⟩
theorem ret2_of {k j : IntKind} {a a' b b' : Int} (h : a = a') (h2 : b = b') : Ending.returned (.tuple #[.int k a, .int j b]) = .returned (.tuple #[.int k a', .int j b']) := by rw [h, h2]
theorem ret1_of {k : IntKind} {a a' : Int} (h : a = a') : Ending.returned (.int k a) = .returned (.int k a') := by rw [h]
set_option maxHeartbeats 400000 in
theorem sub32_any (x y c : Int) (w : World) (hx : 0 ≤ x ∧ x < 4294967296) (hy : 0 ≤ y ∧ y < 4294967296) (hc : 0 ≤ c ∧ c ≤ 1) :
    Calls Tryz.prog 149 #[.int .u32 x, .int .u32 y, .int .u32 c] w fun e w' => e = .returned (.tuple #[.int .u32 ((x - y - c) % 4294967296), .int .u32 (brw x y c)]) ∧ w = w' := by
  have hb := Lib.hid (borrow_bits x y c hx hy hc)
  go_enter Tryz.func149, Tryz.ntmps149
  go_wp2
  go_ret2
  exact ⟨ret2_of rfl hb.out, rfl⟩
theorem tab_at (b : Int) (h0 : 0 ≤ b) (h1 : b ≤ 255) (h : b.toNat < Lib.len8tab.size) : ((Lib.len8tab[b.toNat]'h).toNat : Int) = (Lib.bitLen b.toNat : Int) := by
  rw [← Lib.len8_of b h0 h1]
  unfold Lib.len8
  rw [getElem?_pos Lib.len8tab b.toNat h]
  rfl
theorem bitLen_8 (b : Int) (h0 : 0 ≤ b) (h1 : b ≤ 255) : Lib.bitLen b.toNat ≤ 8 := Lib.bitLen_le8' b h0 h1
set_option maxHeartbeats 4000000 in
set_option maxRecDepth 100000 in
theorem len32_any (x : Int) (w : World) (hx : 0 ≤ x ∧ x < 4294967296) :
    Calls Tryz.prog 135 #[.int .u32 x] w fun e w' => e = .returned (.int .i64 (Lib.bitLen x.toNat)) ∧ w = w' := by
  have hs := Lib.len8tab_size
  go_enter Tryz.func135, Tryz.ntmps135
  go_wp2
  all_goals (go_ret; refine ⟨ret1_of ?_, rfl⟩)
  · have a := bitLen_8 (x / 65536 / 256) (by omega) (by omega)
    have s := Lib.bitLen_shift24 x.toNat (by omega) (by omega)
    have e : (x / 65536 / 256).toNat = x.toNat / 16777216 := by omega
    show wrap64 (24 + wrap64 _) = _
    rw [tab_at _ (by omega) (by omega), IntWalk.wrap64_in (Lib.bitLen (x / 65536 / 256).toNat : Int) (by omega), IntWalk.wrap64_in _ (by omega), s, e]
    omega
  · have a := bitLen_8 (x / 65536) (by omega) (by omega)
    have s := Lib.bitLen_shift16 x.toNat (by omega) (by omega)
    have e : (x / 65536).toNat = x.toNat / 65536 := by omega
    show wrap64 (16 + wrap64 _) = _
    rw [tab_at _ (by omega) (by omega), IntWalk.wrap64_in (Lib.bitLen (x / 65536).toNat : Int) (by omega), IntWalk.wrap64_in _ (by omega), s, e]
    omega
  · have a := bitLen_8 (x / 256) (by omega) (by omega)
    have s := Lib.bitLen_shift8 x.toNat (by omega) (by omega)
    have e : (x / 256).toNat = x.toNat / 256 := by omega
    show wrap64 (8 + wrap64 _) = _
    rw [tab_at _ (by omega) (by omega), IntWalk.wrap64_in (Lib.bitLen (x / 256).toNat : Int) (by omega), IntWalk.wrap64_in _ (by omega), s, e]
    omega
  · have a := bitLen_8 x (by omega) (by omega)
    show wrap64 (wrap64 _) = _
    rw [tab_at _ (by omega) (by omega), IntWalk.wrap64_in (Lib.bitLen x.toNat : Int) (by omega), IntWalk.wrap64_in _ (by omega)]
theorem bitLen_32 (x : Int) (hx : 0 ≤ x ∧ x < 4294967296) : Lib.bitLen x.toNat ≤ 32 := Lib.bitLen_le x.toNat 32 (by omega) (by omega)
set_option maxHeartbeats 400000 in
theorem lz32_any (x : Int) (w : World) (hx : 0 ≤ x ∧ x < 4294967296) :
    Calls Tryz.prog 151 #[.int .u32 x] w fun e w' => e = .returned (.int .i64 (32 - (Lib.bitLen x.toNat : Int))) ∧ w = w' := by
  have l := bitLen_32 x hx
  go_enter Tryz.func151, Tryz.ntmps151
  go_wp2_with (go_at_call 135; refine (len32_any x _ hx).mono ?_; rintro e w' ⟨rfl, rfl⟩)
  go_ret
  exact ⟨rfl, rfl⟩
theorem quo_small (hi lo y : Int) (hx : 0 ≤ hi ∧ hi < y) (hc : 0 ≤ lo ∧ lo < 4294967296) : (hi * 4294967296 + lo) / y % 4294967296 = (hi * 4294967296 + lo) / y :=
  Int.emod_eq_of_lt (Int.ediv_nonneg (by omega) (by omega)) (Int.ediv_lt_of_lt_mul (by omega) (by omega))
theorem rem_small (hi lo y : Int) (hx : 0 ≤ hi ∧ hi < y) (hy : y < 4294967296) : (hi * 4294967296 + lo) % y % 4294967296 = (hi * 4294967296 + lo) % y := by
  have h1 := Int.emod_nonneg (hi * 4294967296 + lo) (show y ≠ 0 by omega)
  have h2 := Int.emod_lt_of_pos (hi * 4294967296 + lo) (show 0 < y by omega)
  exact Int.emod_eq_of_lt h1 (by omega)
set_option maxHeartbeats 400000 in
theorem div32_any (hi lo y : Int) (w : World) (hx : 0 ≤ hi ∧ hi < y) (hy : y < 4294967296) (hc : 0 ≤ lo ∧ lo < 4294967296) :
    Calls Tryz.prog 150 #[.int .u32 hi, .int .u32 lo, .int .u32 y] w fun e w' => e = .returned (.tuple #[.int .u32 ((hi * 4294967296 + lo) / y), .int .u32 ((hi * 4294967296 + lo) % y)]) ∧ ∃ n, w' = w.drewN n := by
  have hj := join_bits hi lo (by omega) hc
  have y1 : 1 ≤ y := by omega
  have y2 : ¬ y = 0 := by omega
  have h0 : ¬ y ≤ hi := by omega
  have h1 : decide (y ≤ hi) = false := by simpa using h0
  go_enter Tryz.func150, Tryz.ntmps150
  go_wp2
  go_quiet (fail)
  go_wp2
  go_ret2
  exact ⟨ret2_of (quo_small hi lo y hx hc) (rem_small hi lo y hx hy), nq, rfl⟩
end Go.Proofs.YtfgkhdpdjclmkaaGreat

namespace Go.Proofs.YtfgkhdpdjclmkaaGreat
open Go.RowKit
set_option maxHeartbeats 400000
set_option maxRecDepth 100000
set_option linter.unusedSimpArgs false
set_option linter.unusedVariables false

def vld (xs : List Nat) : Bool := decide (xs.length ≤ 600) && (xs.length == 0 || xs.getD (xs.length - 1) 0 != 0)
theorem vld_nil {xs : List Nat} (h : xs.length = 0) : vld xs = true := by simp [vld, h]
theorem vld_big {xs : List Nat} (h : 600 < xs.length) : vld xs = false := by simp [vld]; omega
theorem vld_mid {xs : List Nat} {m : Nat} (h : xs.length = m + 1) (h0 : m + 1 ≤ 600) : vld xs = (nth xs m != 0) := by
  unfold vld nth
  have h1 : decide (xs.length ≤ 600) = true := by simp; omega
  have h2 : (xs.length == 0) = false := beq_eq_false_iff_ne.2 (by omega)
  rw [h1, h2, Bool.true_and, Bool.false_or, h, Bool.eq_iff_iff, bne_iff_ne, bne_iff_ne, Nat.add_sub_cancel]
  omega
theorem retb_of {a a' : Bool} (h : a = a') : Ending.returned (.bool a) = .returned (.bool a') := by rw [h]
abbrev flt (c i : Int) : Value := .agg #[.int .i64 c, .int .i64 i]
theorem valid_any (w : World) (B : Nat) (A : Option Addr) (n c : Nat) (xs : List Nat) (h : LRd w B A n c xs) :
    Calls Tryz.prog 122 #[.slice A n c] w fun e w' => e = .returned (.bool (vld xs)) ∧ w = w' := by
  have hl := h.len
  have hn := h.cap
  by_cases h0 : n = 0
  · subst h0
    go_enter Tryz.func122, Tryz.ntmps122
    go_wp2
    go_ret
    exact ⟨retb_of (vld_nil hl.out).symm, rfl⟩
  · by_cases h1 : n ≤ 600
    · obtain ⟨b, off, rfl, hb, hc⟩ := h.rd (by omega)
      obtain ⟨m, rfl⟩ : ∃ m, n = m + 1 := ⟨n - 1, by omega⟩
      have hcell := hc m (by omega)
      have l1 := nth_nn xs m
      have l2 := h.lim.nth m
      clear hc h0
      go_enter Tryz.func122, Tryz.ntmps122
      go_wp2
      go_ret
      exact ⟨retb_of (vld_mid hl.out h1).symm, rfl⟩
    · go_enter Tryz.func122, Tryz.ntmps122
      go_wp2
      go_ret
      exact ⟨retb_of (vld_big (by have := hl.out; omega)).symm, rfl⟩
theorem checkOne_ok (w : World) (B : Nat) (A : Option Addr) (n c : Nat) (xs : List Nat) (h : LRd w B A n c xs) (hB : B ≤ w.heap.size) (hv : vld xs = true) :
    Calls Tryz.prog 114 #[.slice A n c] w fun e w' => e = .returned (flt 0 0) ∧ Below w.heap.size w w' := by
  have h1 := fun o => h.below ((Below.refl w.heap.size w).alloc (Nat.le_refl _) o) hB
  go_enter Tryz.func114, Tryz.ntmps114
  go_wp2_with (go_at_call 122; refine (valid_any _ B A n c xs (h1 _)).mono ?_; rintro e w' ⟨rfl, rfl⟩)
  exact bodyPost_ret (v := flt 0 0) (by simp [results, Tryz.results114, go_sem]) rfl ⟨rfl, (Below.refl _ _).alloc (Nat.le_refl _) _⟩
theorem checkBoth_ok (w : World) (B : Nat) (A D : Option Addr) (n m c d : Nat) (xs ys : List Nat) (h : LRd w B A n c xs) (k : LRd w B D m d ys) (hB : B ≤ w.heap.size) (hx : vld xs = true) (hy : vld ys = true) :
    Calls Tryz.prog 119 #[.slice A n c, .slice D m d] w fun e w' => e = .returned (flt 0 0) ∧ Below w.heap.size w w' := by
  go_enter Tryz.func119, Tryz.ntmps119
  go_wp2_with fail
  refine (checkOne_ok _ B A n c xs (h.below (bl1 _ _) hB) (by simp; omega) hx).mono ?_
  rintro e w1 ⟨rfl, hb⟩
  obtain ⟨hc, hf⟩ := bcell hb
  have hz : w.heap.size < w1.heap.size := by have := hb.size; simp at this; omega
  have k1 := k.below ((bl1 w _).trans (hb.mono (by simp))) hB
  go_wp2_with (go_at_call 122; refine (valid_any _ B D m d ys (k1.below (bl1 _ _) (by omega))).mono ?_; rintro e w' ⟨rfl, rfl⟩)
  refine bodyPost_ret (v := flt 0 0) (by simp [results, Tryz.results119, go_sem, hc, hf, hz]) rfl ⟨rfl, ?_⟩
  (repeat (first | exact Below.refl _ _ | exact hb | refine Below.setCell ?_ (by simp; done) _ | refine Below.alloc ?_ (by first | omega | (simp; done) | (simp; omega)) _ | refine Below.drew ?_ | refine below_drewN ?_ _ | refine Below.trans ?_ (Below.mono hb (by first | omega | (simp; done) | (simp; omega)))))
theorem at_any (a b : Int) (w : World) :
    Calls Tryz.prog 24 #[.int .i64 a, .int .i64 b] w fun e w' => e = .returned (flt a b) ∧ Below w.heap.size w w' := by
  go_enter Tryz.func24, Tryz.ntmps24
  go_wp2
  refine bodyPost_ret (v := flt a b) (by simp [results, Tryz.results24, go_sem]) rfl ⟨rfl, ?_⟩
  (repeat (first | exact Below.refl _ _ | refine Below.setCell ?_ (by simp; done) _ | refine Below.alloc ?_ (by first | omega | (simp; done) | (simp; omega)) _ | refine Below.drew ?_ | refine below_drewN ?_ _))
theorem limited_ok (w : World) (A : Option Addr) (n c : Nat) (h1 : n ≤ 600) :
    Calls Tryz.prog 130 #[.slice A n c] w fun e w' => e = .returned (.tuple #[.slice A n c, flt 0 0]) ∧ Below w.heap.size w w' := by
  go_enter Tryz.func130, Tryz.ntmps130
  go_wp2
  refine bodyPost_ret (v := .tuple #[.slice A n c, flt 0 0]) (by simp [results, Tryz.results130, go_sem]) rfl ⟨rfl, ?_⟩
  (repeat (first | exact Below.refl _ _ | refine Below.setCell ?_ (by simp; done) _ | refine Below.alloc ?_ (by first | omega | (simp; done) | (simp; omega)) _ | refine Below.drew ?_ | refine below_drewN ?_ _))
theorem limited_bad (w : World) (A : Option Addr) (n c : Nat) (h1 : 600 < n) (h2 : n ≤ 9223372036854775807) :
    Calls Tryz.prog 130 #[.slice A n c] w fun e w' => e = .returned (.tuple #[.slice none 0 0, flt 14 (-1)]) ∧ Below w.heap.size w w' := by
  go_enter Tryz.func130, Tryz.ntmps130
  go_wp2
  refine bodyPost_ret (v := .tuple #[.slice none 0 0, flt 14 (-1)]) (by simp [results, Tryz.results130, go_sem]) rfl ⟨rfl, ?_⟩
  (repeat (first | exact Below.refl _ _ | refine Below.setCell ?_ (by simp; done) _ | refine Below.alloc ?_ (by first | omega | (simp; done) | (simp; omega)) _ | refine Below.drew ?_ | refine below_drewN ?_ _))
/-- Behind k there are zeros alone, and ahead of it none. -/
structure TrimTo (n : Nat) (xs : List Nat) (k : Nat) : Prop where
  le : k ≤ n
  zeros : ∀ j, k ≤ j → j < n → xs.getD j 0 = 0
  top : ∀ m, k = m + 1 → xs.getD m 0 ≠ 0
theorem nth_zero {xs : List Nat} {j : Nat} (h : nth xs j = 0) : xs.getD j 0 = 0 := by unfold nth at h; omega
theorem nth_pos {xs : List Nat} {j : Nat} (h : nth xs j ≠ 0) : xs.getD j 0 ≠ 0 := by unfold nth at h; omega
def slen : Value → Nat | .slice _ n _ => n | _ => 0
def TrimPost (n : Nat) (xs : List Nat) (A : Option Addr) (c : Nat) (w : World) (e : Ending) (w' : World) : Prop := ∃ k, e = .returned (.slice A k c) ∧ TrimTo n xs k ∧ w = w'
def TrimRel (n : Nat) (xs : List Nat) (A : Option Addr) (c : Nat) (v : Value) : Prop := ∃ k, k ≤ n ∧ v = .slice A k c ∧ ∀ j, k ≤ j → j < n → xs.getD j 0 = 0
theorem trim_any (w : World) (B : Nat) (A : Option Addr) (n c : Nat) (xs : List Nat) (h : LRd w B A n c xs) : Calls Tryz.prog 116 #[.slice A n c] w (TrimPost n xs A c w) := by
  have hcap := h.cap
  go_enter Tryz.func116, Tryz.ntmps116
  go_wp2
  go_loop [0] (TrimRel n xs A c) (fun v => slen v)
  case atStart => exact ⟨n, Nat.le_refl _, rfl, fun j h1 h2 => absurd h1 (by omega)⟩
  case round =>
    obtain ⟨k, hk, rfl, hz⟩ := hrel
    have HZ := Lib.hid hz
    clear hz
    by_cases h0 : k = 0
    · subst h0
      go_wp2
      go_ret
      exact ⟨0, rfl, ⟨Nat.zero_le _, HZ.out, fun m hm => by omega⟩, rfl⟩
    · obtain ⟨b, off, rfl, hb, hc⟩ := h.rd (by omega)
      obtain ⟨m, rfl⟩ : ∃ m, k = m + 1 := ⟨k - 1, by omega⟩
      have hcell := hc m (by omega)
      have l1 := nth_nn xs m
      have l2 := h.lim.nth m
      clear hc h0
      by_cases hx : nth xs m = 0
      · have hx' : (nth xs m == 0) = true := beq_iff_eq.2 hx
        have HX := Lib.hid (nth_zero hx)
        clear hx
        go_wp2
        go_round
        case rel => exact ⟨m, by omega, rfl, fun j h1 h2 => by rcases Nat.lt_or_ge m j with h3 | h3; exact HZ.out j (by omega) h2; rw [show j = m by omega]; exact HX.out⟩
        case measure => simp [slen]
      · have hx' : (nth xs m == 0) = false := beq_eq_false_iff_ne.2 hx
        have HX := Lib.hid (nth_pos hx)
        clear hx
        go_wp2
        go_ret
        exact ⟨m + 1, rfl, ⟨by omega, HZ.out, fun i hi => by rw [show i = m by omega]; exact HX.out⟩, rfl⟩
/-- How two lists of limbs of one length compare, as the greatest place says at which they differ. -/
def CmpRel (n : Nat) (xs ys : List Nat) (w : World) (v : Value) (wr : World) : Prop := ∃ i : Int, v = .int .i64 i ∧ -1 ≤ i ∧ i < n ∧ (∀ j : Nat, i < j → j < n → xs.getD j 0 = ys.getD j 0) ∧ ∃ k, wr = w.drewN k
structure CmpIs (n m : Nat) (xs ys : List Nat) (r : Int) : Prop where
  less : r = -1 → n < m ∨ n = m ∧ ∃ k, k < n ∧ xs.getD k 0 < ys.getD k 0 ∧ ∀ j, k < j → j < n → xs.getD j 0 = ys.getD j 0
  same : r = 0 → n = m ∧ ∀ j, j < n → xs.getD j 0 = ys.getD j 0
  more : r = 1 → m < n ∨ n = m ∧ ∃ k, k < n ∧ ys.getD k 0 < xs.getD k 0 ∧ ∀ j, k < j → j < n → ys.getD j 0 = xs.getD j 0
  one : r = -1 ∨ r = 0 ∨ r = 1
def CmpPost (n m : Nat) (xs ys : List Nat) (w : World) (e : Ending) (w' : World) : Prop := ∃ r, e = .returned (.int .i64 r) ∧ CmpIs n m xs ys r ∧ ∃ k, w' = w.drewN k
theorem CmpIs.lt_len {n m : Nat} {xs ys : List Nat} (h : n < m) : CmpIs n m xs ys (-1) := ⟨fun _ => .inl h, fun e => by omega, fun e => by omega, .inl rfl⟩
theorem CmpIs.gt_len {n m : Nat} {xs ys : List Nat} (h : m < n) : CmpIs n m xs ys 1 := ⟨fun e => by omega, fun e => by omega, fun _ => .inl h, .inr (.inr rfl)⟩
theorem compare_len (w : World) (A D : Option Addr) (n m c d : Nat) (xs ys : List Nat) (hn : n ≤ 9223372036854775807) (hm : m ≤ 9223372036854775807) (hne : n ≠ m) :
    Calls Tryz.prog 120 #[.slice A n c, .slice D m d] w (CmpPost n m xs ys w) := by
  have h1 : ((n : Int) != (m : Int)) = true := by rw [bne_iff_ne]; omega
  by_cases hlt : n < m
  · have h2 : decide ((n : Int) < (m : Int)) = true := by simp; omega
    go_enter Tryz.func120, Tryz.ntmps120
    go_wp2_with (go_at_call 136; refine (sign_any true _).mono ?_; rintro e w' ⟨rfl, rfl⟩)
    go_ret
    exact ⟨_, rfl, CmpIs.lt_len hlt, 0, rfl⟩
  · have h2 : decide ((n : Int) < (m : Int)) = false := by simp; omega
    go_enter Tryz.func120, Tryz.ntmps120
    go_wp2_with (go_at_call 136; refine (sign_any false _).mono ?_; rintro e w' ⟨rfl, rfl⟩)
    go_ret
    exact ⟨_, rfl, CmpIs.gt_len (by omega), 0, rfl⟩
theorem compare_same (w : World) (B : Nat) (A D : Option Addr) (n c d : Nat) (xs ys : List Nat) (h : LRd w B A n c xs) (k : LRd w B D n d ys) :
    Calls Tryz.prog 120 #[.slice A n c, .slice D n d] w (CmpPost n n xs ys w) := by
  have hcap := h.cap
  go_enter Tryz.func120, Tryz.ntmps120
  go_wp2_with fail
  go_loopw [5] (CmpRel n xs ys w) (fun v _ => (intOf v + 1).toNat)
  case atStart => exact ⟨(n : Int) - 1, rfl, by omega, by omega, fun j h1 h2 => by omega, 0, rfl⟩
  case round =>
    obtain ⟨i, rfl, h1, h2, he, q, rfl⟩ := hrel
    have HE := Lib.hid he
    clear he
    by_cases h0 : i = -1
    · subst h0
      go_wp2_with fail
      go_ret
      exact ⟨0, rfl, ⟨fun e => by omega, fun _ => ⟨rfl, fun j hj => HE.out j (by omega) hj⟩, fun e => by omega, .inr (.inl rfl)⟩, q, rfl⟩
    · obtain ⟨j, rfl⟩ := Int.eq_ofNat_of_zero_le (show 0 ≤ i by omega)
      obtain ⟨b, off, rfl, hb, hc⟩ := h.rd (by omega)
      obtain ⟨b', off', rfl, hb', hc'⟩ := k.rd (by omega)
      have g1 := hc j (by omega)
      have g2 := hc' j (by omega)
      have a1 := nth_nn xs j
      have a2 := h.lim.nth j
      have a3 := nth_nn ys j
      have a4 := k.lim.nth j
      clear hc hc' h0
      by_cases hx : nth xs j = nth ys j
      · have e1 : (nth xs j != nth ys j) = false := by rw [hx]; simp
        have HX := Lib.hid (nth_eq hx)
        clear hx
        go_wp2_with fail
        go_quiet (fail)
        go_wp2_with fail
        go_roundw
        case rel => exact ⟨(j : Int) - 1, rfl, by omega, by omega, fun i h3 h4 => by rcases Nat.lt_or_ge j i with h5 | h5; exact HE.out i (by omega) h4; rw [show i = j by omega]; exact HX.out, _, rfl⟩
        case measure => first | (simp [intOf]; done) | (simp [intOf]; omega)
      · have e1 : (nth xs j != nth ys j) = true := bne_iff_ne.2 hx
        by_cases hy : nth xs j < nth ys j
        · have e2 : decide (nth xs j < nth ys j) = true := decide_eq_true hy
          have HX := Lib.hid (nth_lt hy)
          clear hx hy
          go_wp2_with fail
          go_quiet (fail)
          go_wp2_with fail
          go_quiet ((go_at_call 136; exact calm _ rfl (sign_any _ _)))
          go_wp2_with fail
          go_ret
          exact ⟨-1, rfl, ⟨fun _ => .inr ⟨rfl, j, by omega, HX.out, fun i h3 h4 => HE.out i (by omega) h4⟩, fun e => by omega, fun e => by omega, .inl rfl⟩, _, (by first | (rw [World.drewN_drewN, World.drewN_drewN]; done) | (rw [World.drewN_drewN]; done) | rfl)⟩
        · have e2 : decide (nth xs j < nth ys j) = false := decide_eq_false hy
          have HX := Lib.hid (nth_lt (show nth ys j < nth xs j by omega))
          clear hx hy
          go_wp2_with fail
          go_quiet (fail)
          go_wp2_with fail
          go_quiet ((go_at_call 136; exact calm _ rfl (sign_any _ _)))
          go_wp2_with fail
          go_ret
          exact ⟨1, rfl, ⟨fun e => by omega, fun e => by omega, fun _ => .inr ⟨rfl, j, by omega, HX.out, fun i h3 h4 => (HE.out i (by omega) h4).symm⟩, .inr (.inr rfl)⟩, _, (by first | (rw [World.drewN_drewN, World.drewN_drewN]; done) | (rw [World.drewN_drewN]; done) | rfl)⟩
theorem info32 : (Tryz.prog.info? 95).map (fun i => (i.zero, i.size, i.bytes)) = some (some (.int .u32 0), 1, 4) := by kernel_rfl
theorem mk32 (n : Nat) (hn : n ≤ 70368744177664) (w : World) :
    (Instr.makeSlice 22 (.int .i64 (n : Int)) (.int .i64 (n : Int))).run Tryz.prog w = .ok (.slice (some ⟨w.heap.size, 0, none⟩) n n) (w.alloc (.cells (List.replicate n (Value.int .u32 0)).toArray 95)) := by
  obtain ⟨i, hi, hz, hs, hb⟩ := info_parts info32
  have hr := run_make (P := Tryz.prog) w 22 95 i (.int .u32 0) Tryz.underlying22 hi hz .i64 .i64 (n : Int) (n : Int) (by omega) (by omega) (by rw [hb]; omega) (by omega)
  rw [hr, hs]
  simp only [Int.toNat_natCast, Nat.mul_one]
  congr 3
  have := toList_madeCells_one (Value.int .u32 0) n
  rw [← this]
  simp [Value.cells]
/-- Block g begins with the limbs cs; behind them may be more cells. -/
def R32 (w : World) (g : Nat) (cs : List Nat) : Prop := ∃ more : List Value, Row w g 95 ((cs.map fun (x : Nat) => Value.int .u32 (x : Int)) ++ more)
section
variable {w w' : World} {g : Nat} {cs : List Nat}
theorem R32.lt (h : R32 w g cs) : g < w.heap.size := Row.lt h.choose_spec
theorem R32.cell (h : R32 w g cs) {j : Nat} (hj : j < cs.length) : w.cell? ⟨g, j, none⟩ = some (.int .u32 (nth cs j)) := by
  obtain ⟨more, h⟩ := h
  rw [Row.cell h, List.getElem?_append_left (by simpa using hj)]
  unfold nth
  simp [hj]
theorem R32.frozen (h : R32 w g cs) (j : Nat) : w.frozen? ⟨g, j, none⟩ = false := Row.frozen h.choose_spec j
theorem R32.new (w : World) (n : Nat) : R32 (w.alloc (.cells (List.replicate n (Value.int .u32 0)).toArray 95)) w.heap.size (List.replicate n 0) := by
  refine ⟨[], ?_⟩
  rw [List.map_replicate, List.append_nil]
  exact Row.new w 95 _
theorem R32.alloc (h : R32 w g cs) (o : Obj) : R32 (w.alloc o) g cs := ⟨_, Row.alloc h.choose_spec o⟩
theorem R32.put (h : R32 w g cs) (j : Nat) {v : Int} (hv : 0 ≤ v) : R32 (w.setCell ⟨g, j, none⟩ (.int .u32 v)) g (cs.set j v.toNat) := by
  obtain ⟨more, h⟩ := h
  have e : ((v.toNat : Nat) : Int) = v := Int.toNat_of_nonneg hv
  have h2 := Row.set_ h j (.int .u32 v)
  rw [List.set_append] at h2
  split at h2
  · refine ⟨more, ?_⟩
    rw [List.map_set, e]
    exact h2
  · rename_i hj
    rw [List.set_eq_of_length_le (by simpa using hj)]
    exact ⟨_, h2⟩
theorem R32.far (h : R32 w g cs) {p : Addr} (hp : g ≠ p.block) (u : Value) : R32 (w.setCell p u) g cs := ⟨_, Row.far h.choose_spec hp u⟩
theorem R32.below {B : Nat} (h : R32 w g cs) (hb : Below B w w') (hg : g < B) : R32 w' g cs := ⟨_, Row.below h.choose_spec hb hg⟩
theorem R32.grown {row : Option Nat} (h : R32 w g cs) (hb : w.grownBy w' row) (hg : some g ≠ row) : R32 w' g cs := ⟨_, Row.grown h.choose_spec hb hg⟩
theorem R32.drewN (h : R32 w g cs) (n : Nat) : R32 (w.drewN n) g cs := h
theorem R32.drew (h : R32 w g cs) : R32 w.drew g cs := h
theorem R32.pre (h : R32 w g cs) (k : Nat) : R32 w g (cs.take k) := by
  obtain ⟨more, h⟩ := h
  refine ⟨((cs.drop k).map fun (x : Nat) => Value.int .u32 (x : Int)) ++ more, ?_⟩
  rw [← List.append_assoc, ← List.map_append, List.take_append_drop]
  exact h
theorem R32.of_own {base c n : Nat} {A : Option Addr} (h : w.ownsRow base 95 1 (.slice A n c) n (cs.map fun (x : Nat) => Value.int .u32 (x : Int))) (hn : 0 < n) : ∃ g, A = some ⟨g, 0, none⟩ ∧ base ≤ g ∧ R32 w g cs ∧ n ≤ c ∧ c ≤ maxLen := by
  rcases h.2 with ⟨_, h0⟩ | ⟨g, cap, cur, hv, hg, hh, h1, h2, _, h3⟩
  · omega
  · injection hv with e1 e2 e3
    subst e1; subst e3
    refine ⟨g, rfl, hg, ⟨cur.toList.drop (n * 1), ?_⟩, h1, h2⟩
    rw [← h3, List.take_append_drop]
    unfold Row
    rw [hh]
/-- A part of the row, as a slice. -/
theorem R32.lrd (h : R32 w g cs) (hl : Lim cs) {B o n c : Nat} (hB : g < B) (hn : o + n ≤ cs.length) (hc : n ≤ c ∧ c ≤ 9223372036854775807) : LRd w B (some ⟨g, o, none⟩) n c ((cs.drop o).take n) := by
  refine ⟨?_, hc, fun x hx => hl x (List.mem_of_mem_drop (List.mem_of_mem_take hx)), fun _ => ⟨g, o, rfl, hB, fun j hj => ?_⟩⟩
  · show _ = _
    rw [List.length_take, List.length_drop]; omega
  · rw [h.cell (by omega)]
    congr 2
    unfold nth
    rw [getD_take, if_pos hj, getD_drop]
theorem R32.lrd0 (h : R32 w g cs) (hl : Lim cs) {B n c : Nat} (hB : g < B) (hn : n ≤ cs.length) (hc : n ≤ c ∧ c ≤ 9223372036854775807) : LRd w B (some ⟨g, 0, none⟩) n c (cs.take n) :=
  h.lrd hl hB (by omega) hc
end
theorem Lim.set {cs : List Nat} (h : Lim cs) {j x : Nat} (hx : x < 4294967296) : Lim (cs.set j x) := by
  intro y hy
  rcases List.mem_or_eq_of_mem_set hy with h1 | h1
  · exact h y h1
  · omega
theorem replicate_getD (n i : Nat) : (List.replicate n 0).getD i 0 = 0 := by
  rcases getD_mem_or (List.replicate n 0) i with h | h
  · exact List.eq_of_mem_replicate h
  · exact h
theorem mod_toNat_lt (v : Int) : (v % 4294967296).toNat < 4294967296 := by omega
theorem toNat_lt32 {v : Int} (h : v < 4294967296) : v.toNat < 4294967296 := by omega
theorem Lim.zeros (n : Nat) : Lim (List.replicate n 0) := by intro x hx; have := List.eq_of_mem_replicate hx; omega
theorem Lim.take {cs : List Nat} (h : Lim cs) (n : Nat) : Lim (cs.take n) := fun x hx => h x (List.mem_of_mem_take hx)
/-- What a function gives that makes a new number. -/
def GivesL (w : World) (p : Nat) (e : Ending) (w' : World) : Prop :=
  ∃ A k c zs, e = .returned (.slice A k c) ∧ LRd w' w'.heap.size A k c zs ∧ Rep 4294967296 zs p ∧ Below w.heap.size w w'
theorem trimmed {n k : Nat} {cs : List Nat} (h : TrimTo n cs k) (hl : cs.length = n) (hd : Lim cs) : Rep 4294967296 (cs.take k) (vb 4294967296 cs) := by
  have e : (cs.take k).length = k := by rw [List.length_take]; have := h.le; omega
  refine ⟨hd.take k, vb_take_of_zeros (by have := h.le; omega) (fun j h1 h2 => h.zeros j h1 (by omega)), fun m hm => ?_⟩
  rw [getD_take, if_pos (by omega)]
  exact h.top m (by omega)
theorem R32.lrdAll {w : World} {g : Nat} {cs : List Nat} (h : R32 w g cs) (hl : Lim cs) {B n c : Nat} (hB : g < B) (hn : Hid (cs.length = n)) (hc : n ≤ c ∧ c ≤ 9223372036854775807) : LRd w B (some ⟨g, 0, none⟩) n c cs := by
  have := h.lrd0 hl (n := n) hB (by rw [hn.out]; exact Nat.le_refl _) hc
  rwa [List.take_of_length_le (by rw [hn.out]; exact Nat.le_refl _)] at this
theorem gives_row {w w' : World} {g n c k p : Nat} {cs : List Nat} (hR : R32 w' g cs) (hl : Lim cs) (hn : Hid (cs.length = n)) (ht : TrimTo n cs k) (hc : n ≤ c ∧ c ≤ 9223372036854775807)
    (hb : Below w.heap.size w w') (hv : vb 4294967296 cs = p) : GivesL w p (.returned (.slice (some ⟨g, 0, none⟩) k c)) w' := by
  have := ht.le
  subst hv
  exact ⟨_, _, _, _, rfl, hR.lrd0 hl hR.lt (by rw [hn.out]; exact this) (by omega), trimmed ht hn.out hl, hb⟩
/-- Digit by digit. -/
theorem sum_step {rs xs ys : List Nat} {k : Nat} {c : Int} (hk : k < rs.length) (hc : 0 ≤ c)
    (h : S 4294967296 (fun i => rs.getD i 0) k + c.toNat * 4294967296 ^ k = S 4294967296 (fun i => xs.getD i 0) k + S 4294967296 (fun i => ys.getD i 0) k) :
    S 4294967296 (fun i => (rs.set k ((nth xs k + nth ys k + c) % 4294967296).toNat).getD i 0) (k + 1) + ((nth xs k + nth ys k + c) / 4294967296).toNat * 4294967296 ^ (k + 1) =
      S 4294967296 (fun i => xs.getD i 0) (k + 1) + S 4294967296 (fun i => ys.getD i 0) (k + 1) := by
  rw [S_succ, S_succ, S_succ, S_ext (g := fun i => rs.getD i 0) (fun j hj => by rw [getD_set _ _ _ _ hk, if_neg (by omega)])]
  rw [getD_set _ _ _ _ hk, if_pos rfl]
  unfold nth
  generalize xs.getD k 0 = x at *
  generalize ys.getD k 0 = y at *
  have e : (((x : Int) + y + c) % 4294967296).toNat + 4294967296 * (((x : Int) + y + c) / 4294967296).toNat = x + y + c.toNat := by omega
  generalize (((x : Int) + y + c) % 4294967296).toNat = r at *
  generalize (((x : Int) + y + c) / 4294967296).toNat = d at *
  rw [Nat.pow_succ]
  generalize 4294967296 ^ k = P at *
  grind
end Go.Proofs.YtfgkhdpdjclmkaaGreat
