/- Memory: what a slice reads as, a block that is known whole. Limbs: .int .u32; digits: .int .i64. -/
import Derived.Test.YtlohapafpgihaaaDoorRows
import Derived.WalkKit
import Derived.Deep.Draws
import Derived.Lib.Hide
namespace Go.Proofs.YtlohapafpgihaaaDoor
open Go.RowKit

/-- Element j of a list of numbers, as an integer. Plain, so that no rule looks into it. -/
@[irreducible] def nth (xs : List Nat) (j : Nat) : Int := ((xs.getD j 0 : Nat) : Int)
theorem nth_nn (xs : List Nat) (j : Nat) : 0 ≤ nth xs j := by unfold nth; omega
def Lim (xs : List Nat) : Prop := ∀ x ∈ xs, x < 4294967296
theorem getD_mem_or (xs : List Nat) (j : Nat) : xs.getD j 0 ∈ xs ∨ xs.getD j 0 = 0 := by
  rcases Nat.lt_or_ge j xs.length with h | h
  · left; simp [h]
  · right; simp [h]
theorem Lim.nth {xs : List Nat} (h : Lim xs) (j : Nat) : Go.Proofs.YtlohapafpgihaaaDoor.nth xs j < 4294967296 := by
  unfold Go.Proofs.YtlohapafpgihaaaDoor.nth
  rcases getD_mem_or xs j with e | e
  · have := h _ e; omega
  · omega

theorem bcell {B : Nat} {W w1 : World} (hb : Below B W w1) : (∀ b o, b < B → w1.cell? ⟨b, o, none⟩ = W.cell? ⟨b, o, none⟩) ∧ (∀ b o, b < B → w1.frozen? ⟨b, o, none⟩ = W.frozen? ⟨b, o, none⟩) :=
  ⟨fun b o h => hb.cell (p := ⟨b, o, none⟩) h, fun b o h => hb.frozen (p := ⟨b, o, none⟩) h⟩
theorem below_drewN {B : Nat} {a w : World} (h : Below B a w) (n : Nat) : Below B a (w.drewN n) := ⟨h.os, h.tape, h.output, h.size, h.block⟩
theorem bl1 (w : World) (o : Obj) : Below w.heap.size w (w.alloc o) := (Below.refl _ _).alloc (Nat.le_refl _) o

theorem nth_eq {xs ys : List Nat} {i j : Nat} (h : nth xs i = nth ys j) : xs.getD i 0 = ys.getD j 0 := by unfold nth at h; omega
theorem nth_lt {xs ys : List Nat} {i j : Nat} (h : nth xs i < nth ys j) : xs.getD i 0 < ys.getD j 0 := by unfold nth at h; omega
/-- A call that leaves the world W alone, where the walk wants its world among those that g lists. -/
theorem calm {P : Program} {f : FuncId} {args : Array Value} {W : World} {v : Value} {g : Nat → World} (n : Nat) (hg : W = g n)
    (h : Calls P f args W fun e w' => e = .returned v ∧ W = w') : Calls P f args W fun e w'' => e = .returned v ∧ ∃ m, w'' = g m :=
  h.mono fun _ _ hh => ⟨hh.1, n, hh.2.symm.trans hg⟩

/-- The places of n elements that begin at A: below block B; place j holds f j. -/
def Rd (w : World) (B : Nat) (A : Option Addr) (n : Nat) (f : Nat → Value) : Prop :=
  0 < n → ∃ b off, A = some ⟨b, off, none⟩ ∧ b < B ∧ ∀ j, j < n → w.cell? ⟨b, off + j, none⟩ = some (f j)

section
variable {w w' : World} {B B' n m : Nat} {A : Option Addr} {f : Nat → Value}
theorem Rd.keep (h : Rd w B A n f) (hk : ∀ p : Addr, p.block < B → w'.cell? p = w.cell? p) : Rd w' B A n f := fun hn => by
  obtain ⟨b, off, e, hb, hc⟩ := h hn
  exact ⟨b, off, e, hb, fun j hj => (hk _ hb).trans (hc j hj)⟩
theorem Rd.more (h : Rd w B A n f) (hB : B ≤ B') : Rd w B' A n f := fun hn => by
  obtain ⟨b, off, e, hb, hc⟩ := h hn
  exact ⟨b, off, e, by omega, hc⟩
theorem Rd.below (h : Rd w B A n f) (hb : Below B' w w') (hB : B ≤ B') : Rd w' B A n f := h.keep fun _ hp => hb.cell (by omega)
theorem Rd.grown (h : Rd w B A n f) {row : Option Nat} (hg : w.grownBy w' row) (hB : B ≤ w.heap.size) (hr : ∀ g, row = some g → B ≤ g) : Rd w' B A n f :=
  h.keep fun p hp => World.cell?_of_block (hg.block p.block (by omega) (fun e => by have := hr _ e.symm; omega))
theorem Rd.take (h : Rd w B A n f) (hm : m ≤ n) : Rd w B A m f := fun hn => by
  obtain ⟨b, off, e, hb, hc⟩ := h (by omega)
  exact ⟨b, off, e, hb, fun j hj => hc j (by omega)⟩
theorem Rd.congr {g : Nat → Value} (h : Rd w B A n f) (he : ∀ j, j < n → f j = g j) : Rd w B A n g := fun hn => by
  obtain ⟨b, off, e, hb, hc⟩ := h hn
  exact ⟨b, off, e, hb, fun j hj => by rw [← he j hj]; exact hc j hj⟩
end

/-- n limbs. -/
structure LRd (w : World) (B : Nat) (A : Option Addr) (n c : Nat) (xs : List Nat) : Prop where
  len : Hid (xs.length = n)
  cap : n ≤ c ∧ c ≤ 9223372036854775807
  lim : Lim xs
  rd : Rd w B A n (fun j => .int .u32 (nth xs j))
/-- n numbers of type int. -/
structure NRd (w : World) (B : Nat) (A : Option Addr) (n c : Nat) (xs : List Nat) : Prop where
  len : Hid (xs.length = n)
  cap : n ≤ c ∧ c ≤ 9223372036854775807
  rd : Rd w B A n (fun j => .int .i64 (nth xs j))

section
variable {w w' : World} {B B' n m c : Nat} {A : Option Addr} {xs : List Nat}
theorem LRd.keep (h : LRd w B A n c xs) (hk : ∀ p : Addr, p.block < B → w'.cell? p = w.cell? p) : LRd w' B A n c xs := ⟨h.len, h.cap, h.lim, h.rd.keep hk⟩
theorem LRd.more (h : LRd w B A n c xs) (hB : B ≤ B') : LRd w B' A n c xs := ⟨h.len, h.cap, h.lim, h.rd.more hB⟩
theorem LRd.below (h : LRd w B A n c xs) (hb : Below B' w w') (hB : B ≤ B') : LRd w' B A n c xs := ⟨h.len, h.cap, h.lim, h.rd.below hb hB⟩
theorem NRd.keep (h : NRd w B A n c xs) (hk : ∀ p : Addr, p.block < B → w'.cell? p = w.cell? p) : NRd w' B A n c xs := ⟨h.len, h.cap, h.rd.keep hk⟩
theorem NRd.more (h : NRd w B A n c xs) (hB : B ≤ B') : NRd w B' A n c xs := ⟨h.len, h.cap, h.rd.more hB⟩
theorem NRd.below (h : NRd w B A n c xs) (hb : Below B' w w') (hB : B ≤ B') : NRd w' B A n c xs := ⟨h.len, h.cap, h.rd.below hb hB⟩
end

/-- Block g is just the cells cs of element type t, none of them frozen. -/
def Row (w : World) (g : Nat) (t : TypeId) (cs : List Value) : Prop := w.heap[g]? = some (.cells cs.toArray t (0, 0))

section
variable {w w' : World} {g : Nat} {t : TypeId} {cs : List Value}
theorem Row.lt (h : Row w g t cs) : g < w.heap.size := by
  rcases Nat.lt_or_ge g w.heap.size with hlt | hge
  · exact hlt
  · unfold Row at h; rw [Array.getElem?_eq_none hge] at h; cases h
theorem Row.cell (h : Row w g t cs) (i : Nat) : w.cell? ⟨g, i, none⟩ = cs[i]? := by
  rw [cell_of_row w g i cs.toArray t (0, 0) h]; simp
theorem Row.frozen (h : Row w g t cs) (i : Nat) : w.frozen? ⟨g, i, none⟩ = false := by
  unfold Row at h; simp [World.frozen?, h]
theorem Row.new (w : World) (t : TypeId) (cs : List Value) : Row (w.alloc (.cells cs.toArray t)) w.heap.size t cs := heap_alloc_new w _
theorem Row.alloc (h : Row w g t cs) (o : Obj) : Row (w.alloc o) g t cs := (Below.heap_alloc w o g h.lt).trans h
theorem Row.set_ (h : Row w g t cs) (i : Nat) (u : Value) : Row (w.setCell ⟨g, i, none⟩ u) g t (cs.set i u) := by
  unfold Row at h ⊢
  simp [World.setCell, Array.getElem?_modify, h]
theorem Row.far (h : Row w g t cs) {p : Addr} (hp : g ≠ p.block) (u : Value) : Row (w.setCell p u) g t cs := (Below.heap_setCell w p u g hp).trans h
theorem Row.below {B : Nat} (h : Row w g t cs) (hb : Below B w w') (hg : g < B) : Row w' g t cs := (hb.block g hg).trans h
theorem Row.grown {row : Option Nat} (h : Row w g t cs) (hb : w.grownBy w' row) (hg : some g ≠ row) : Row w' g t cs := (hb.block g h.lt hg).trans h
theorem Row.drewN (h : Row w g t cs) (n : Nat) : Row (w.drewN n) g t cs := h
end
end Go.Proofs.YtlohapafpgihaaaDoor
