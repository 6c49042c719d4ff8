/- A row of one's own whose block may bear a conversion's mark, and an append of one element to it. An append to a row of one's own leaves no limb in its block. The closure of Terms. The program's expand with the closure of Terms. The program's Terms. -/
import Derived.Test.YtfgkhdpdjclmkaaGreatBk
import Derived.ArgAppend
import Derived.Laws.IdiomStrings
import Derived.Laws.OwnMore
import Derived.Test.YtfgkhdpdjclmkaaGreatBq
import Derived.Maps.AppendAt
import Derived.Deep.DeepCutAuto
import Derived.Deep.LoopGhost
import Derived.Test.YtfgkhdpdjclmkaaGreatBo
namespace Go.Proofs.YtfgkhdpdjclmkaaGreat
open Go.RowKit
set_option maxHeartbeats 400000
set_option maxRecDepth 100000
set_option linter.unusedSimpArgs false
set_option linter.unusedVariables false

/-- A row of one's own: its cells are there and none is frozen. -/
def MRow (w : World) (base : Nat) (v : Value) (n : Nat) (xs : List Value) : Prop :=
  ∃ g cap, v = .slice (some ⟨g, 0, none⟩) n cap ∧ base ≤ g ∧ g < w.heap.size ∧ n ≤ cap ∧ cap ≤ maxLen ∧ xs.length = n ∧ (∀ j, j < n → w.cell? ⟨g, j, none⟩ = xs[j]?) ∧
    (∀ j, j < cap → (w.cell? ⟨g, j, none⟩).isSome = true ∧ w.frozen? ⟨g, j, none⟩ = false)
theorem MRow.below {w w' : World} {base : Nat} {v : Value} {n : Nat} {xs : List Value} (h : MRow w base v n xs) (hb : Below w.heap.size w w') : MRow w' base v n xs := by
  obtain ⟨g, cap, h1, h2, h3, h4, h5, h6, h7, h8⟩ := h
  exact ⟨g, cap, h1, h2, Nat.lt_of_lt_of_le h3 hb.size, h4, h5, h6, fun j hj => (hb.cell (p := ⟨g, j, none⟩) h3).trans (h7 j hj),
    fun j hj => ⟨by rw [hb.cell (p := ⟨g, j, none⟩) h3]; exact (h8 j hj).1, (hb.frozen (p := ⟨g, j, none⟩) h3).trans (h8 j hj).2⟩⟩
theorem MRow.alloc {w : World} {base : Nat} {v : Value} {n : Nat} {xs : List Value} (h : MRow w base v n xs) (o : Obj) : MRow (w.alloc o) base v n xs := h.below (bl1 w o)
theorem MRow.own {w : World} {base b0 n : Nat} {T : TypeId} {v : Value} {xs : List Value} (h : w.ownsRow b0 T 1 v n xs) (hn : 0 < n) (hb : base ≤ b0) : MRow w base v n xs := by
  have hl : xs.length = n := by have := h.1; omega
  rcases h.2 with ⟨_, h0⟩ | ⟨g, cap, cur, rfl, hbg, hg, hnc, hcm, hcs, htk⟩
  · omega
  · have hk : ∀ j, w.cell? ⟨g, j, none⟩ = cur[j]? := fun j => cell_of_row w g j cur T (0, 0) hg
    refine ⟨g, cap, rfl, by omega, (Array.getElem?_eq_some_iff.1 hg).1, hnc, hcm, hl, fun j hj => ?_, fun j hj => ⟨?_, frozen_of_row w g j cur T hg⟩⟩
    · rw [hk j, ← htk, List.getElem?_take, if_pos (by omega)]; simp
    · rw [hk j, Array.getElem?_eq_getElem (by omega)]; rfl
section
variable {P : Program}
end
section
variable {P : Program}
end
def flatI : List IV → List Value
  | [] => []
  | a :: l => .bool a.neg :: .slice a.A a.n a.c :: flatI l
theorem flatI_get : ∀ (l : List IV) (i : Nat) (h : i < l.length), (flatI l)[i * 2]? = some (.bool (l[i]).neg) ∧ (flatI l)[i * 2 + 1]? = some (.slice (l[i]).A (l[i]).n (l[i]).c)
  | b :: l, 0, h => ⟨rfl, rfl⟩
  | b :: l, i + 1, h => by
    have := flatI_get l i (by simpa using h)
    have e1 : (i + 1) * 2 = i * 2 + 2 := by omega
    rw [e1]
    simpa [flatI] using this
/-- The terms so far, in a row of one's own. -/
structure TRw (w : World) (q base n : Nat) (ts : List IV) (v : Value) : Prop where
  Q : Row w q 62 [v]
  len : Hid (ts.length = n)
  own : w.ownsRow base 24 2 v n (flatI ts)
  nol : ∀ g, v.ownBlock = some g → NoLimb w g
def ob (v : Value) (q : Nat) : Nat := match v.ownBlock with | some g => g | none => q
theorem own_form {w : World} {base : Nat} {T : TypeId} {v : Value} {n : Nat} {xs : List Value} (h : w.ownsRow base T 2 v n xs) : ∃ A c, v = .slice A n c ∧ n ≤ c ∧ c ≤ 9223372036854775807 := by
  rcases h.2 with ⟨rfl, rfl⟩ | ⟨g, cap, cur, rfl, _, _, h1, h2, _⟩
  · exact ⟨none, 0, rfl, by omega, by omega⟩
  · exact ⟨_, cap, rfl, h1, by unfold maxLen at h2; omega⟩
theorem NoLimb.of {w w' : World} {g : Nat} (h : NoLimb w g) (e : w'.heap[g]? = w.heap[g]?) : NoLimb w' g := fun j x k => h j x (by rw [← World.cell?_of_block (w := w) (a := ⟨g, j, none⟩) e]; exact k)
theorem TRw.alloc {w : World} {q base n : Nat} {ts : List IV} {v : Value} (h : TRw w q base n ts v) (o : Obj) : TRw (w.alloc o) q base n ts v :=
  ⟨Row.alloc h.Q o, h.len, h.own.alloc o, fun g hg => (h.nol g hg).of (Below.heap_alloc w o g (h.own.lt g hg).2)⟩
theorem TRw.below {w w' : World} {B q base n : Nat} {ts : List IV} {v : Value} (h : TRw w q base n ts v) (hb : Below B w w') (hB : w.heap.size ≤ B) : TRw w' q base n ts v :=
  ⟨Row.below h.Q hb (Nat.lt_of_lt_of_le (Row.lt h.Q) hB), h.len, h.own.kept (row := none) ⟨hb.os, hb.tape, hb.output, hb.size, fun k hk _ => hb.block k (by omega)⟩ (by cases hv : v.ownBlock <;> simp), fun g hg => (h.nol g hg).of (hb.block g (by have := (h.own.lt g hg).2; omega))⟩
/-- The terms from one pair of numbers to another one. -/
def Chain : List Int → Int → Int → Int → Int → Prop
  | [], n0, d0, n, d => n0 = n ∧ d0 = d
  | z :: zs, n0, d0, n, d => 0 < d0 ∧ z = n0 / d0 ∧ Chain zs d0 (n0 % d0) n d
theorem Chain.split : ∀ (xs ys : List Int) (n0 d0 n d : Int), Chain (xs ++ ys) n0 d0 n d ↔ ∃ m e, Chain xs n0 d0 m e ∧ Chain ys m e n d
  | [], ys, n0, d0, n, d => ⟨fun h => ⟨n0, d0, ⟨rfl, rfl⟩, h⟩, fun ⟨m, e, ⟨h1, h2⟩, h3⟩ => by subst h1 h2; exact h3⟩
  | x :: xs, ys, n0, d0, n, d => by
    constructor
    · rintro ⟨h1, h2, h3⟩
      obtain ⟨m, e, h4, h5⟩ := (Chain.split xs ys d0 (n0 % d0) n d).1 h3
      exact ⟨m, e, ⟨h1, h2, h4⟩, h5⟩
    · rintro ⟨m, e, ⟨h1, h2, h4⟩, h5⟩
      exact ⟨h1, h2, (Chain.split xs ys d0 (n0 % d0) n d).2 ⟨m, e, h4, h5⟩⟩
theorem Chain.snoc {zs : List Int} {n0 d0 n d : Int} (h : Chain zs n0 d0 n d) (hd : 0 < d) : Chain (zs ++ [n / d]) n0 d0 d (n % d) :=
  (Chain.split zs [n / d] n0 d0 d (n % d)).2 ⟨n, d, h, hd, rfl, rfl, rfl⟩
/-- Integers with their values. -/
def Trs (w : World) (ts : List IV) (zs : List Int) : Prop := ts.length = zs.length ∧ ∀ i (h : i < ts.length) (h2 : i < zs.length), LRd w w.heap.size (ts[i]).A (ts[i]).n (ts[i]).c (ts[i]).xs ∧ IRep (ts[i]).neg (ts[i]).xs zs[i]
theorem Trs.nil (w : World) : Trs w [] [] := ⟨rfl, fun i h => absurd h (by simp)⟩
theorem Trs.go {w w' : World} {ts : List IV} {zs : List Int} (h : Trs w ts zs) (k : ∀ {A n c xs}, LRd w w.heap.size A n c xs → LRd w' w'.heap.size A n c xs) : Trs w' ts zs :=
  ⟨h.1, fun i h1 h2 => ⟨k (h.2 i h1 h2).1, (h.2 i h1 h2).2⟩⟩
theorem Trs.snoc {w : World} {ts : List IV} {zs : List Int} {t : IV} {z : Int} (h : Trs w ts zs) (ht : LRd w w.heap.size t.A t.n t.c t.xs) (hz : IRep t.neg t.xs z) : Trs w (ts ++ [t]) (zs ++ [z]) := by
  refine ⟨by simp [h.1], fun i h1 h2 => ?_⟩
  rcases Nat.lt_or_ge i ts.length with e | e
  · rw [List.getElem_append_left e, List.getElem_append_left (by rw [← h.1]; exact e)]
    exact h.2 i e _
  · have e1 : i = ts.length := by simp at h1; omega
    subst e1
    rw [List.getElem_append_right (by omega), List.getElem_append_right (by rw [h.1]; exact Nat.le_refl _)]
    have e2 : (ts.length - ts.length) = 0 := by omega
    have e3 : (ts.length - zs.length) = 0 := by rw [h.1]; omega
    simp only [e2, e3, List.getElem_singleton]
    exact ⟨ht, hz⟩
theorem TRw.nq {w : World} {q base n : Nat} {ts : List IV} {v : Value} (h : TRw w q base n ts v) : NoLimb w q := by
  intro j x e
  rw [Row.cell h.Q] at e
  obtain ⟨A, c, rfl, _⟩ := own_form h.own
  match j with
  | 0 => simp at e
  | j + 1 => simp at e
theorem TRw.far {w : World} {q base n : Nat} {ts : List IV} {v : Value} (h : TRw w q base n ts v) {p : Addr} (h1 : p.block ≠ q) (h2 : p.block < base) (u : Value) : TRw (w.setCell p u) q base n ts v := by
  refine ⟨Row.far h.Q (fun e => h1 e.symm) u, h.len, h.own.kept (row := some p.block) ⟨rfl, rfl, rfl, by simp [World.setCell], fun k hk hn => Below.heap_setCell w p u k (fun e => hn (by rw [e]))⟩ (.inr (fun e => ?_)), fun g hg => ?_⟩
  · have := (h.own.lt p.block e).1; omega
  · exact (h.nol g hg).of (Below.heap_setCell w p u g (fun e => by have := (h.own.lt g hg).1; omega))
theorem TRw.drew {w : World} {q base n : Nat} {ts : List IV} {v : Value} (h : TRw w q base n ts v) : TRw w.drew q base n ts v := h.below (B := w.heap.size) (Below.drew (Below.refl _ _)) (Nat.le_refl _)
theorem Kp2.one {a w w' : World} {q g : Nat} (x : Kp2 q q a w) (y : Kp2 q g w w') (hg : g = q ∨ a.heap.size ≤ g) : Kp2 q q a w' :=
  ⟨y.os.trans x.os, y.tape.trans x.tape, y.output.trans x.output, Nat.le_trans x.size y.size, fun k hk h1 _ => (y.block k (Nat.lt_of_lt_of_le hk x.size) h1 (by omega)).trans (x.block k hk h1 h1)⟩
/-- A row of integers that can be read. -/
def TRd (w : World) (A : Option Addr) (n c : Nat) (ts : List IV) : Prop :=
  n ≤ c ∧ c ≤ 9223372036854775807 ∧ Hid (ts.length = n) ∧ (0 < n → ∃ g, A = some ⟨g, 0, none⟩ ∧ g < w.heap.size ∧ ∀ i (h : i < ts.length), w.cell? ⟨g, i * 2, none⟩ = some (.bool (ts[i]).neg) ∧ w.cell? ⟨g, i * 2 + 1, none⟩ = some (.slice (ts[i]).A (ts[i]).n (ts[i]).c))
theorem TRd.below {w w' : World} {B : Nat} {A : Option Addr} {n c : Nat} {ts : List IV} (h : TRd w A n c ts) (hb : Below B w w') (hB : w.heap.size ≤ B) : TRd w' A n c ts := by
  refine ⟨h.1, h.2.1, h.2.2.1, fun hn => ?_⟩
  obtain ⟨g, h1, h2, h3⟩ := h.2.2.2 hn
  exact ⟨g, h1, Nat.lt_of_lt_of_le h2 hb.size, fun i hi => ⟨(hb.cell (p := ⟨g, i * 2, none⟩) (by show g < B; omega)).trans (h3 i hi).1, (hb.cell (p := ⟨g, i * 2 + 1, none⟩) (by show g < B; omega)).trans (h3 i hi).2⟩⟩
theorem TRd.of {w : World} {base n : Nat} {T : TypeId} {v : Value} {ts : List IV} (h : w.ownsRow base T 2 v n (flatI ts)) (hl : ts.length = n) : ∃ A c, v = .slice A n c ∧ TRd w A n c ts := by
  obtain ⟨A, c, rfl, h1, h2⟩ := own_form h
  refine ⟨A, c, rfl, h1, h2, Lib.hid hl, fun hn => ?_⟩
  rcases h.2 with ⟨e, h0⟩ | ⟨g, cap, cur, e, _, hg, _, _, _, _⟩
  · omega
  · injection e with e1 e2 e3
    have hadd : ∀ j, (⟨g, 0, none⟩ : Addr).add j = ⟨g, j, none⟩ := fun j => by unfold Addr.add; split <;> simp_all
    have hc := h.cells (g := g) (by rw [e1]; rfl)
    refine ⟨g, e1, (Array.getElem?_eq_some_iff.1 hg).1, fun i hi => ?_⟩
    have hx := flatI_get ts i hi
    have c1 := hc _ _ hx.1
    have c2 := hc _ _ hx.2
    rw [hadd] at c1 c2
    exact ⟨c1, c2⟩
end Go.Proofs.YtfgkhdpdjclmkaaGreat
