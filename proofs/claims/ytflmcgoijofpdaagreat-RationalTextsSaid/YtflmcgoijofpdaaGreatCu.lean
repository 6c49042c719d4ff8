/- A row of one's own whose block may bear a conversion's mark, and an append of one element to it. -/
import Derived.Test.YtflmcgoijofpdaaGreatCk
import Derived.ArgAppend
import Derived.Laws.IdiomStrings
import Derived.Laws.OwnMore
namespace Go.Proofs.YtflmcgoijofpdaaGreat
open Go.RowKit
set_option maxHeartbeats 400000
set_option maxRecDepth 100000
set_option linter.unusedSimpArgs false
set_option linter.unusedVariables false

/-- A row of one's own: its cells are there and none is frozen. -/
def MRow (w : World) (base : Nat) (v : Value) (n : Nat) (xs : List Value) : Prop :=
  ∃ g cap, v = .slice (some ⟨g, 0, none⟩) n cap ∧ base ≤ g ∧ g < w.heap.size ∧ n ≤ cap ∧ cap ≤ maxLen ∧ xs.length = n ∧ (∀ j, j < n → w.cell? ⟨g, j, none⟩ = xs[j]?) ∧
    (∀ j, j < cap → (w.cell? ⟨g, j, none⟩).isSome = true ∧ w.frozen? ⟨g, j, none⟩ = false)
theorem MRow.below {w w' : World} {base : Nat} {v : Value} {n : Nat} {xs : List Value} (h : MRow w base v n xs) (hb : Below w.heap.size w w') : MRow w' base v n xs := by
  obtain ⟨g, cap, h1, h2, h3, h4, h5, h6, h7, h8⟩ := h
  exact ⟨g, cap, h1, h2, Nat.lt_of_lt_of_le h3 hb.size, h4, h5, h6, fun j hj => (hb.cell (p := ⟨g, j, none⟩) h3).trans (h7 j hj),
    fun j hj => ⟨by rw [hb.cell (p := ⟨g, j, none⟩) h3]; exact (h8 j hj).1, (hb.frozen (p := ⟨g, j, none⟩) h3).trans (h8 j hj).2⟩⟩
theorem MRow.alloc {w : World} {base : Nat} {v : Value} {n : Nat} {xs : List Value} (h : MRow w base v n xs) (o : Obj) : MRow (w.alloc o) base v n xs := h.below (bl1 w o)
theorem MRow.conv (w : World) (base : Nat) (s : ByteArray) (T : TypeId) (hb : base ≤ w.heap.size) (hs : s.size ≤ 4) :
    MRow (w.drew.alloc (.cells (bytesRow s (grownCap w s.size 0 T)) T ((bytesRow s (grownCap w s.size 0 T)).size, (bytesRow s (grownCap w s.size 0 T)).size + 1))) base
      (.slice (some ⟨w.heap.size, 0, none⟩) s.size (grownCap w s.size 0 T)) s.size (bys s.data.toList) := by
  have hge := grownCap_ge w s.size 0 T
  have hcm := grownCap_le_maxLen w s.size 0 T (by unfold maxLen; omega)
  generalize grownCap w s.size 0 T = cap at hge hcm ⊢
  have hsz : s.data.size = s.size := rfl
  have hrs : (bytesRow s cap).size = cap := by simp [bytesRow]; omega
  have hgg : (w.drew.alloc (.cells (bytesRow s cap) T ((bytesRow s cap).size, (bytesRow s cap).size + 1))).heap[w.heap.size]? = some (.cells (bytesRow s cap) T ((bytesRow s cap).size, (bytesRow s cap).size + 1)) := heap_alloc_new w.drew _
  have hc : ∀ j, (w.drew.alloc (.cells (bytesRow s cap) T ((bytesRow s cap).size, (bytesRow s cap).size + 1))).cell? ⟨w.heap.size, j, none⟩ = (bytesRow s cap)[j]? := fun j => cell_of_row _ _ j _ _ _ hgg
  refine ⟨w.heap.size, cap, rfl, hb, by simp, hge, hcm, by simp [bys, hsz], fun j hj => ?_, fun j hj => ⟨?_, ?_⟩⟩
  · rw [hc j]
    have hj' : j < s.data.size := hj
    simp [bytesRow, Array.getElem?_append, hj', bys]
    omega
  · rw [hc j, Array.getElem?_eq_getElem (by omega)]; rfl
  · rw [hrs] at hgg ⊢
    simp only [World.frozen?, hgg]
    simp; omega
theorem MRow.own {w : World} {base b0 n : Nat} {T : TypeId} {v : Value} {xs : List Value} (h : w.ownsRow b0 T 1 v n xs) (hn : 0 < n) (hb : base ≤ b0) : MRow w base v n xs := by
  have hl : xs.length = n := by have := h.1; omega
  rcases h.2 with ⟨_, h0⟩ | ⟨g, cap, cur, rfl, hbg, hg, hnc, hcm, hcs, htk⟩
  · omega
  · have hk : ∀ j, w.cell? ⟨g, j, none⟩ = cur[j]? := fun j => cell_of_row w g j cur T (0, 0) hg
    refine ⟨g, cap, rfl, by omega, (Array.getElem?_eq_some_iff.1 hg).1, hnc, hcm, hl, fun j hj => ?_, fun j hj => ⟨?_, frozen_of_row w g j cur T hg⟩⟩
    · rw [hk j, ← htk, List.getElem?_take, if_pos (by omega)]; simp
    · rw [hk j, Array.getElem?_eq_getElem (by omega)]; rfl
section
variable {P : Program}
theorem run_append_mrow (w : World) (base : Nat) (t ty T : TypeId) (i : TypeInfo) (z : Value) (bytes : Nat) (ht : P.underlying t = some (.slice T)) (hi : P.info? T = some i) (hz : i.zero = some z) (hsize : i.size = 1) (hby : i.bytes = bytes) (hzs : z.cells.size = 1)
    {v : Value} {n : Nat} {xs : List Value} (h : MRow w base v n xs) (ad : Addr) (c : Nat) (u : Value) (hnews : ∀ j y, [u][j]? = some y → w.cell? (ad.add j) = some y) (h1 : u.oneCell' = true) (h63 : n + 1 ≤ maxLen) (hbytes : (n + 1) * bytes ≤ 140737488355328) (hbw : base ≤ w.heap.size) :
    ∃ v' w', (Builtin.append_ #[t, t] ty #[v, .slice (some ad) 1 c]).run P w = .ok v' w' ∧ MRow w' base v' (n + 1) (xs ++ [u]) ∧ Below base w w' := by
  obtain ⟨g, cap, rfl, hb, hlt, hnc, hcm, hxl, hce, hfr⟩ := h
  have hadd : ∀ j, (⟨g, 0, none⟩ : Addr).add j = ⟨g, j, none⟩ := fun j => by unfold Addr.add; split <;> simp_all
  have h1' : ∀ y ∈ [u], y.oneCell' = true := fun y hy => by simp at hy; subst hy; exact h1
  by_cases hr : n + 1 ≤ cap
  · have hrun := run_append_room_cells (P := P) w t ty T i ht hi g 0 n cap ad 1 c [u] (by simp [hsize]) hnews h1' hr
      (fun j hj => by simp at hj; subst hj; rw [hsize]; have := (hfr n (by omega)).1; simpa using this)
      (fun j hj => by simp at hj; subst hj; rw [hsize]; have := (hfr n (by omega)).2; simpa using this)
    refine ⟨_, _, hrun, ⟨g, cap, rfl, hb, by simp [World.setCells, World.setCell]; exact hlt, hr, hcm, by simp [hxl], fun j hj => ?_, fun j hj => ⟨?_, ?_⟩⟩, ?_⟩
    · rw [hsize, Nat.mul_one, Nat.zero_add]
      by_cases e : j = n
      · subst e
        have hs1 := (hfr j (by omega)).1
        have := World.cell?_setCells_in g [u] j w (fun k hk => by simp at hk; subst hk; simpa using hs1) 0 (by simp)
        simp only [Nat.add_zero] at this
        rw [this, List.getElem?_append_right (by omega), hxl, Nat.sub_self]; rfl
      · rw [World.cell?_setCells_out g [u] n w _ (fun _ _ => .inl (by show j < n; omega)), List.getElem?_append_left (by omega)]
        exact hce j (by omega)
    · rw [hsize, Nat.mul_one, Nat.zero_add]
      by_cases e : j = n
      · subst e
        have hs1 := (hfr j (by omega)).1
        have := World.cell?_setCells_in g [u] j w (fun k hk => by simp at hk; subst hk; simpa using hs1) 0 (by simp)
        simp only [Nat.add_zero] at this
        rw [this]; rfl
      · rw [World.cell?_setCells_out g [u] n w _ (fun _ _ => by show j < n ∨ n + 1 ≤ j; omega)]
        exact (hfr j hj).1
    · rw [World.frozen?_setCells]; exact (hfr j hj).2
    · exact (Below.refl base w).setCell (by show base ≤ g; omega) _
  · obtain ⟨v', w', hrun, r1, r2⟩ := run_append_arg_grows (P := P) w t ty T i z 1 bytes ht hi hz hsize hby hzs (by decide) ⟨g, 0, none⟩ n cap xs (by omega) (fun j y hy => by
        rw [hadd j]
        have hj : j < n := by have := (List.getElem?_eq_some_iff.1 hy).1; omega
        rw [hce j hj]; exact hy) ad 1 c [u] (by simp) hnews (by omega) h63 hbytes
    exact ⟨v', w', hrun, MRow.own r1 (by omega) hbw, (Below.refl base w).grown r2 hbw (fun k hk => by cases hk)⟩
theorem wpList_append_mrow (w : World) {ops : Array Oper} {rest : List Oper} {o : Oper} {a : Act} {Q : Exit → Act → World → Prop} (hgd : o.guard = none) (s x : Operand) (t : TypeId)
    (ho : o.op = .call { callee := .builtin .append, args := #[s, x], argTypes := #[t, t] })
    (base : Nat) (T : TypeId) (i : TypeInfo) (z : Value) (bytes : Nat) (ht : P.underlying t = some (.slice T)) (hi : P.info? T = some i) (hz : i.zero = some z) (hsize : i.size = 1) (hby : i.bytes = bytes) (hzs : z.cells.size = 1)
    {v : Value} {n : Nat} {xs : List Value} (hs : a.eval s = v) (h : MRow w base v n xs)
    (ad : Addr) (c : Nat) (u : Value) (hx : a.eval x = .slice (some ad) 1 c) (hnews : ∀ j y, [u][j]? = some y → w.cell? (ad.add j) = some y) (h1 : u.oneCell' = true) (h63 : n + 1 ≤ maxLen) (hbytes : (n + 1) * bytes ≤ 140737488355328) (hbw : base ≤ w.heap.size)
    (hK : ∀ v' w', MRow w' base v' (n + 1) (xs ++ [u]) → Below base w w' → wpList P ops Q rest (a.put o.dst v') w') : wpList P ops Q (o :: rest) a w := by
  refine wpList_plain hgd fun K hK' => ?_
  obtain ⟨v', w', hrun, r1, r2⟩ := run_append_mrow (P := P) w base t o.type T i z bytes ht hi hz hsize hby hzs h ad c u hnews h1 h63 hbytes hbw
  unfold Oper.wp
  simp [execOp, ho, resolve, invoke, builtin, hs, hx, hrun, Result.andThen]
  exact hK' _ _ (hK v' w' r1 r2)
end
end Go.Proofs.YtflmcgoijofpdaaGreat
