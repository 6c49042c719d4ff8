/- A row of one's own whose block may bear a conversion's mark, and an append of one element to it. An append to a row of one's own leaves no limb in its block. The closure of Terms. The program's expand with the closure of Terms. The program's Terms. -/
import Derived.Test.YtflmcgoijofpdaaGreatBk
import Derived.ArgAppend
import Derived.Laws.IdiomStrings
import Derived.Laws.OwnMore
import Derived.Test.YtflmcgoijofpdaaGreatBq
import Derived.Maps.AppendAt
import Derived.Deep.DeepCutAuto
import Derived.Deep.LoopGhost
import Derived.Test.YtflmcgoijofpdaaGreatBo
namespace Go.Proofs.YtflmcgoijofpdaaGreat
open Go.RowKit
set_option maxHeartbeats 400000
set_option maxRecDepth 100000
set_option linter.unusedSimpArgs false
set_option linter.unusedVariables false

/-- A row of one's own: its cells are there and none is frozen. -/
def MRow (w : World) (base : Nat) (v : Value) (n : Nat) (xs : List Value) : Prop :=
  ∃ g cap, v = .slice (some ⟨g, 0, none⟩) n cap ∧ base ≤ g ∧ g < w.heap.size ∧ n ≤ cap ∧ cap ≤ maxLen ∧ xs.length = n ∧ (∀ j, j < n → w.cell? ⟨g, j, none⟩ = xs[j]?) ∧
    (∀ j, j < cap → (w.cell? ⟨g, j, none⟩).isSome = true ∧ w.frozen? ⟨g, j, none⟩ = false)
theorem MRow.below {w w' : World} {base : Nat} {v : Value} {n : Nat} {xs : List Value} (h : MRow w base v n xs) (hb : Below w.heap.size w w') : MRow w' base v n xs := by
  obtain ⟨g, cap, h1, h2, h3, h4, h5, h6, h7, h8⟩ := h
  exact ⟨g, cap, h1, h2, Nat.lt_of_lt_of_le h3 hb.size, h4, h5, h6, fun j hj => (hb.cell (p := ⟨g, j, none⟩) h3).trans (h7 j hj),
    fun j hj => ⟨by rw [hb.cell (p := ⟨g, j, none⟩) h3]; exact (h8 j hj).1, (hb.frozen (p := ⟨g, j, none⟩) h3).trans (h8 j hj).2⟩⟩
theorem MRow.alloc {w : World} {base : Nat} {v : Value} {n : Nat} {xs : List Value} (h : MRow w base v n xs) (o : Obj) : MRow (w.alloc o) base v n xs := h.below (bl1 w o)
theorem MRow.own {w : World} {base b0 n : Nat} {T : TypeId} {v : Value} {xs : List Value} (h : w.ownsRow b0 T 1 v n xs) (hn : 0 < n) (hb : base ≤ b0) : MRow w base v n xs := by
  have hl : xs.length = n := by have := h.1; omega
  rcases h.2 with ⟨_, h0⟩ | ⟨g, cap, cur, rfl, hbg, hg, hnc, hcm, hcs, htk⟩
  · omega
  · have hk : ∀ j, w.cell? ⟨g, j, none⟩ = cur[j]? := fun j => cell_of_row w g j cur T (0, 0) hg
    refine ⟨g, cap, rfl, by omega, (Array.getElem?_eq_some_iff.1 hg).1, hnc, hcm, hl, fun j hj => ?_, fun j hj => ⟨?_, frozen_of_row w g j cur T hg⟩⟩
    · rw [hk j, ← htk, List.getElem?_take, if_pos (by omega)]; simp
    · rw [hk j, Array.getElem?_eq_getElem (by omega)]; rfl
section
variable {P : Program}
end
end Go.Proofs.YtflmcgoijofpdaaGreat

namespace Go.Proofs.YtflmcgoijofpdaaGreat
open Go.RowKit
set_option maxHeartbeats 400000
set_option maxRecDepth 100000
set_option linter.unusedSimpArgs false
set_option linter.unusedVariables false

/-- No limb. -/
def NU (u : Value) : Prop := ∀ x, u ≠ .int .u32 x
theorem nolimb_row {w : World} {g : Nat} {cur : Array Value} {T : TypeId} {fr : Nat × Nat} (hg : w.heap[g]? = some (.cells cur T fr)) (h : ∀ u ∈ cur.toList, NU u) : NoLimb w g := by
  intro j x e
  rw [cell_of_row w g j cur T fr hg] at e
  exact h _ (by have := Array.mem_of_getElem? e; simpa using this) x rfl
theorem row_nolimb {w : World} {g : Nat} {cur : Array Value} {T : TypeId} {fr : Nat × Nat} (hg : w.heap[g]? = some (.cells cur T fr)) (h : NoLimb w g) : ∀ u ∈ cur.toList, NU u := by
  intro u hu x e
  subst e
  have h1 : Value.int .u32 x ∈ cur := by simpa using hu
  obtain ⟨j, hj⟩ := Array.getElem?_of_mem h1
  exact h j x (by rw [cell_of_row w g j cur T fr hg]; exact hj)
theorem nu_zeros (z : Array Value) (hz : ∀ u ∈ z.toList, NU u) (n : Nat) : ∀ u ∈ (Builtin.zeroCells z n).toList, NU u := by
  intro u hu
  simp only [Builtin.zeroCells] at hu
  simp only [Array.toList_map, List.mem_map] at hu
  obtain ⟨l, hl, rfl⟩ := hu
  have hl2 : l < n * z.size := by simpa using hl
  have h0 : 0 < z.size := by
    rcases Nat.eq_zero_or_pos z.size with e | e
    · rw [e] at hl2; omega
    · exact e
  have h1 := Nat.mod_lt l h0
  rw [getElem!_pos z _ h1]
  exact hz _ (by simp)
section
variable {P : Program}
theorem nol_append (w : World) (base : Nat) (t ty T : TypeId) (i : TypeInfo) (z : Value) (size bytes : Nat) (ht : P.underlying t = some (.slice T)) (hi : P.info? T = some i) (hz : i.zero = some z)
    (hsize : i.size = size) (hby : i.bytes = bytes) (hzn : ∀ u ∈ z.cells.toList, NU u)
    (v : Value) (n : Nat) (xs : List Value) (hown : w.ownsRow base T size v n xs) (hno : ∀ g, v.ownBlock = some g → NoLimb w g)
    (a : Addr) (m c : Nat) (news : List Value) (hm : 0 < m) (hl : news.length = m * size) (hnews : ∀ j u, news[j]? = some u → w.cell? (a.add j) = some u) (h1 : ∀ u ∈ news, u.oneCell' = true) (hnn : ∀ u ∈ news, NU u)
    (h63 : n + m ≤ maxLen) (hbytes : (n + m) * bytes ≤ 140737488355328) {v' : Value} {w' : World} (hr : (Builtin.append_ #[t, t] ty #[v, .slice (some a) m c]).run P w = .ok v' w') : ∀ g, v'.ownBlock = some g → NoLimb w' g := by
  subst hsize hby
  have hs : n + m ≤ 9223372036854775807 := by simp only [maxLen] at h63; omega
  rcases hown.2 with ⟨rfl, rfl⟩ | ⟨g, cap, cur, rfl, hbg, hg, hnc, hcm, hcs, htk⟩
  · have hq := run_append_nil (P := P) w t ty T i z ht hi hz a m c news hl hnews hm (by omega) (by have hb := hbytes; simp only [Nat.zero_add] at hb; omega)
    rw [hr] at hq
    injection hq with e1 e2
    subst e1 e2
    intro g hgg
    simp [Value.ownBlock] at hgg
    subst hgg
    refine nolimb_row (heap_alloc_new w.drew _) ?_
    intro u hu
    rw [Array.toList_append, List.mem_append] at hu
    rcases hu with hu | hu
    · exact hnn u (by simpa using hu)
    · exact nu_zeros _ hzn _ u hu
  · have hnl := row_nolimb hg (hno g rfl)
    by_cases hroom : n + m ≤ cap
    · have hq := run_append_room (P := P) w t ty T i ht hi g n cap cur hg a m c news hl hnews h1 hroom (by rw [hl, hcs, ← Nat.add_mul]; exact Nat.mul_le_mul_right _ hroom)
      rw [hr] at hq
      injection hq with e1 e2
      subst e1 e2
      intro g' hgg
      simp [Value.ownBlock] at hgg
      subst hgg
      refine nolimb_row (setRow_heap w g cur _ T _ hg) ?_
      intro u hu
      have hu2 : u ∈ cur.toList.take (n * i.size) ++ news ++ cur.toList.drop (n * i.size + news.length) := by simpa using hu
      rcases List.mem_append.1 hu2 with hu | hu
      · rcases List.mem_append.1 hu with hu | hu
        · exact hnl u (List.mem_of_mem_take hu)
        · exact hnn u hu
      · exact hnl u (List.mem_of_mem_drop hu)
    · have holds : ∀ j u, xs[j]? = some u → w.cell? ((⟨g, 0, none⟩ : Addr).add j) = some u := hown.cells (g := g) rfl
      have hq := run_append_grow (P := P) w t ty T i z ht hi hz ⟨g, 0, none⟩ n cap xs hown.1 holds a m c news hl hnews (by omega) (by omega) (growslice_fits (by omega) hbytes)
      rw [hr] at hq
      injection hq with e1 e2
      subst e1 e2
      intro g' hgg
      simp [Value.ownBlock] at hgg
      subst hgg
      refine nolimb_row (heap_alloc_new w.drew _) ?_
      intro u hu
      rw [Array.toList_append, List.mem_append, Array.toList_append, List.mem_append] at hu
      rcases hu with (hu | hu) | hu
      · have hu2 : u ∈ xs := by simpa using hu
        rw [← htk] at hu2
        exact hnl u (List.mem_of_mem_take hu2)
      · exact hnn u (by simpa using hu)
      · exact nu_zeros _ hzn _ u hu
/-- An append to a row of one's own, where no limb lies in its block. -/
theorem wpList_append_nol (w : World) {ops : Array Oper} {rest : List Oper} {o : Oper} {a : Act} {Q : Exit → Act → World → Prop} (hgd : o.guard = none) (s x : Operand) (t : TypeId)
    (ho : o.op = .call { callee := .builtin .append, args := #[s, x], argTypes := #[t, t] })
    (base : Nat) (T : TypeId) (i : TypeInfo) (z : Value) (size bytes : Nat) (ht : P.underlying t = some (.slice T)) (hi : P.info? T = some i) (hz : i.zero = some z)
    (hsize : i.size = size) (hby : i.bytes = bytes) (hzs : z.cells.size = size) (hsz : 0 < size) (hzn : ∀ u ∈ z.cells.toList, NU u)
    (v : Value) (n : Nat) (xs : List Value) (hs : a.eval s = v) (hown : w.ownsRow base T size v n xs) (hno : ∀ g, v.ownBlock = some g → NoLimb w g)
    (ad : Addr) (m c : Nat) (news : List Value) (hx : a.eval x = .slice (some ad) m c) (hm : 0 < m) (hl : news.length = m * size) (hnews : ∀ j u, news[j]? = some u → w.cell? (ad.add j) = some u) (h1 : ∀ u ∈ news, u.oneCell' = true) (hnn : ∀ u ∈ news, NU u)
    (h63 : n + m ≤ maxLen) (hbytes : (n + m) * bytes ≤ 140737488355328) (hbase : base ≤ w.heap.size)
    (h : ∀ v' w', w'.ownsRow base T size v' (n + m) (xs ++ news) → w.grownBy w' v.ownBlock → (v'.ownBlock = v.ownBlock ∨ v'.ownBlock = some w.heap.size) → (∀ g, v'.ownBlock = some g → NoLimb w' g) → wpList P ops Q rest (a.put o.dst v') w') :
    wpList P ops Q (o :: rest) a w := by
  refine wpList_plain hgd fun K hK => ?_
  obtain ⟨v', w', hr, h2, h3, _, h5⟩ := run_append_own_at (P := P) w base t o.type T i z size bytes ht hi hz hsize hby hzs hsz v n xs hown ad m c news hl hnews h1 h63 hbytes hbase
  have h6 := nol_append (P := P) w base t o.type T i z size bytes ht hi hz hsize hby hzn v n xs hown hno ad m c news hm hl hnews h1 hnn h63 hbytes hr
  unfold Oper.wp
  simp [execOp, ho, resolve, invoke, builtin, hs, hx, hr, Result.andThen]
  exact hK _ _ (h v' w' h2 h3 h5 h6)
end
end Go.Proofs.YtflmcgoijofpdaaGreat

namespace Go.Proofs.YtflmcgoijofpdaaGreat
open Go.RowKit
set_option maxHeartbeats 400000
set_option maxRecDepth 100000
set_option linter.unusedSimpArgs false
set_option linter.unusedVariables false

theorem infoInt : (Tryz.prog.info? 24).map (fun i => (i.zero, i.size, i.bytes)) = some (some (.agg #[.bool false, .slice none 0 0]), 2, 32) := by kernel_rfl
def flatI : List IV → List Value
  | [] => []
  | a :: l => .bool a.neg :: .slice a.A a.n a.c :: flatI l
theorem flatI_snoc : ∀ (l : List IV) (a : IV), flatI (l ++ [a]) = flatI l ++ [.bool a.neg, .slice a.A a.n a.c]
  | [], a => rfl
  | b :: l, a => by simp [flatI, flatI_snoc l a]
theorem flatI_get : ∀ (l : List IV) (i : Nat) (h : i < l.length), (flatI l)[i * 2]? = some (.bool (l[i]).neg) ∧ (flatI l)[i * 2 + 1]? = some (.slice (l[i]).A (l[i]).n (l[i]).c)
  | b :: l, 0, h => ⟨rfl, rfl⟩
  | b :: l, i + 1, h => by
    have := flatI_get l i (by simpa using h)
    have e1 : (i + 1) * 2 = i * 2 + 2 := by omega
    rw [e1]
    simpa [flatI] using this
theorem cell_two_new (w : World) (n : Nat) (hn : n = w.heap.size) (x y : Value) (t : TypeId) : ∀ j u, [x, y][j]? = some u → (w.alloc (.cells #[x, y] t)).cell? ((⟨n, 0, none⟩ : Addr).add j) = some u := by
  subst hn
  intro j u hj
  have hadd : ∀ j, (⟨w.heap.size, 0, none⟩ : Addr).add j = ⟨w.heap.size, j, none⟩ := fun j => by unfold Addr.add; split <;> simp_all
  rw [hadd, World.cell?_alloc_new]
  simpa using hj
/-- The terms so far, in a row of one's own. -/
structure TRw (w : World) (q base n : Nat) (ts : List IV) (v : Value) : Prop where
  Q : Row w q 62 [v]
  len : Hid (ts.length = n)
  own : w.ownsRow base 24 2 v n (flatI ts)
  nol : ∀ g, v.ownBlock = some g → NoLimb w g
def ob (v : Value) (q : Nat) : Nat := match v.ownBlock with | some g => g | none => q
theorem own_form {w : World} {base : Nat} {T : TypeId} {v : Value} {n : Nat} {xs : List Value} (h : w.ownsRow base T 2 v n xs) : ∃ A c, v = .slice A n c ∧ n ≤ c ∧ c ≤ 9223372036854775807 := by
  rcases h.2 with ⟨rfl, rfl⟩ | ⟨g, cap, cur, rfl, _, _, h1, h2, _⟩
  · exact ⟨none, 0, rfl, by omega, by omega⟩
  · exact ⟨_, cap, rfl, h1, by unfold maxLen at h2; omega⟩
theorem NoLimb.of {w w' : World} {g : Nat} (h : NoLimb w g) (e : w'.heap[g]? = w.heap[g]?) : NoLimb w' g := fun j x k => h j x (by rw [← World.cell?_of_block (w := w) (a := ⟨g, j, none⟩) e]; exact k)
theorem TRw.alloc {w : World} {q base n : Nat} {ts : List IV} {v : Value} (h : TRw w q base n ts v) (o : Obj) : TRw (w.alloc o) q base n ts v :=
  ⟨Row.alloc h.Q o, h.len, h.own.alloc o, fun g hg => (h.nol g hg).of (Below.heap_alloc w o g (h.own.lt g hg).2)⟩
theorem TRw.below {w w' : World} {B q base n : Nat} {ts : List IV} {v : Value} (h : TRw w q base n ts v) (hb : Below B w w') (hB : w.heap.size ≤ B) : TRw w' q base n ts v :=
  ⟨Row.below h.Q hb (Nat.lt_of_lt_of_le (Row.lt h.Q) hB), h.len, h.own.kept (row := none) ⟨hb.os, hb.tape, hb.output, hb.size, fun k hk _ => hb.block k (by omega)⟩ (by cases hv : v.ownBlock <;> simp), fun g hg => (h.nol g hg).of (hb.block g (by have := (h.own.lt g hg).2; omega))⟩
/-- What the closure leaves. -/
def TmPost (q base n : Nat) (ts : List IV) (t : IV) (v : Value) (r : Bool) (w : World) (e : Ending) (w' : World) : Prop :=
  ∃ v', e = .returned (.bool r) ∧ TRw w' q base (n + 1) (ts ++ [t]) v' ∧ Kp2 q (ob v q) w w'
theorem grown_kp2 {w w' : World} {v : Value} {q : Nat} (h : w.grownBy w' v.ownBlock) : Kp2 q (ob v q) w w' :=
  ⟨h.os, h.tape, h.output, h.size, fun k hk h1 h2 => h.block k hk (fun e => by unfold ob at h2; rw [← e] at h2; exact h2 rfl)⟩
theorem nu_int0 : ∀ u ∈ (Value.agg #[.bool false, .slice none 0 0]).cells.toList, NU u := by
  intro u hu x e
  subst e
  simp [Value.cells] at hu
theorem nu_int1 {b : Bool} {A : Option Addr} {k c : Nat} : ∀ u ∈ ([.bool b, .slice A k c] : List Value), NU u := by
  intro u hu x e
  subst e
  simp at hu
theorem ob_ne {w : World} {base n q : Nat} {T : TypeId} {v : Value} {xs : List Value} (h : w.ownsRow base T 2 v n xs) (hq : q < base) : some q ≠ v.ownBlock := fun e => by
  have := (h.lt q e.symm).1
  omega
theorem grown_set_any {w : World} {q j : Nat} (u : Value) : w.grownBy (w.setCell ⟨q, j, none⟩ u) (some q) :=
  ⟨rfl, rfl, rfl, by simp [World.setCell], fun k hk hn => Below.heap_setCell w _ u k (fun e => hn (by rw [e]))⟩
set_option maxHeartbeats 4000000 in
theorem tm_more (w : World) (q base n : Nat) (t : IV) (ts : List IV) (v : Value) (H : TRw w q base n ts v) (hq : q < base) (hb : base ≤ w.heap.size) (hn : n < 400) :
    Calls Tryz.prog 82 #[t.v, .pointer (some ⟨q, 0, none⟩)] w (TmPost q base n ts t v true w) := by
  have hle : decide ((n : Int) + 1 ≤ 400) = true := decide_eq_true (by omega)
  obtain ⟨i0, hi, iz0, iz1, iz2⟩ := info_parts infoInt
  have HQ := H.Q
  have hlq := Row.lt HQ
  have c0 : w.cell? ⟨q, 0, none⟩ = some v := Row.cell HQ 0
  go_enter Tryz.func82, Tryz.ntmps82
  go_wp2_with (at_builtin; refine wpList_append_nol _ rfl _ _ 62 rfl base 24 i0 (.agg #[.bool false, .slice none 0 0]) 2 32 Tryz.underlying62 hi iz0 iz1 iz2 rfl (by decide) nu_int0 v n (flatI ts) rfl ((H.own.alloc _).alloc _) ((H.alloc _).alloc _).nol ⟨w.heap.size + 1, 0, none⟩ 1 1 [.bool t.neg, .slice t.A t.n t.c] rfl (by decide) rfl (cell_two_new _ _ (by simp) _ _ _) (fun u hu => by simp at hu; rcases hu with rfl | rfl <;> rfl) nu_int1 (by unfold maxLen; omega) (by omega) (by simp; omega) ?_; intro v' w1 hown' hgrow hat hno'; obtain ⟨A', c', rfl, hc1, hc2⟩ := own_form hown'; have y0 : w1.cell? ⟨q, 0, none⟩ = some v := hgrow.cell (by have h1 := Row.cell (Row.alloc (Row.alloc HQ (.cells #[.bool t.neg, .slice t.A t.n t.c] 24)) (.cells #[.bool t.neg, .slice t.A t.n t.c] 24)) 0; exact h1) (ob_ne H.own hq); have z0 : w1.frozen? ⟨q, 0, none⟩ = false := hgrow.frozen_far ⟨q, 0, none⟩ (by simp; omega) (ob_ne H.own hq) ▸ (Row.frozen (Row.alloc (Row.alloc HQ (.cells #[.bool t.neg, .slice t.A t.n t.c] 24)) (.cells #[.bool t.neg, .slice t.A t.n t.c] 24)) 0); have RQ : Row w1 q 62 [v] := (hgrow.block q (by simp; omega) (ob_ne H.own hq)).trans (Row.alloc (Row.alloc HQ (.cells #[.bool t.neg, .slice t.A t.n t.c] 24)) (.cells #[.bool t.neg, .slice t.A t.n t.c] 24)))
  go_ret
  have KG := grown_kp2 (q := q) hgrow
  have K0 : Kp2 q (ob v q) w w1 := (Kp2.of (((bl1 w _).alloc (by simp) _)) (Nat.le_refl _)).trans KG
  refine ⟨.slice A' (n + 1) c', rfl, ⟨Row.set_ RQ 0 _, by unfold Hid; rw [List.length_append, H.len.out]; rfl, ?_, ?_⟩, K0.set (.inl rfl) _⟩
  · rw [flatI_snoc]
    exact hown'.kept (row := some q) (grown_set_any _) (.inr (fun e => by have := (hown'.lt q e).1; omega))
  · intro g hg
    exact (hno' g hg).of (Below.heap_setCell _ _ _ _ (by show g ≠ q; have := (hown'.lt g hg).1; omega))
set_option maxHeartbeats 4000000 in
theorem tm_stop (w : World) (q base : Nat) (t : IV) (ts : List IV) (v : Value) (H : TRw w q base 400 ts v) (hq : q < base) (hb : base ≤ w.heap.size) :
    Calls Tryz.prog 82 #[t.v, .pointer (some ⟨q, 0, none⟩)] w (TmPost q base 400 ts t v false w) := by
  obtain ⟨i0, hi, iz0, iz1, iz2⟩ := info_parts infoInt
  have HQ := H.Q
  have hlq := Row.lt HQ
  have c0 : w.cell? ⟨q, 0, none⟩ = some v := Row.cell HQ 0
  go_enter Tryz.func82, Tryz.ntmps82
  go_wp2_with (at_builtin; refine wpList_append_nol _ rfl _ _ 62 rfl base 24 i0 (.agg #[.bool false, .slice none 0 0]) 2 32 Tryz.underlying62 hi iz0 iz1 iz2 rfl (by decide) nu_int0 v 400 (flatI ts) rfl ((H.own.alloc _).alloc _) ((H.alloc _).alloc _).nol ⟨w.heap.size + 1, 0, none⟩ 1 1 [.bool t.neg, .slice t.A t.n t.c] rfl (by decide) rfl (cell_two_new _ _ (by simp) _ _ _) (fun u hu => by simp at hu; rcases hu with rfl | rfl <;> rfl) nu_int1 (by unfold maxLen; omega) (by omega) (by simp; omega) ?_; intro v' w1 hown' hgrow hat hno'; obtain ⟨A', c', rfl, hc1, hc2⟩ := own_form hown'; have y0 : w1.cell? ⟨q, 0, none⟩ = some v := hgrow.cell (by have h1 := Row.cell (Row.alloc (Row.alloc HQ (.cells #[.bool t.neg, .slice t.A t.n t.c] 24)) (.cells #[.bool t.neg, .slice t.A t.n t.c] 24)) 0; exact h1) (ob_ne H.own hq); have z0 : w1.frozen? ⟨q, 0, none⟩ = false := hgrow.frozen_far ⟨q, 0, none⟩ (by simp; omega) (ob_ne H.own hq) ▸ (Row.frozen (Row.alloc (Row.alloc HQ (.cells #[.bool t.neg, .slice t.A t.n t.c] 24)) (.cells #[.bool t.neg, .slice t.A t.n t.c] 24)) 0); have RQ : Row w1 q 62 [v] := (hgrow.block q (by simp; omega) (ob_ne H.own hq)).trans (Row.alloc (Row.alloc HQ (.cells #[.bool t.neg, .slice t.A t.n t.c] 24)) (.cells #[.bool t.neg, .slice t.A t.n t.c] 24)))
  go_ret
  have KG := grown_kp2 (q := q) hgrow
  have K0 : Kp2 q (ob v q) w w1 := (Kp2.of (((bl1 w _).alloc (by simp) _)) (Nat.le_refl _)).trans KG
  refine ⟨.slice A' (400 + 1) c', rfl, ⟨Row.set_ RQ 0 _, by unfold Hid; rw [List.length_append, H.len.out]; rfl, ?_, ?_⟩, K0.set (.inl rfl) _⟩
  · rw [flatI_snoc]
    exact hown'.kept (row := some q) (grown_set_any _) (.inr (fun e => by have := (hown'.lt q e).1; omega))
  · intro g hg
    exact (hno' g hg).of (Below.heap_setCell _ _ _ _ (by show g ≠ q; have := (hown'.lt g hg).1; omega))
end Go.Proofs.YtflmcgoijofpdaaGreat

namespace Go.Proofs.YtflmcgoijofpdaaGreat
open Go.RowKit
set_option maxHeartbeats 400000
set_option maxRecDepth 100000
set_option linter.unusedSimpArgs false
set_option linter.unusedVariables false

/-- The terms from one pair of numbers to another one. -/
def Chain : List Int → Int → Int → Int → Int → Prop
  | [], n0, d0, n, d => n0 = n ∧ d0 = d
  | z :: zs, n0, d0, n, d => 0 < d0 ∧ z = n0 / d0 ∧ Chain zs d0 (n0 % d0) n d
theorem Chain.split : ∀ (xs ys : List Int) (n0 d0 n d : Int), Chain (xs ++ ys) n0 d0 n d ↔ ∃ m e, Chain xs n0 d0 m e ∧ Chain ys m e n d
  | [], ys, n0, d0, n, d => ⟨fun h => ⟨n0, d0, ⟨rfl, rfl⟩, h⟩, fun ⟨m, e, ⟨h1, h2⟩, h3⟩ => by subst h1 h2; exact h3⟩
  | x :: xs, ys, n0, d0, n, d => by
    constructor
    · rintro ⟨h1, h2, h3⟩
      obtain ⟨m, e, h4, h5⟩ := (Chain.split xs ys d0 (n0 % d0) n d).1 h3
      exact ⟨m, e, ⟨h1, h2, h4⟩, h5⟩
    · rintro ⟨m, e, ⟨h1, h2, h4⟩, h5⟩
      exact ⟨h1, h2, (Chain.split xs ys d0 (n0 % d0) n d).2 ⟨m, e, h4, h5⟩⟩
theorem Chain.snoc {zs : List Int} {n0 d0 n d : Int} (h : Chain zs n0 d0 n d) (hd : 0 < d) : Chain (zs ++ [n / d]) n0 d0 d (n % d) :=
  (Chain.split zs [n / d] n0 d0 d (n % d)).2 ⟨n, d, h, hd, rfl, rfl, rfl⟩
/-- Integers with their values. -/
def Trs (w : World) (ts : List IV) (zs : List Int) : Prop := ts.length = zs.length ∧ ∀ i (h : i < ts.length) (h2 : i < zs.length), LRd w w.heap.size (ts[i]).A (ts[i]).n (ts[i]).c (ts[i]).xs ∧ IRep (ts[i]).neg (ts[i]).xs zs[i]
theorem Trs.nil (w : World) : Trs w [] [] := ⟨rfl, fun i h => absurd h (by simp)⟩
theorem Trs.go {w w' : World} {ts : List IV} {zs : List Int} (h : Trs w ts zs) (k : ∀ {A n c xs}, LRd w w.heap.size A n c xs → LRd w' w'.heap.size A n c xs) : Trs w' ts zs :=
  ⟨h.1, fun i h1 h2 => ⟨k (h.2 i h1 h2).1, (h.2 i h1 h2).2⟩⟩
theorem Trs.snoc {w : World} {ts : List IV} {zs : List Int} {t : IV} {z : Int} (h : Trs w ts zs) (ht : LRd w w.heap.size t.A t.n t.c t.xs) (hz : IRep t.neg t.xs z) : Trs w (ts ++ [t]) (zs ++ [z]) := by
  refine ⟨by simp [h.1], fun i h1 h2 => ?_⟩
  rcases Nat.lt_or_ge i ts.length with e | e
  · rw [List.getElem_append_left e, List.getElem_append_left (by rw [← h.1]; exact e)]
    exact h.2 i e _
  · have e1 : i = ts.length := by simp at h1; omega
    subst e1
    rw [List.getElem_append_right (by omega), List.getElem_append_right (by rw [h.1]; exact Nat.le_refl _)]
    have e2 : (ts.length - ts.length) = 0 := by omega
    have e3 : (ts.length - zs.length) = 0 := by rw [h.1]; omega
    simp only [e2, e3, List.getElem_singleton]
    exact ⟨ht, hz⟩
theorem TRw.nq {w : World} {q base n : Nat} {ts : List IV} {v : Value} (h : TRw w q base n ts v) : NoLimb w q := by
  intro j x e
  rw [Row.cell h.Q] at e
  obtain ⟨A, c, rfl, _⟩ := own_form h.own
  match j with
  | 0 => simp at e
  | j + 1 => simp at e
theorem TRw.nob {w : World} {q base n : Nat} {ts : List IV} {v : Value} (h : TRw w q base n ts v) : NoLimb w (ob v q) := by
  unfold ob
  split
  · rename_i g hg; exact h.nol g hg
  · exact h.nq
theorem TRw.far {w : World} {q base n : Nat} {ts : List IV} {v : Value} (h : TRw w q base n ts v) {p : Addr} (h1 : p.block ≠ q) (h2 : p.block < base) (u : Value) : TRw (w.setCell p u) q base n ts v := by
  refine ⟨Row.far h.Q (fun e => h1 e.symm) u, h.len, h.own.kept (row := some p.block) ⟨rfl, rfl, rfl, by simp [World.setCell], fun k hk hn => Below.heap_setCell w p u k (fun e => hn (by rw [e]))⟩ (.inr (fun e => ?_)), fun g hg => ?_⟩
  · have := (h.own.lt p.block e).1; omega
  · exact (h.nol g hg).of (Below.heap_setCell w p u g (fun e => by have := (h.own.lt g hg).1; omega))
theorem TRw.drew {w : World} {q base n : Nat} {ts : List IV} {v : Value} (h : TRw w q base n ts v) : TRw w.drew q base n ts v := h.below (B := w.heap.size) (Below.drew (Below.refl _ _)) (Nat.le_refl _)
theorem ob_ge {w : World} {q base n : Nat} {ts : List IV} {v : Value} (h : TRw w q base n ts v) : ob v q = q ∨ base ≤ ob v q := by
  unfold ob
  split
  · rename_i g hg; exact .inr (h.own.lt g hg).1
  · exact .inl rfl
theorem Kp2.one {a w w' : World} {q g : Nat} (x : Kp2 q q a w) (y : Kp2 q g w w') (hg : g = q ∨ a.heap.size ≤ g) : Kp2 q q a w' :=
  ⟨y.os.trans x.os, y.tape.trans x.tape, y.output.trans x.output, Nat.le_trans x.size y.size, fun k hk h1 _ => (y.block k (Nat.lt_of_lt_of_le hk x.size) h1 (by omega)).trans (x.block k hk h1 h1)⟩
/-- The state of the loop. -/
structure XmSt (w : World) (q base pn pd : Nat) (n0 d0 : Int) (k : Nat) (wr : World) (nv dv : IV) (j : Nat) (ts : List IV) (zs : List Int) (v : Value) (n d : Int) : Prop where
  PN : Bk2 wr pn (.bool nv.neg) (.slice nv.A nv.n nv.c)
  PD : Bk2 wr pd (.bool dv.neg) (.slice dv.A dv.n dv.c)
  TR : TRw wr q base j ts v
  HT : Trs wr ts zs
  HN : LRd wr wr.heap.size nv.A nv.n nv.c nv.xs
  HD : LRd wr wr.heap.size dv.A dv.n dv.c dv.xs
  rn : IRep nv.neg nv.xs n
  rd : IRep dv.neg dv.xs d
  ch : Chain zs n0 d0 n d
  dp : 0 ≤ d
  dd : d ≤ d0
  nb : n.natAbs ≤ max n0.natAbs d0.natAbs
  fl : d < k
  hj : j ≤ 400
  kp : Kp2 q q w wr
def XmRel (w : World) (q base pn pd : Nat) (n0 d0 : Int) (k : Nat) (wr : World) : Prop := ∃ nv dv j ts zs v n d, XmSt w q base pn pd n0 d0 k wr nv dv j ts zs v n d
/-- What is left of expand. -/
def ExTPost (q : Nat) (n0 d0 : Int) (w : World) (e : Ending) (w' : World) : Prop :=
  ∃ (base j : Nat) (ts : List IV) (zs : List Int) (v : Value) (n d : Int), e = .returned (.tuple #[]) ∧ q < base ∧ w.heap.size ≤ base ∧ TRw w' q base j ts v ∧ Trs w' ts zs ∧ Chain zs n0 d0 n d ∧ ((j ≤ 400 ∧ d = 0) ∨ j = 401) ∧ Kp2 q q w w'
theorem xm_next {w u : World} {q base pn pd k j : Nat} {n0 d0 n d : Int} {u1 u2 v1 v2 v : Value} {nv dv : IV} {ts : List IV} {zs : List Int} (PN : Bk2 u pn u1 u2) (PD : Bk2 u pd v1 v2) (hu1 : ∀ x, u1 ≠ .int .u32 x) (hu2 : ∀ x, u2 ≠ .int .u32 x) (hv1 : ∀ x, v1 ≠ .int .u32 x) (hv2 : ∀ x, v2 ≠ .int .u32 x) (hne : pn ≠ pd) (hpn : w.heap.size ≤ pn) (hpd : w.heap.size ≤ pd) (hq : q < w.heap.size) (hb1 : pn < base) (hb2 : pd < base)
    (TR : TRw u q base j ts v) (HT : Trs u ts zs) (HN : LRd u u.heap.size nv.A nv.n nv.c nv.xs) (HD : LRd u u.heap.size dv.A dv.n dv.c dv.xs) (rn : IRep nv.neg nv.xs n) (rd : IRep dv.neg dv.xs d) (ch : Chain zs n0 d0 n d) (dp : 0 ≤ d) (dd : d ≤ d0) (nb : n.natAbs ≤ max n0.natAbs d0.natAbs) (fl : d < k) (hj : j ≤ 400) (kp : Kp2 q q w u) :
    XmRel w q base pn pd n0 d0 k ((((u.drew.setCell ⟨pn, 0, none⟩ (.bool nv.neg)).setCell ⟨pn, 1, none⟩ (.slice nv.A nv.n nv.c)).setCell ⟨pd, 0, none⟩ (.bool dv.neg)).setCell ⟨pd, 1, none⟩ (.slice dv.A dv.n dv.c)) := by
  have P := PN.drew
  have D := PD.drew
  have P' := P.set (.bool nv.neg) (.slice nv.A nv.n nv.c)
  have D' := D.far2 hne (.bool nv.neg) (.slice nv.A nv.n nv.c)
  have L : ∀ {A n c xs}, LRd u u.heap.size A n c xs → LRd ((((u.drew.setCell ⟨pn, 0, none⟩ (.bool nv.neg)).setCell ⟨pn, 1, none⟩ (.slice nv.A nv.n nv.c)).setCell ⟨pd, 0, none⟩ (.bool dv.neg)).setCell ⟨pd, 1, none⟩ (.slice dv.A dv.n dv.c)) _ A n c xs := fun H => ((H.drew.setB P hu1 hu2 _ _).setB D' hv1 hv2 _ _).more (B' := ((((u.drew.setCell ⟨pn, 0, none⟩ (.bool nv.neg)).setCell ⟨pn, 1, none⟩ (.slice nv.A nv.n nv.c)).setCell ⟨pd, 0, none⟩ (.bool dv.neg)).setCell ⟨pd, 1, none⟩ (.slice dv.A dv.n dv.c)).heap.size) (by simp [World.setCell])
  exact ⟨nv, dv, j, ts, zs, v, n, d, ⟨P'.far2 (Ne.symm hne) _ _, D'.set _ _,
    (((TR.drew.far (p := ⟨pn, 0, none⟩) (by show pn ≠ q; omega) hb1 _).far (p := ⟨pn, 1, none⟩) (by show pn ≠ q; omega) hb1 _).far (p := ⟨pd, 0, none⟩) (by show pd ≠ q; omega) hb2 _).far (p := ⟨pd, 1, none⟩) (by show pd ≠ q; omega) hb2 _,
    HT.go L, L HN, L HD, rn, rd, ch, dp, dd, nb, fl, hj,
    (((kp.drew.set (p := ⟨pn, 0, none⟩) (.inr (.inr hpn)) _).set (p := ⟨pn, 1, none⟩) (.inr (.inr hpn)) _).set (p := ⟨pd, 0, none⟩) (.inr (.inr hpd)) _).set (p := ⟨pd, 1, none⟩) (.inr (.inr hpd)) _⟩⟩
theorem ob_lt {w : World} {q base n : Nat} {ts : List IV} {v : Value} (h : TRw w q base n ts v) : ob v q < w.heap.size := by
  unfold ob
  split
  · rename_i g hg; exact (h.own.lt g hg).2
  · exact Row.lt h.Q
set_option maxHeartbeats 8000000 in
theorem expand_tm (w : World) (B q : Nat) (x : RV) (n0 d0 : Int) (H1 : x.at w B) (hB : B ≤ w.heap.size) (HQ : Row w q 62 [.slice none 0 0]) (IX : IRep x.num.neg x.num.xs n0) (IY : IRep x.den.neg x.den.xs d0) (hd0 : 1 ≤ d0) (bn : n0.natAbs < Top128) (bd : d0.natAbs < Top128) :
    Calls Tryz.prog 81 #[x.v, .func (Fn.func 82) #[] #[.pointer (some ⟨q, 0, none⟩)]] w (ExTPost q n0 d0 w) := by
  have HI := Lib.hid (And.intro IX IY)
  have HB4 := Lib.hid (And.intro bn bd)
  clear IX IY bn bd
  obtain ⟨HX, HY⟩ := H1
  replace HX : LRd w B x.num.A x.num.n x.num.c x.num.xs := HX
  replace HY : LRd w B x.den.A x.den.n x.den.c x.den.xs := HY
  have ltq := Row.lt HQ
  go_enter Tryz.func81, Tryz.ntmps81
  go_upto_region 1 with fail
  obtain ⟨V, hV⟩ : ∃ V : World, V = w.alloc (.cells #[.bool x.num.neg, .slice x.num.A x.num.n x.num.c, .bool x.den.neg, .slice x.den.A x.den.n x.den.c] 26) := ⟨_, rfl⟩
  have bV : Below w.heap.size w V := by rw [hV]; exact bl1 _ _
  have PX : Bk4 V w.heap.size (.bool x.num.neg) (.slice x.num.A x.num.n x.num.c) (.bool x.den.neg) (.slice x.den.A x.den.n x.den.c) := by rw [hV]; exact Bk4.newAt _ _ rfl _ _ _ _ _
  have zV := bV.size
  rw [← hV]
  clear hV
  go_cut [4, 5] (fun s4 s5 wx => Ex0 w x s4 s5 wx)
  case first =>
    have ltx := PX.lt
    obtain ⟨_, _, _, _, _, _, _, _, _⟩ := PX
    go_region
    all_goals (go_wp2_with fail)
    all_goals go_meet
    all_goals first
      | with_reducible exact ex0_a bV
      | with_reducible exact ex0_b bV
      | fail
  case rest =>
    obtain ⟨pn, pd, rfl, rfl, PN0, PD0, hpn, hpd, hnd, hbX⟩ := hcut
    obtain ⟨W0, hW0⟩ : ∃ y : World, y = wc := ⟨_, rfl⟩
    subst hW0
    have zW := hbX.size
    have HND := Lib.hid hnd
    obtain ⟨base, hbase⟩ : ∃ b, b = W0.heap.size := ⟨_, rfl⟩
    have hWb : w.heap.size ≤ base := by omega
    have hqb : q < base := by omega
    have hpb : pn < base := by have := PN0.lt; omega
    have hdb : pd < base := by have := PD0.lt; omega
    have hbs := Nat.le_of_eq hbase
    clear hnd PX bV zV hbase
    go_wp2_with fail
    go_loopg [] (d0.toNat + 1) (fun k wr => XmRel w q base pn pd n0 d0 k wr ∧ base ≤ wr.heap.size)
    case atStart =>
      obtain ⟨IX, IY⟩ := HI.out
      exact ⟨⟨x.num, x.den, 0, [], [], .slice none 0 0, n0, d0, ⟨PN0, PD0, ⟨Row.below HQ hbX ltq, Lib.hid rfl, World.ownsRow_nil _ _ _ _, fun g hg => by simp [Value.ownBlock] at hg⟩, Trs.nil _, (HX.below hbX hB).more (by omega), (HY.below hbX hB).more (by omega), IX, IY, ⟨rfl, rfl⟩, by omega, by omega, by omega, by omega, by omega, Kp2.of hbX (Nat.le_refl _)⟩⟩, hbs⟩
    case round =>
      clear PN0 PD0 hbX zW HX HY hbs
      obtain ⟨⟨nv, dv, j, ts, zs, v, n, d, S0⟩, hbw⟩ := hrel
      have hpl := S0.PN.lt
      have hdl := S0.PD.lt
      have PN := S0.PN
      have PD := S0.PD
      have HN := S0.HN
      have HD := S0.HD
      by_cases hd : d = 0
      · subst hd
        have SS := Lib.hid S0
        have hz : decide (dv.n = 0) = true := by have h1 := (IRep.len0 S0.rd).2 rfl; have h2 := S0.HD.len.out; rw [decide_eq_true_eq]; omega
        clear S0
        have E : Below wr.heap.size wr wr := Below.refl _ _
        have t_PD0 := PD.c0
        have t_PD1 := PD.c1
        go_wp2_with fail
        clear t_PD0 t_PD1
        (with_reducible refine (isZero_any _ dv.neg dv.A dv.n dv.c (by have := HD.cap; omega)).mono ?_)
        rintro e w1 ⟨rfl, hb1⟩
        have sw1 := hb1.size
        replace E := E.trans (hb1.mono E.size)
        replace PN := PN.below hb1 PN.lt
        replace PD := PD.below hb1 PD.lt
        replace HN := HN.below hb1 (by omega)
        replace HD := HD.below hb1 (by omega)
        clear hb1
        rw [hz]
        clear hz
        go_wp2_with fail
        go_end0
        have S := SS.out
        exact ⟨base, j, ts, zs, v, n, 0, rfl, hqb, hWb, S.TR.below E (Nat.le_refl _), S.HT.go (fun H => (H.below E (Nat.le_refl _)).more E.size), S.ch, .inl ⟨S.hj, rfl⟩, S.kp.trans (Kp2.of E (Nat.le_refl _))⟩
      · have SS := Lib.hid S0
        have hz : decide (dv.n = 0) = false := by have h1 : dv.xs.length ≠ 0 := fun h => hd ((IRep.len0 S0.rd).1 h); have h2 := S0.HD.len.out; rw [decide_eq_false_iff_not]; omega
        have hk0 : 0 < dv.n := by have h1 : dv.xs.length ≠ 0 := fun h => hd ((IRep.len0 S0.rd).1 h); have h2 := S0.HD.len.out; omega
        have hdpos := Lib.hid (show 0 < d by have := S0.dp; omega)
        have on := Lib.hid (show nv.ok = true from S0.rn.iok (by have := S0.nb; have := HB4.out; omega))
        have od := Lib.hid (show dv.ok = true from S0.rd.iok (by have := S0.dp; have := S0.dd; have := HB4.out; omega))
        have hvn := Lib.hid (show nv.val = n from S0.rn.ival (A := nv.A) (n := nv.n) (c := nv.c))
        have hvd := Lib.hid (show dv.val = d from S0.rd.ival (A := dv.A) (n := dv.n) (c := dv.c))
        clear S0 hd
        have E : Below wr.heap.size wr wr := Below.refl _ _
        have t_PD0 := PD.c0
        have t_PD1 := PD.c1
        go_wp2_with fail
        clear t_PD0 t_PD1
        (with_reducible refine (isZero_any _ dv.neg dv.A dv.n dv.c (by have := HD.cap; omega)).mono ?_)
        rintro e w1 ⟨rfl, hb1⟩
        have sw1 := hb1.size
        replace E := E.trans (hb1.mono E.size)
        replace PN := PN.below hb1 PN.lt
        replace PD := PD.below hb1 PD.lt
        replace HN := HN.below hb1 (by omega)
        replace HD := HD.below hb1 (by omega)
        clear hb1
        rw [hz]
        clear hz
        have t_PN0 := PN.c0
        have t_PN1 := PN.c1
        have t_PD0 := PD.c0
        have t_PD1 := PD.c1
        go_wp2_with fail
        clear t_PN0 t_PN1 t_PD0 t_PD1
        (with_reducible refine (idivmod_ok _ wr.heap.size nv dv (iv_at HN) (iv_at HD) (by omega) on.out od.out (by omega)).mono ?_)
        rintro e w2 ⟨t, r, hfl, m1, A1, k1, e1, x1, m2, A2, k2, e2, x2, rfl, hl1, hr1, hl2, hr2, hb2⟩
        have sw2 := hb2.size
        replace E := E.trans (hb2.mono E.size)
        replace PN := PN.below hb2 PN.lt
        replace PD := PD.below hb2 PD.lt
        replace HN := HN.below hb2 (by omega)
        replace HD := HD.below hb2 (by omega)
        clear hb2
        rw [hvn.out, hvd.out] at hfl
        obtain ⟨rfl, rfl⟩ := floor_ediv hfl hdpos.out
        have RT := Lib.hid hr1
        have RR := Lib.hid hr2
        clear hr1 hr2 hfl
        go_wp2_with fail
        obtain ⟨V2, hV2⟩ : ∃ V2 : World, V2 = (((w2.alloc (.cells #[.bool m1, .slice A1 k1 e1] 24)).alloc (.cells #[.bool m2, .slice A2 k2 e2] 24)).alloc (.cells #[.int .i64 0, .int .i64 0] 28)) := ⟨_, rfl⟩
        have bV2 : Below w2.heap.size w2 V2 := by rw [hV2]; (repeat (first | with_reducible exact Below.refl _ _ | with_reducible refine Below.drew ?_ | with_reducible refine below_drewN ?_ _ | with_reducible refine Below.setCell ?_ (by first | (simp; done) | (simp; omega) | omega) _ | with_reducible refine Below.alloc ?_ (by first | (simp; done) | (simp; omega) | omega) _))
        have zV2 : w2.heap.size + 3 ≤ V2.heap.size := by rw [hV2]; simp
        have T1 : Bk2 V2 (w2.heap.size) (.bool m1) (.slice A1 k1 e1) := by rw [hV2]; exact (((Bk2.newAt _ _ (by first | omega | (simp; done) | (simp; omega)) _ _ _).alloc _).alloc _)
        have T2 : Bk2 V2 (w2.heap.size + 1) (.bool m2) (.slice A2 k2 e2) := by rw [hV2]; exact ((Bk2.newAt _ _ (by first | omega | (simp; done) | (simp; omega)) _ _ _).alloc _)
        have T3 : Bk2 V2 (w2.heap.size + 2) (.int .i64 0) (.int .i64 0) := by rw [hV2]; exact (Bk2.newAt _ _ (by first | omega | (simp; done) | (simp; omega)) _ _ _)
        rw [← hV2]
        clear hV2
        replace E := E.trans (bV2.mono E.size)
        replace PN := PN.below bV2 PN.lt
        replace PD := PD.below bV2 PD.lt
        replace HN := HN.below bV2 (by omega)
        replace HD := HD.below bV2 (by omega)
        replace hl1 := hl1.below bV2 (by omega)
        replace hl2 := hl2.below bV2 (by omega)
        clear bV2
        have S := SS.out
        have TRc : TRw V2 q base j ts v := S.TR.below E (Nat.le_refl _)
        have OB := ob_ge TRc
        have HTc : Trs V2 ts zs := S.HT.go (fun H => (H.below E (Nat.le_refl _)).more E.size)
        have T1' : LRd V2 V2.heap.size A1 k1 e1 x1 := hl1.more (by omega)
        have HTn := HTc.snoc (t := IV.mk m1 A1 k1 e1 x1) T1' RT.out
        have CN := S.ch.snoc hdpos.out
        have hq2 := Int.emod_nonneg n (show d ≠ 0 by have := hdpos.out; omega)
        have hq3 := Int.emod_lt_of_pos n hdpos.out
        have KE : Kp2 q q w V2 := S.kp.trans (Kp2.of E (Nat.le_refl _))
        by_cases hm : j < 400
        · (with_reducible refine (tm_more _ q base j (IV.mk m1 A1 k1 e1 x1) ts v TRc hqb (by have := E.size; omega) hm).mono ?_)
          rintro e w4 ⟨v', rfl, TR4, kp4⟩
          have HJM := Lib.hid hm
          clear hm
          obtain ⟨k, rfl⟩ : ∃ k, gk = k + 1 := ⟨gk - 1, by have := S.fl; have := S.dp; omega⟩
          have PN4 := kp4.b2 PN (by omega) (by omega)
          have PD4 := kp4.b2 PD (by omega) (by omega)
          have OL := ob_lt S.TR
          have T24 := kp4.b2 T2 (by have := S.kp.size; omega) (by omega)
          have LQ : ∀ {A n c xs}, LRd V2 V2.heap.size A n c xs → LRd w4 w4.heap.size A n c xs := fun H => (H.kp2 (Nat.le_refl _) kp4 TRc.nq TRc.nob).more kp4.size
          have L5 := LQ (hl2.more (by omega))
          have L6 := LQ (HD.more (by omega))
          have HT4 := HTn.go LQ
          have K4 : Kp2 q q w w4 := KE.one kp4 (by omega)
          have s4 := kp4.size
          have hnd := HND.out
          have hdn : pd ≠ pn := fun e => hnd e.symm
          have FIN := Lib.hid (xm_next (w := w) (nv := dv) (dv := ⟨m2, A2, k2, e2, x2⟩) (k := k) PN4 PD4 (by simp) (by simp) (by simp) (by simp) hnd hpn hpd ltq hpb hdb TR4 HT4 L6 L5 S.rd RR.out CN hq2 (by have := S.dd; omega) (by have := S.dd; have := S.dp; omega) (by have := S.fl; omega) (by have := HJM.out; omega) K4)
          have hbw4 : base ≤ w4.heap.size := by omega
          clear CN S TRc HTc HTn KE K4 HT4 LQ OB TR4 kp4 SS L5 L6
          have hq1 : ¬ pn = w2.heap.size + 1 := by omega
          have hq4 : ¬ pd = w2.heap.size + 1 := by omega
          go_upto_region 5 with fail
          obtain ⟨_, _, _, _, _⟩ := PN4
          obtain ⟨_, _, _, _, _⟩ := PD4
          obtain ⟨_, _, _, _, _⟩ := T24
          go_region
          go_wp2_with fail
          all_goals go_roundg k
          case rel => exact ⟨FIN.out, by simp [World.setCell]; exact hbw4⟩
          case measure => omega
        · obtain rfl : j = 400 := by have := S.hj; omega
          (with_reducible refine (tm_stop _ q base  (IV.mk m1 A1 k1 e1 x1) ts v TRc hqb (by have := E.size; omega)).mono ?_)
          rintro e w4 ⟨v', rfl, TR4, kp4⟩
          clear hm
          have LQ : ∀ {A n c xs}, LRd V2 V2.heap.size A n c xs → LRd w4 w4.heap.size A n c xs := fun H => (H.kp2 (Nat.le_refl _) kp4 TRc.nq TRc.nob).more kp4.size
          go_wp2_with fail
          go_end0
          exact ⟨base, 401, _, _, v', _, _, rfl, hqb, hWb, TR4, HTn.go LQ, CN, .inr rfl, KE.one kp4 (by omega)⟩
end Go.Proofs.YtflmcgoijofpdaaGreat

namespace Go.Proofs.YtflmcgoijofpdaaGreat
open Go.RowKit
set_option maxHeartbeats 400000
set_option maxRecDepth 100000
set_option linter.unusedSimpArgs false
set_option linter.unusedVariables false

/-- A row of integers that can be read. -/
def TRd (w : World) (A : Option Addr) (n c : Nat) (ts : List IV) : Prop :=
  n ≤ c ∧ c ≤ 9223372036854775807 ∧ Hid (ts.length = n) ∧ (0 < n → ∃ g, A = some ⟨g, 0, none⟩ ∧ g < w.heap.size ∧ ∀ i (h : i < ts.length), w.cell? ⟨g, i * 2, none⟩ = some (.bool (ts[i]).neg) ∧ w.cell? ⟨g, i * 2 + 1, none⟩ = some (.slice (ts[i]).A (ts[i]).n (ts[i]).c))
theorem TRd.below {w w' : World} {B : Nat} {A : Option Addr} {n c : Nat} {ts : List IV} (h : TRd w A n c ts) (hb : Below B w w') (hB : w.heap.size ≤ B) : TRd w' A n c ts := by
  refine ⟨h.1, h.2.1, h.2.2.1, fun hn => ?_⟩
  obtain ⟨g, h1, h2, h3⟩ := h.2.2.2 hn
  exact ⟨g, h1, Nat.lt_of_lt_of_le h2 hb.size, fun i hi => ⟨(hb.cell (p := ⟨g, i * 2, none⟩) (by show g < B; omega)).trans (h3 i hi).1, (hb.cell (p := ⟨g, i * 2 + 1, none⟩) (by show g < B; omega)).trans (h3 i hi).2⟩⟩
theorem TRd.of {w : World} {base n : Nat} {T : TypeId} {v : Value} {ts : List IV} (h : w.ownsRow base T 2 v n (flatI ts)) (hl : ts.length = n) : ∃ A c, v = .slice A n c ∧ TRd w A n c ts := by
  obtain ⟨A, c, rfl, h1, h2⟩ := own_form h
  refine ⟨A, c, rfl, h1, h2, Lib.hid hl, fun hn => ?_⟩
  rcases h.2 with ⟨e, h0⟩ | ⟨g, cap, cur, e, _, hg, _, _, _, _⟩
  · omega
  · injection e with e1 e2 e3
    have hadd : ∀ j, (⟨g, 0, none⟩ : Addr).add j = ⟨g, j, none⟩ := fun j => by unfold Addr.add; split <;> simp_all
    have hc := h.cells (g := g) (by rw [e1]; rfl)
    refine ⟨g, e1, (Array.getElem?_eq_some_iff.1 hg).1, fun i hi => ?_⟩
    have hx := flatI_get ts i hi
    have c1 := hc _ _ hx.1
    have c2 := hc _ _ hx.2
    rw [hadd] at c1 c2
    exact ⟨c1, c2⟩
theorem TRd.ofs {w : World} {base n c : Nat} {T : TypeId} {A : Option Addr} {ts : List IV} (h : w.ownsRow base T 2 (.slice A n c) n (flatI ts)) (hl : ts.length = n) : TRd w A n c ts := by
  obtain ⟨A', c', e, h2⟩ := TRd.of h hl
  injection e with e1 e2 e3
  subst e1 e3
  exact h2
/-- The same, with what is known of a continued fraction with too many terms. -/
def GivesTa (n0 d0 : Int) (w : World) (e : Ending) (w' : World) : Prop :=
  (∃ (A : Option Addr) (j c : Nat) (ts : List IV) (zs : List Int) (n : Int), e = .returned (.tuple #[.slice A j c, flt 0 0]) ∧ TRd w' A j c ts ∧ Trs w' ts zs ∧ Chain zs n0 d0 n 0 ∧ j ≤ 400 ∧ Below w.heap.size w w') ∨
  (e = .returned (.tuple #[.slice none 0 0, flt 2 (-1)]) ∧ (∃ (zs : List Int) (n d : Int), zs.length = 401 ∧ Chain zs n0 d0 n d) ∧ Below w.heap.size w w')
def GivesT2 (f1 f2 : Int) (w : World) (e : Ending) (w' : World) : Prop := e = .returned (.tuple #[.slice none 0 0, flt f1 f2]) ∧ Below w.heap.size w w'
set_option maxHeartbeats 4000000 in
theorem terms_bad (w : World) (B : Nat) (a : RV) (H1 : a.at w B) (hB : B ≤ w.heap.size) (f2 : Int) (hf : rfault [a] 0 = (6, f2)) :
    Calls Tryz.prog 35 #[a.v] w (GivesT2 6 f2 w) := by
  have bbase : Below w.heap.size w ((w.alloc (.cells #[.bool a.num.neg, .slice a.num.A a.num.n a.num.c, .bool a.den.neg, .slice a.den.A a.den.n a.den.c] 26)).alloc (.cells #[.int .i64 0, .int .i64 0] 28)) := ((bl1 w _).alloc (by simp) _)
  have HA : LRd w B a.num.A a.num.n a.num.c a.num.xs := H1.1
  have HC : LRd w B a.den.A a.den.n a.den.c a.den.xs := H1.2
  have E : Below w.heap.size w w := Below.refl _ _
  have RR := Lib.hid (rrow1 ((w.alloc (.cells #[.bool a.num.neg, .slice a.num.A a.num.n a.num.c, .bool a.den.neg, .slice a.den.A a.den.n a.den.c] 26)).alloc (.cells #[.int .i64 0, .int .i64 0] 28)) B a (RV.at.below H1 bbase (by omega)) (by simp; omega))
  clear bbase
  go_enter Tryz.func35, Tryz.ntmps35
  go_wp2_with fail
  obtain ⟨V0, hV0⟩ : ∃ V0 : World, V0 = (((w.alloc (.cells #[.bool a.num.neg, .slice a.num.A a.num.n a.num.c, .bool a.den.neg, .slice a.den.A a.den.n a.den.c] 26)).alloc (.cells #[.int .i64 0, .int .i64 0] 28)).alloc (.cells #[.bool a.num.neg, .slice a.num.A a.num.n a.num.c, .bool a.den.neg, .slice a.den.A a.den.n a.den.c] 26)) := ⟨_, rfl⟩
  have bV0 : Below w.heap.size w V0 := by rw [hV0]; (repeat (first | with_reducible exact Below.refl _ _ | with_reducible refine Below.drew ?_ | with_reducible refine below_drewN ?_ _ | with_reducible refine Below.setCell ?_ (by first | (simp; done) | (simp; omega) | omega) _ | with_reducible refine Below.alloc ?_ (by first | (simp; done) | (simp; omega) | omega) _))
  have zV0 : w.heap.size + 3 ≤ V0.heap.size := by rw [hV0]; simp
  have PA : Bk4 V0 (w.heap.size) (.bool a.num.neg) (.slice a.num.A a.num.n a.num.c) (.bool a.den.neg) (.slice a.den.A a.den.n a.den.c) := by rw [hV0]; exact (((Bk4.newAt _ _ (by first | omega | (simp; done) | (simp; omega)) _ _ _ _ _).alloc _).alloc _)
  have PF : Bk2 V0 (w.heap.size + 1) (.int .i64 0) (.int .i64 0) := by rw [hV0]; exact ((Bk2.newAt _ _ (by first | omega | (simp; done) | (simp; omega)) _ _ _).alloc _)
  replace RR : Hid (RRow V0 B (w.heap.size + 2) [a]) := by have h9 := RR.out; rw [hV0]; rw [show (((w.alloc (.cells #[.bool a.num.neg, .slice a.num.A a.num.n a.num.c, .bool a.den.neg, .slice a.den.A a.den.n a.den.c] 26)).alloc (.cells #[.int .i64 0, .int .i64 0] 28))).heap.size = w.heap.size + 2 by simp] at h9; exact h9
  rw [← hV0]
  clear hV0
  replace E := E.trans (bV0.mono E.size)
  replace HA := HA.below bV0 (by omega)
  replace HC := HC.below bV0 (by omega)
  clear bV0
  (with_reducible refine (rcheck_any _ B (w.heap.size + 2) 1 [a] RR.out rfl (by omega) (by omega)).mono ?_)
  rintro e w1 ⟨rfl, hb1⟩
  have sw1 := hb1.size
  replace E := E.trans (hb1.mono E.size)
  replace HA := HA.below hb1 (by omega)
  replace HC := HC.below hb1 (by omega)
  replace PA := PA.below hb1 PA.lt
  replace PF := PF.below hb1 PF.lt
  clear hb1
  rw [hf]
  clear RR
  go_upto_region 3 with fail
  obtain ⟨V1, hV1⟩ : ∃ V1 : World, V1 = (w1.alloc (.cells #[.int .i64 6, .int .i64 f2] 28)) := ⟨_, rfl⟩
  have bV1 : Below w1.heap.size w1 V1 := by rw [hV1]; (repeat (first | with_reducible exact Below.refl _ _ | with_reducible refine Below.drew ?_ | with_reducible refine below_drewN ?_ _ | with_reducible refine Below.setCell ?_ (by first | (simp; done) | (simp; omega) | omega) _ | with_reducible refine Below.alloc ?_ (by first | (simp; done) | (simp; omega) | omega) _))
  have zV1 : w1.heap.size + 1 ≤ V1.heap.size := by rw [hV1]; simp
  have F4 : Bk2 V1 (w1.heap.size) (.int .i64 6) (.int .i64 f2) := by rw [hV1]; exact (Bk2.newAt _ _ (by first | omega | (simp; done) | (simp; omega)) _ _ _)
  rw [← hV1]
  clear hV1
  replace E := E.trans (bV1.mono E.size)
  replace HA := HA.below bV1 (by omega)
  replace HC := HC.below bV1 (by omega)
  replace PA := PA.below bV1 PA.lt
  replace PF := PF.below bV1 PF.lt
  clear bV1
  have lt6 := F4.lt
  have ltF := PF.lt
  obtain ⟨_, _, _, _, _⟩ := F4
  obtain ⟨f0, f1, z0, z1, _⟩ := PF
  go_region
  go_wp2_with fail
  refine bodyPost_ret (v := .tuple #[.slice none 0 0, flt 6 f2]) (by simp [results, Tryz.results35, go_sem, f0, f1]) rfl ⟨rfl, ?_⟩
  (repeat (first | with_reducible exact E | with_reducible refine Below.drew ?_ | with_reducible refine below_drewN ?_ _ | with_reducible refine Below.setCell ?_ (by first | (simp; done) | (simp; omega) | omega) _))
set_option maxHeartbeats 4000000 in
theorem terms_all (w : World) (B : Nat) (a : RV) (H1 : a.at w B) (hB : B ≤ w.heap.size) (oa : a.ok = true) (n0 d0 : Int) (IX : Hid (IRep a.num.neg a.num.xs n0)) (IY : Hid (IRep a.den.neg a.den.xs d0)) (hd0 : 1 ≤ d0) (HBD : Hid (n0.natAbs < Top128 ∧ d0.natAbs < Top128)) :
    Calls Tryz.prog 35 #[a.v] w (GivesTa n0 d0 w) := by
  have hf := rone_ok oa
  have bbase : Below w.heap.size w ((w.alloc (.cells #[.bool a.num.neg, .slice a.num.A a.num.n a.num.c, .bool a.den.neg, .slice a.den.A a.den.n a.den.c] 26)).alloc (.cells #[.int .i64 0, .int .i64 0] 28)) := ((bl1 w _).alloc (by simp) _)
  have HA : LRd w B a.num.A a.num.n a.num.c a.num.xs := H1.1
  have HC : LRd w B a.den.A a.den.n a.den.c a.den.xs := H1.2
  have E : Below w.heap.size w w := Below.refl _ _
  have RR := Lib.hid (rrow1 ((w.alloc (.cells #[.bool a.num.neg, .slice a.num.A a.num.n a.num.c, .bool a.den.neg, .slice a.den.A a.den.n a.den.c] 26)).alloc (.cells #[.int .i64 0, .int .i64 0] 28)) B a (RV.at.below H1 bbase (by omega)) (by simp; omega))
  clear bbase
  go_enter Tryz.func35, Tryz.ntmps35
  go_wp2_with fail
  obtain ⟨V0, hV0⟩ : ∃ V0 : World, V0 = (((w.alloc (.cells #[.bool a.num.neg, .slice a.num.A a.num.n a.num.c, .bool a.den.neg, .slice a.den.A a.den.n a.den.c] 26)).alloc (.cells #[.int .i64 0, .int .i64 0] 28)).alloc (.cells #[.bool a.num.neg, .slice a.num.A a.num.n a.num.c, .bool a.den.neg, .slice a.den.A a.den.n a.den.c] 26)) := ⟨_, rfl⟩
  have bV0 : Below w.heap.size w V0 := by rw [hV0]; (repeat (first | with_reducible exact Below.refl _ _ | with_reducible refine Below.drew ?_ | with_reducible refine below_drewN ?_ _ | with_reducible refine Below.setCell ?_ (by first | (simp; done) | (simp; omega) | omega) _ | with_reducible refine Below.alloc ?_ (by first | (simp; done) | (simp; omega) | omega) _))
  have zV0 : w.heap.size + 3 ≤ V0.heap.size := by rw [hV0]; simp
  have PA : Bk4 V0 (w.heap.size) (.bool a.num.neg) (.slice a.num.A a.num.n a.num.c) (.bool a.den.neg) (.slice a.den.A a.den.n a.den.c) := by rw [hV0]; exact (((Bk4.newAt _ _ (by first | omega | (simp; done) | (simp; omega)) _ _ _ _ _).alloc _).alloc _)
  have PF : Bk2 V0 (w.heap.size + 1) (.int .i64 0) (.int .i64 0) := by rw [hV0]; exact ((Bk2.newAt _ _ (by first | omega | (simp; done) | (simp; omega)) _ _ _).alloc _)
  replace RR : Hid (RRow V0 B (w.heap.size + 2) [a]) := by have h9 := RR.out; rw [hV0]; rw [show (((w.alloc (.cells #[.bool a.num.neg, .slice a.num.A a.num.n a.num.c, .bool a.den.neg, .slice a.den.A a.den.n a.den.c] 26)).alloc (.cells #[.int .i64 0, .int .i64 0] 28))).heap.size = w.heap.size + 2 by simp] at h9; exact h9
  rw [← hV0]
  clear hV0
  replace E := E.trans (bV0.mono E.size)
  replace HA := HA.below bV0 (by omega)
  replace HC := HC.below bV0 (by omega)
  clear bV0
  (with_reducible refine (rcheck_any _ B (w.heap.size + 2) 1 [a] RR.out rfl (by omega) (by omega)).mono ?_)
  rintro e w1 ⟨rfl, hb1⟩
  have sw1 := hb1.size
  replace E := E.trans (hb1.mono E.size)
  replace HA := HA.below hb1 (by omega)
  replace HC := HC.below hb1 (by omega)
  replace PA := PA.below hb1 PA.lt
  replace PF := PF.below hb1 PF.lt
  clear hb1
  rw [hf]
  clear RR
  have t_PA0 : ((w1.alloc (.cells #[.int .i64 0, .int .i64 0] 28)).alloc (.cells #[.slice none 0 0] 62)).cell? ⟨w.heap.size, 0, none⟩ = some ((.bool a.num.neg)) := ((PA.alloc _).alloc _).c0
  have t_PA1 : ((w1.alloc (.cells #[.int .i64 0, .int .i64 0] 28)).alloc (.cells #[.slice none 0 0] 62)).cell? ⟨w.heap.size, 1, none⟩ = some ((.slice a.num.A a.num.n a.num.c)) := ((PA.alloc _).alloc _).c1
  have t_PA2 : ((w1.alloc (.cells #[.int .i64 0, .int .i64 0] 28)).alloc (.cells #[.slice none 0 0] 62)).cell? ⟨w.heap.size, 2, none⟩ = some ((.bool a.den.neg)) := ((PA.alloc _).alloc _).c2
  have t_PA3 : ((w1.alloc (.cells #[.int .i64 0, .int .i64 0] 28)).alloc (.cells #[.slice none 0 0] 62)).cell? ⟨w.heap.size, 3, none⟩ = some ((.slice a.den.A a.den.n a.den.c)) := ((PA.alloc _).alloc _).c3
  go_wp2_with fail
  clear t_PA0 t_PA1 t_PA2 t_PA3
  obtain ⟨V1, hV1⟩ : ∃ V1 : World, V1 = ((w1.alloc (.cells #[.int .i64 0, .int .i64 0] 28)).alloc (.cells #[.slice none 0 0] 62)) := ⟨_, rfl⟩
  have bV1 : Below w1.heap.size w1 V1 := by rw [hV1]; (repeat (first | with_reducible exact Below.refl _ _ | with_reducible refine Below.drew ?_ | with_reducible refine below_drewN ?_ _ | with_reducible refine Below.setCell ?_ (by first | (simp; done) | (simp; omega) | omega) _ | with_reducible refine Below.alloc ?_ (by first | (simp; done) | (simp; omega) | omega) _))
  have zV1 : w1.heap.size + 2 ≤ V1.heap.size := by rw [hV1]; simp
  have F4 : Bk2 V1 (w1.heap.size) (.int .i64 0) (.int .i64 0) := by rw [hV1]; exact ((Bk2.newAt _ _ (by first | omega | (simp; done) | (simp; omega)) _ _ _).alloc _)
  have HQ : Row V1 (w1.heap.size + 1) 62 [.slice none 0 0] := by rw [hV1]; have h9 := Row.new (w1.alloc (.cells #[.int .i64 0, .int .i64 0] 28)) 62 [.slice none 0 0]; rw [show (w1.alloc (.cells #[.int .i64 0, .int .i64 0] 28)).heap.size = w1.heap.size + 1 by simp] at h9; exact h9
  rw [← hV1]
  clear hV1
  replace E := E.trans (bV1.mono E.size)
  replace HA := HA.below bV1 (by omega)
  replace HC := HC.below bV1 (by omega)
  replace PA := PA.below bV1 PA.lt
  replace PF := PF.below bV1 PF.lt
  clear bV1
  (with_reducible refine (expand_tm V1 V1.heap.size (w1.heap.size + 1) a n0 d0 (rv_at (HA.more (by omega)) (HC.more (by omega))) (Nat.le_refl _) HQ IX.out IY.out hd0 HBD.out.1 HBD.out.2).mono ?_)
  rintro e w3 ⟨base, j, ts, zs, v, n, d, rfl, hqb, hWb, TR, HT, CH, hdone, kp⟩
  have E3 : Below w.heap.size w w3 := E.trans (kp.below (by omega) (by omega) (by omega))
  have PF3 := kp.b2 PF (by omega) (by omega)
  have HL := TR.len.out
  obtain ⟨A, c, rfl, hjc, hcm⟩ := own_form TR.own
  have TRH := Lib.hid TR
  have HLL := Lib.hid HL
  have c0 : w3.cell? ⟨w1.heap.size + 1, 0, none⟩ = some (.slice A j c) := Row.cell TR.Q 0
  have hlq := Row.lt TR.Q
  have HTH := Lib.hid HT
  have CHH := Lib.hid CH
  obtain ⟨f0, f1, z0, z1, _⟩ := PF3
  clear kp TR HL HT CH HQ PA F4 E HA HC
  rcases hdone with ⟨hj, hd⟩ | hj
  · subst hd
    have hg : decide ((400 : Int) < (j : Int)) = false := decide_eq_false (by omega)
    have HJ := Lib.hid hj
    go_wp2_with fail
    refine bodyPost_ret (v := .tuple #[.slice A j c, flt 0 0]) (by simp [results, Tryz.results35, go_sem, f0, f1]) rfl (.inl ⟨A, j, c, ts, zs, n, rfl, TRd.ofs ((TRH.out.far (p := ⟨w.heap.size + 1, 0, none⟩) (by show w.heap.size + 1 ≠ _; omega) (by show w.heap.size + 1 < _; omega) _).far (p := ⟨w.heap.size + 1, 1, none⟩) (by show w.heap.size + 1 ≠ _; omega) (by show w.heap.size + 1 < _; omega) _).own HLL.out, ?_, CHH.out, HJ.out, by (repeat (first | with_reducible exact E3 | with_reducible exact Below.refl _ _ | with_reducible refine Below.drew ?_ | with_reducible refine Below.setCell ?_ (by first | (simp; done) | (simp; omega) | omega) _))⟩)
    exact HTH.out.go (fun H => (LRd.setB H ⟨f0, f1, z0, z1, by omega⟩ (by simp) (by simp) _ _).more (by simp [World.setCell]))
  · subst hj
    go_wp2_with fail
    refine bodyPost_ret (v := .tuple #[.slice none 0 0, flt 2 (-1)]) (by simp [results, Tryz.results35, go_sem, f0, f1]) rfl (.inr ⟨rfl, ⟨zs, n, d, by have h8 := HTH.out.1; have h9 := HLL.out; omega, CHH.out⟩, by (repeat (first | with_reducible exact E3 | with_reducible exact Below.refl _ _ | with_reducible refine Below.drew ?_ | with_reducible refine Below.setCell ?_ (by first | (simp; done) | (simp; omega) | omega) _))⟩)
end Go.Proofs.YtflmcgoijofpdaaGreat
