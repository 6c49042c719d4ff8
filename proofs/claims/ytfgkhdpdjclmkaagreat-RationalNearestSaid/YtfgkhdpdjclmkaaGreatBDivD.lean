/- The reference's Divide. -/
import Derived.Test.YtfgkhdpdjclmkaaGreatBDivR
import Derived.Test.YtfgkhdpdjclmkaaGreatBInt20
import Derived.Test.YtfgkhdpdjclmkaaGreatBe
import Derived.Test.YtfgkhdpdjclmkaaGreatBd
import Derived.Test.YtfgkhdpdjclmkaaGreatBi
namespace Go.Proofs.YtfgkhdpdjclmkaaGreat
open Go.RowKit
set_option maxHeartbeats 400000
set_option maxRecDepth 100000
set_option linter.unusedSimpArgs false
set_option linter.unusedVariables false

def RBo (w : World) (g : Nat) (cs : List Nat) : Prop := Row w g 4 (bools cs)
theorem RBo.new (w : World) (n : Nat) : RBo (w.alloc (.cells (List.replicate n (Value.bool false)).toArray 4)) w.heap.size (List.replicate n 0) := by
  unfold RBo bools
  rw [List.map_replicate]
  exact Row.new w 4 _
theorem RBo.cell {w : World} {g j : Nat} {cs : List Nat} (h : RBo w g cs) (hj : j < cs.length) : w.cell? ⟨g, j, none⟩ = some (.bool (bt cs j)) := by
  rw [Row.cell h]
  unfold bools bt
  simp [hj]
theorem RBo.put {w : World} {g j : Nat} {cs : List Nat} (h : RBo w g cs) : RBo (w.setCell ⟨g, j, none⟩ (.bool true)) g (cs.set j 1) := by
  have := Row.set_ h j (.bool true)
  unfold RBo bools
  rw [List.map_set]
  exact this
theorem RBo.below {w w' : World} {g B : Nat} {cs : List Nat} (h : RBo w g cs) (hb : Below B w w') (hg : g < B) : RBo w' g cs := Row.below h hb hg
theorem RBo.ord {w : World} {g n : Nat} {cs : List Nat} (h : RBo w g cs) (hd : Dig 2 cs) (hl : cs.length = n) (hn : n ≤ 9223372036854775807) : ORd w w.heap.size (some ⟨g, 0, none⟩) n n cs :=
  ⟨hl, ⟨Nat.le_refl _, hn⟩, hd, fun _ => ⟨g, 0, rfl, Row.lt h, fun j hj => by rw [Nat.zero_add]; exact h.cell (by omega)⟩⟩
theorem Dig.set2 {cs : List Nat} (h : Dig 2 cs) {j x : Nat} (hx : x < 2) : Dig 2 (cs.set j x) := by
  intro y hy
  rcases List.mem_or_eq_of_mem_set hy with h1 | h1
  · exact h y h1
  · omega
theorem bt_nat {xs : List Nat} {j : Nat} (hd : Dig 2 xs) : xs.getD j 0 = (bt xs j).toNat := by
  cases h : bt xs j
  · exact bt_false hd h
  · exact bt_true h
def DivRel (n v : Nat) (bs : List Nat) (w : World) (rest i : Value) (wr : World) : Prop :=
  ∃ (k r : Nat) (qs : List Nat) (A : Option Addr) (m c : Nat) (rs : List Nat), k ≤ n ∧ i = .int .i64 ((k : Int) - 1) ∧ rest = .slice A m c ∧ DRd wr wr.heap.size A m c rs ∧ Hid (Rep 65536 rs r) ∧ RBo wr w.heap.size qs ∧ Dig 2 qs ∧ Below w.heap.size w wr ∧ Hid (DvIs n v bs k r qs)
def DivPost (w : World) (p v : Nat) (e : Ending) (w' : World) : Prop :=
  ∃ A k c zs D l d ys, e = .returned (.tuple #[.slice A k c, .slice D l d]) ∧ DRd w' w'.heap.size A k c zs ∧ Rep 65536 zs (p / v) ∧ DRd w' w'.heap.size D l d ys ∧ Rep 65536 ys (p % v) ∧ Below w.heap.size w w'
theorem dn {W v v' : World} (h : Below W.heap.size W v) (hb : Below v.heap.size v v') : Below W.heap.size W v' := h.trans (hb.mono h.size)
set_option maxHeartbeats 4000000 in
theorem divideD_any (w : World) (B : Nat) (A D : Option Addr) (n m c d p v : Nat) (xs ys : List Nat) (h : DRd w B A n c xs) (h2 : DRd w B D m d ys) (hB : B ≤ w.heap.size) (hx : Rep 65536 xs p) (hy : Rep 65536 ys v) (hv : 0 < v) (hn : n ≤ 100000) (hm : m ≤ 100000) :
    Calls Tryz.prog 73 #[.slice A n c, .slice D m d] w (DivPost w p v) := by
  go_enter Tryz.func73, Tryz.ntmps73
  go_wp2_with fail
  refine (ones_any w B A n c xs h hB (by omega)).mono ?_
  rintro e w1 ⟨L, l, lc, bs, rfl, ho, hro, hb1⟩
  rw [hx.val] at hro
  have HO := Lib.hid hro
  have hls : l ≤ 1600000 := by
    have h1 := hx.lt_pow (by decide)
    have h3 := hro.length_le (m := 16 * n) (by decide) (by rw [h.len.out, show (65536 : Nat) = 2 ^ 16 by decide, ← Nat.pow_mul] at h1; exact h1)
    rw [ho.len.out] at h3
    omega
  have H2 : DRd w1 w1.heap.size D m d ys := (h2.below hb1 hB).more (by have := hb1.size; omega)
  have hmk := mkB l (by omega)
  have hr0 := RBo.new w1 l
  have hll := Lib.hid ho.len.out
  have hlc := ho.cap
  have HY := Lib.hid hy
  have hml := Lib.hid h2.len.out
  clear hro h h2 hx hy
  go_wp2_with fail
  go_loopw [8, 9] (DivRel l v bs w1) (fun _ i _ => (intOf i + 1).toNat)
  case atStart => exact ⟨l, 0, List.replicate l 0, none, 0, 0, [], Nat.le_refl _, rfl, rfl, nil_drd _, nil_repD, hr0, (by intro x hx; have := List.eq_of_mem_replicate hx; omega), bl1 _ _, dv_start hv⟩
  case round =>
    clear hr0 hmk
    obtain ⟨k, r, qs, R, a, ac, rs, hk, rfl, rfl, hR, HR, hQ, hqd, hbw, HI⟩ := hrel
    have hql := Lib.hid HI.out.1
    have hcap := hR.cap
    have hsz := hbw.size
    by_cases h0 : k = 0
    · subst h0
      obtain ⟨hv1, hr2⟩ := dv_last hll.out HI.out
      have HV := Lib.hid (show vb 2 qs = p / v by rw [hv1, HO.out.val])
      have HM := Lib.hid (show r = p % v by rw [hr2, HO.out.val])
      clear hv1 hr2 HI
      go_wp2_with fail
      refine (binary_any wr wr.heap.size _ l l qs (hQ.ord hqd hql.out (by omega)) (Nat.le_refl _) (by omega)).mono ?_
      rintro e w2 ⟨Z, z, zc, zs, rfl, hz, hrz, hb2⟩
      rw [HV.out] at hrz
      have HZ := Lib.hid hrz
      clear hrz
      go_wp2_with fail
      go_ret2
      exact ⟨_, _, _, zs, _, _, _, rs, rfl, hz, HZ.out, (hR.below hb2 (Nat.le_refl _)).more hb2.size, by rw [← HM.out]; exact HR.out, hb1.trans ((hbw.trans (hb2.mono hsz)).mono hb1.size)⟩
    · obtain ⟨j, rfl⟩ : ∃ j, k = j + 1 := ⟨k - 1, by omega⟩
      have ei : ((j + 1 : Nat) : Int) - 1 = (j : Int) := by omega
      rw [ei]
      clear ei h0
      have hra : a ≤ m := rep_len_le HY.out HR.out hml.out hR.len.out (Nat.le_of_lt HI.out.2.2.2)
      obtain ⟨b, off, rfl, hb, hc⟩ := ho.rd (by omega)
      have g1 := (hbw.cell (p := ⟨b, off + j, none⟩) (by show b < _; omega)).trans (hc j (by omega))
      obtain ⟨x, hx⟩ : ∃ x, x = (bt bs j).toNat := ⟨_, rfl⟩
      have HX := Lib.hid (show bs.getD j 0 = x by rw [hx]; exact bt_nat ho.lim)
      clear hc
      go_wp2_with fail
      refine (double_any wr wr.heap.size R a ac (bt bs j) rs hR (Nat.le_refl _) (by omega)).mono ?_
      rintro e w2 ⟨E, t, tc, ts, rfl, hT, hrT, hb2⟩
      rw [HR.out.val, ← hx] at hrT
      have HT := Lib.hid hrT
      clear hrT g1
      have H3 : DRd w2 w2.heap.size D m d ys := (H2.below hbw (Nat.le_refl _)).below hb2 hsz |>.more (by have := hb2.size; omega)
      go_wp2_with fail
      refine (compareD_any w2 w2.heap.size E D t m tc d ts ys hT H3).mono ?_
      rintro e w3 ⟨q, rfl, hci, dr, rfl⟩
      have hcv := cmp_rep (by decide) hci hT.len.out hml.out HT.out HY.out
      clear hci
      have T3 := hT.drewN dr
      have B3 : Below w1.heap.size w1 (w2.drewN dr) := below_drewN (dn hbw hb2) dr
      have Q3 : RBo (w2.drewN dr) w1.heap.size qs := Row.drewN (hQ.below hb2 (Row.lt hQ)) dr
      have htc := hT.cap
      by_cases hq : q = -1
      · subst hq
        have ST := Lib.hid (dv_no (by omega) HX.out (by unfold CmpV at hcv; omega) HI.out)
        clear hcv
        go_wp2_with fail
        go_roundw
        case rel => exact ⟨j, _, qs, _, _, _, ts, by omega, rfl, rfl, T3, HT.out, Q3, hqd, B3, ST.out⟩
        case measure => first | (simp [intOf]; done) | (simp [intOf]; omega)
      · have hge : v ≤ 2 * r + x := by unfold CmpV at hcv; omega
        have hq0 : 0 ≤ q := by unfold CmpV at hcv; omega
        have hx1 : x ≤ 1 := by rw [hx]; cases bt bs j <;> decide
        have ST := Lib.hid (dv_one (by omega) HX.out hx1 hge HI.out)
        have H4 : DRd (w2.drewN dr) w2.heap.size D m d ys := H3.drewN dr
        have hle : m ≤ t := rep_len_le HT.out HY.out hT.len.out hml.out hge
        have htl : t ≤ 1000000 := by
          have h3 := HI.out.2.2.2
          have h4 := HY.out.lt_pow (by decide)
          rw [hml.out] at h4
          have h5 := HT.out.length_le (m := m + 1) (by decide) (by rw [Nat.pow_succ]; omega)
          rw [hT.len.out] at h5
          omega
        clear hcv
        go_wp2_with fail
        refine (minus_any (w2.drewN dr) w2.heap.size E D t m tc d ts ys T3 H4 (by simp) hle (by omega) (by rw [HT.out.val, HY.out.val]; exact hge)).mono ?_
        rintro e w4 ⟨F, f, fc, fs, rfl, hF, hrF, hb4⟩
        rw [HT.out.val, HY.out.val] at hrF
        have HF := Lib.hid hrF
        clear hrF
        have Q4 : RBo w4 w1.heap.size qs := Q3.below hb4 (Row.lt Q3)
        have B4 : Below w1.heap.size w1 w4 := dn B3 hb4
        have s4 := B4.size
        have g3 := Q4.cell (j := j) (by have := hql.out; omega)
        have g4 := Row.frozen Q4 j
        have hfc := hF.cap
        go_wp2_with fail
        go_roundw
        case rel => exact ⟨j, _, qs.set j 1, _, _, _, fs, by omega, rfl, rfl, (hF.setO (fun z => by rw [g3]; simp) _).more (by simp [World.setCell]), HF.out, Q4.put, hqd.set2 (by decide), B4.setCell (Nat.le_refl _) _, ST.out⟩
        case measure => first | (simp [intOf]; done) | (simp [intOf]; omega)
end Go.Proofs.YtfgkhdpdjclmkaaGreat
