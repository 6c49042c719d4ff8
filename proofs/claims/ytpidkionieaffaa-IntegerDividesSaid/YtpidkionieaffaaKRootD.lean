/- The reference's Root. -/
import Derived.Test.YtpidkionieaffaaKDivD
import Derived.Test.YtpidkionieaffaaKd
namespace Go.Proofs.Ytpidkionieaffaa
open Go.RowKit
set_option maxHeartbeats 400000
set_option maxRecDepth 100000
set_option linter.unusedSimpArgs false
set_option linter.unusedVariables false

def RtIs (n p : Nat) (k : Nat) (ls : List Nat) : Prop :=
  ls.length = n ∧ (∀ j, j < k → ls.getD j 0 = 0) ∧ vb 2 ls * vb 2 ls ≤ p ∧ p < (vb 2 ls + 2 ^ k) * (vb 2 ls + 2 ^ k)
theorem rt_put {n k : Nat} {ls : List Nat} (hl : ls.length = n) (hk : k + 1 ≤ n) (h0 : ls.getD k 0 = 0) : vb 2 (ls.set k 1) = vb 2 ls + 2 ^ k := by
  have := S_set (b := 2) (N := n) (p := k) (v := 1) (rs := ls) (by omega) (by omega)
  rw [h0] at this
  have e1 : vb 2 (ls.set k 1) = S 2 (fun i => (ls.set k 1).getD i 0) n := by unfold vb; rw [List.length_set, hl]
  have e2 : vb 2 ls = S 2 (fun i => ls.getD i 0) n := by unfold vb; rw [hl]
  rw [e1, e2]
  omega
theorem rt_yes {n p k : Nat} {ls : List Nat} (hk : k + 1 ≤ n) (hle : vb 2 (ls.set k 1) * vb 2 (ls.set k 1) ≤ p) (h : RtIs n p (k + 1) ls) : RtIs n p k (ls.set k 1) := by
  obtain ⟨h1, h2, h3, h4⟩ := h
  have e := rt_put h1 hk (h2 k (by omega))
  refine ⟨by rw [List.length_set, h1], fun j hj => ?_, hle, ?_⟩
  · rw [getD_set _ _ _ _ (by omega), if_neg (by omega)]
    exact h2 j (by omega)
  · rw [e, show vb 2 ls + 2 ^ k + 2 ^ k = vb 2 ls + 2 ^ (k + 1) by rw [Nat.pow_succ]; omega]
    exact h4
theorem rt_no {n p k : Nat} {ls : List Nat} (hk : k + 1 ≤ n) (hlt : p < vb 2 (ls.set k 1) * vb 2 (ls.set k 1)) (h : RtIs n p (k + 1) ls) : RtIs n p k ls := by
  obtain ⟨h1, h2, h3, h4⟩ := h
  rw [rt_put h1 hk (h2 k (by omega))] at hlt
  exact ⟨h1, fun j hj => h2 j (by omega), h3, hlt⟩
theorem rt_back {n k : Nat} {ls : List Nat} (hl : ls.length = n) (hk : k + 1 ≤ n) (h0 : ls.getD k 0 = 0) : (ls.set k 1).set k 0 = ls := by
  rw [List.set_set]
  have hk' : k < ls.length := by omega
  have : ls[k] = 0 := by rw [List.getD_eq_getElem?_getD, List.getElem?_eq_getElem hk'] at h0; exact h0
  rw [← this]; exact List.set_getElem_self hk'
theorem vb_rep0 (n : Nat) : vb 2 (List.replicate n 0) = 0 := by
  unfold vb
  have : ∀ m, S 2 (fun i => (List.replicate n 0).getD i 0) m = 0 := by
    intro m
    induction m with
    | zero => rfl
    | succ m ih =>
      have e : (List.replicate n 0).getD m 0 = 0 := by
        rw [List.getD_eq_getElem?_getD, List.getElem?_replicate]; split <;> rfl
      rw [S_succ, ih, e, Nat.zero_mul]
  exact this _
theorem rt_start {n p l : Nat} (hl : l ≤ 2 * n) (hp : p < 2 ^ l) : RtIs n p n (List.replicate n 0) := by
  refine ⟨by simp, fun j hj => by simp [List.getD_eq_getElem?_getD, List.getElem?_replicate, hj], by rw [vb_rep0]; exact Nat.zero_le _, ?_⟩
  rw [vb_rep0, Nat.zero_add, ← Nat.pow_add]
  exact Nat.lt_of_lt_of_le hp (Nat.pow_le_pow_right (by decide) (by omega))
theorem RBo.put0 {w : World} {g j : Nat} {cs : List Nat} (h : RBo w g cs) : RBo (w.setCell ⟨g, j, none⟩ (.bool false)) g (cs.set j 0) := by
  have := Row.set_ h j (.bool false)
  unfold RBo bools
  rw [List.map_set]
  exact this
def RtRel (n p : Nat) (w : World) (i : Value) (wr : World) : Prop :=
  ∃ (k : Nat) (ls : List Nat), k ≤ n ∧ i = .int .i64 ((k : Int) - 1) ∧ RBo wr w.heap.size ls ∧ Dig 2 ls ∧ Below w.heap.size w wr ∧ Hid (RtIs n p k ls)
def RtPost (w : World) (p : Nat) (e : Ending) (w' : World) : Prop := ∃ s, s * s ≤ p ∧ p < (s + 1) * (s + 1) ∧ GivesN w s e w'
theorem rep_smallD {xs zs : List Nat} {k n : Nat} (hd : Dig 2 zs) (hz : zs.length = n) (h : Rep 65536 xs (vb 2 zs)) (hl : xs.length = k) : k ≤ n := by
  have h1 : vb 2 zs < 2 ^ n := by
    unfold vb; rw [hz]
    exact S_lt (by decide) (fun j _ => Dig.at_ hd (by decide) j)
  have h2 : 2 ^ n ≤ 65536 ^ n := Nat.pow_le_pow_left (by decide) n
  have := h.length_le (m := n) (by decide) (by omega)
  omega
set_option maxHeartbeats 4000000 in
theorem rootD_any (w : World) (B : Nat) (A : Option Addr) (n c p : Nat) (xs : List Nat) (h : DRd w B A n c xs) (hB : B ≤ w.heap.size) (hx : Rep 65536 xs p) (hn : n ≤ 100000) :
    Calls Try.prog 40 #[.slice A n c] w (RtPost w p) := by
  go_enter Try.func40, Try.ntmps40
  go_wp2_with fail
  refine (ones_any w B A n c xs h hB (by omega)).mono ?_
  rintro e w1 ⟨L, l, lc, bs, rfl, ho, hro, hb1⟩
  rw [hx.val] at hro
  have hls : l ≤ 1600000 := by
    have h1 := hx.lt_pow (by decide)
    have h3 := hro.length_le (m := 16 * n) (by decide) (by rw [h.len.out, show (65536 : Nat) = 2 ^ 16 by decide, ← Nat.pow_mul] at h1; exact h1)
    rw [ho.len.out] at h3
    omega
  have hpl := Lib.hid (show p < 2 ^ l by have := hro.lt_pow (by decide); rw [ho.len.out] at this; exact this)
  have H2 : DRd w1 w1.heap.size A n c xs := (h.below hb1 hB).more (by have := hb1.size; omega)
  have hlc := ho.cap
  obtain ⟨m, hm⟩ : ∃ m, m = (l + 1) / 2 := ⟨_, rfl⟩
  have hq : ((l : Int) + 1) / 2 = (m : Int) := by omega
  have hml : m ≤ 1000000 := by omega
  have hmk := mkB m (by omega)
  have hr0 := RBo.new w1 m
  have HS := Lib.hid (rt_start (show l ≤ 2 * m by omega) hpl.out)
  have HX := Lib.hid hx
  have hxl := Lib.hid h.len.out
  clear hro h hx ho hpl hm
  go_wp2_with fail
  simp only [hq]
  clear hq
  go_loopw [5] (RtRel m p w1) (fun i _ => (intOf i + 1).toNat)
  case atStart => exact ⟨m, List.replicate m 0, Nat.le_refl _, rfl, hr0, (by intro x hx; have := List.eq_of_mem_replicate hx; omega), bl1 _ _, HS.out⟩
  case round =>
    clear hr0 hmk HS
    obtain ⟨k, ls, hk, rfl, hQ, hqd, hbw, HI⟩ := hrel
    have hql := Lib.hid HI.out.1
    have hsz := hbw.size
    by_cases h0 : k = 0
    · subst h0
      go_wp2_with fail
      refine (binary_any wr wr.heap.size _ m m ls (hQ.ord hqd hql.out (by omega)) (Nat.le_refl _) (by omega)).mono ?_
      rintro e w2 ⟨Z, z, zc, zs, rfl, hz, hrz, hb2⟩
      have HZ := Lib.hid hrz
      clear hrz
      go_wp2_with fail
      go_ret
      exact ⟨vb 2 ls, HI.out.2.2.1, by have := HI.out.2.2.2; rwa [Nat.pow_zero] at this, _, _, _, zs, rfl, hz, HZ.out, hb1.trans ((hbw.trans (hb2.mono hsz)).mono hb1.size)⟩
    · obtain ⟨j, rfl⟩ : ∃ j, k = j + 1 := ⟨k - 1, by omega⟩
      have ei : ((j + 1 : Nat) : Int) - 1 = (j : Int) := by omega
      rw [ei]
      clear ei h0
      have g3 := hQ.cell (j := j) (by have := hql.out; omega)
      have g4 := Row.frozen hQ j
      go_wp2_with fail
      obtain ⟨V, hV⟩ : ∃ V : World, V = wr.setCell ⟨w1.heap.size, j, none⟩ (.bool true) := ⟨_, rfl⟩
      have QV : RBo V w1.heap.size (ls.set j 1) := by rw [hV]; exact hQ.put
      have BV : Below w1.heap.size w1 V := by rw [hV]; exact hbw.setCell (Nat.le_refl _) _
      rw [← hV]
      clear hV g3 g4
      have hd1 := hqd.set2 (j := j) (x := 1) (by decide)
      have hl1 := Lib.hid (show (ls.set j 1).length = m by rw [List.length_set]; exact hql.out)
      refine (binary_any V V.heap.size _ m m _ (QV.ord hd1 hl1.out (by omega)) (Nat.le_refl _) (by omega)).mono ?_
      rintro e w2 ⟨Z, z, zc, zs, rfl, hz, hrz, hb2⟩
      have hzm := rep_smallD hd1 hl1.out hrz hz.len.out
      have HZ := Lib.hid hrz
      clear hrz
      have B2 : Below w1.heap.size w1 w2 := dn BV hb2
      have hzc := hz.cap
      go_wp2_with fail
      refine (times_any w2 w2.heap.size Z Z z z zc zc zs zs hz hz (Nat.le_refl _) (by omega) (by omega)).mono ?_
      rintro e w3 ⟨T, t, tc, ts, rfl, ht, hrt, hb3⟩
      rw [HZ.out.val] at hrt
      have HT := Lib.hid hrt
      clear hrt
      have B3 : Below w1.heap.size w1 w3 := dn B2 hb3
      have htc := ht.cap
      go_wp2_with fail
      refine (compareD_any w3 w3.heap.size T A t n tc c ts xs ht ((H2.below B3 (Nat.le_refl _)).more B3.size)).mono ?_
      rintro e w4 ⟨q, rfl, hci, dr, rfl⟩
      have hcv := cmp_rep (by decide) hci ht.len.out hxl.out HT.out HX.out
      clear hci
      have B4 : Below w1.heap.size w1 (w3.drewN dr) := below_drewN B3 dr
      have Q4 : RBo (w3.drewN dr) w1.heap.size (ls.set j 1) := Row.drewN ((QV.below hb2 (Row.lt QV)).below hb3 (by have := hb2.size; have := Row.lt QV; omega)) dr
      by_cases hq1 : q = 1
      · subst hq1
        have ST := Lib.hid (rt_no (by omega) (by unfold CmpV at hcv; omega) HI.out)
        have hbk := rt_back hql.out (by omega) (HI.out.2.1 j (by omega))
        clear hcv
        have g3 := Q4.cell (j := j) (by have := hl1.out; omega)
        have g4 := Row.frozen Q4 j
        go_wp2_with fail
        go_roundw
        case rel => exact ⟨j, ls, by omega, rfl, (by have := Q4.put0 (j := j); rw [hbk] at this; exact this), hqd, B4.setCell (Nat.le_refl _) _, ST.out⟩
        case measure => first | (simp [intOf]; done) | (simp [intOf]; omega)
      · have ST := Lib.hid (rt_yes (by omega) (by unfold CmpV at hcv; omega) HI.out)
        have hq0 : q ≤ 0 := by unfold CmpV at hcv; omega
        clear hcv
        go_wp2_with fail
        go_roundw
        case rel => exact ⟨j, _, by omega, rfl, Q4, hd1, B4, ST.out⟩
        case measure => first | (simp [intOf]; done) | (simp [intOf]; omega)
end Go.Proofs.Ytpidkionieaffaa
