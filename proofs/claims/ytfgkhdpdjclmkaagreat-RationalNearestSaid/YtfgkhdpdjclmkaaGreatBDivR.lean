/- The reference's Divide: numbers. -/
import Derived.Test.YtfgkhdpdjclmkaaGreatBe
namespace Go.Proofs.YtfgkhdpdjclmkaaGreat
open Go.RowKit
set_option maxHeartbeats 400000
set_option maxRecDepth 100000
set_option linter.unusedSimpArgs false
set_option linter.unusedVariables false

def DvIs (n v : Nat) (bs : List Nat) (k r : Nat) (qs : List Nat) : Prop :=
  qs.length = n ∧ (∀ j, j < k → qs.getD j 0 = 0) ∧ S 2 (fun t => qs.getD (k + t) 0) (n - k) * v + r = S 2 (fun t => bs.getD (k + t) 0) (n - k) ∧ r < v
theorem dv_put {n v k r u d : Nat} {bs qs : List Nat} (hk : k + 1 ≤ n) (hu : u < v) (e : u + v * d = r * 2 + bs.getD k 0) (h : DvIs n v bs (k + 1) r qs) : DvIs n v bs k u (qs.set k d) := by
  obtain ⟨h1, h2, h3, h4⟩ := h
  refine ⟨by rw [List.length_set, h1], fun j hj => ?_, hv_nat hk (by omega) e h3, hu⟩
  rw [getD_set _ _ _ _ (by omega), if_neg (by omega)]
  exact h2 j (by omega)
theorem dv_one {n v k r x : Nat} {bs qs : List Nat} (hk : k + 1 ≤ n) (hx : bs.getD k 0 = x) (hx1 : x ≤ 1) (hge : v ≤ 2 * r + x) (h : DvIs n v bs (k + 1) r qs) : DvIs n v bs k (2 * r + x - v) (qs.set k 1) := by
  have h4 := h.2.2.2
  exact dv_put hk (by omega) (by rw [hx]; omega) h
theorem dv_no {n v k r x : Nat} {bs qs : List Nat} (hk : k + 1 ≤ n) (hx : bs.getD k 0 = x) (hlt : 2 * r + x < v) (h : DvIs n v bs (k + 1) r qs) : DvIs n v bs k (2 * r + x) qs := by
  have h0 := h.2.1 k (by omega)
  have hl := h.1
  have := dv_put (d := 0) hk hlt (by rw [hx]; omega) h
  have e : qs.set k 0 = qs := by
    have hk' : k < qs.length := by omega
    have : qs[k] = 0 := by rw [List.getD_eq_getElem?_getD, List.getElem?_eq_getElem hk'] at h0; exact h0
    rw [← this]; exact List.set_getElem_self hk'
  rwa [e] at this
theorem dv_start {n v : Nat} {bs : List Nat} (hv : 0 < v) : DvIs n v bs n 0 (List.replicate n 0) :=
  ⟨by simp, fun j hj => by simp [List.getD_eq_getElem?_getD, List.getElem?_replicate, hj], by simp [S_zero], hv⟩
theorem dv_last {n v r : Nat} {bs qs : List Nat} (hb : bs.length = n) (h : DvIs n v bs 0 r qs) : vb 2 qs = vb 2 bs / v ∧ r = vb 2 bs % v := by
  obtain ⟨h1, _, h3, h4⟩ := h
  simp only [Nat.zero_add, Nat.sub_zero] at h3
  rw [vb_len (xs := qs) (by omega), vb_len (xs := bs) (by omega)] at h3
  rw [← h3]
  constructor
  · rw [Nat.mul_comm, Nat.mul_add_div (by omega), Nat.div_eq_of_lt h4, Nat.add_zero]
  · rw [Nat.mul_comm, Nat.mul_add_mod, Nat.mod_eq_of_lt h4]
end Go.Proofs.YtfgkhdpdjclmkaaGreat
