/- The text of an integer is read back. -/
import Derived.Test.YtflmcgoijofpdaaGreatCTxt3
namespace Go.Proofs.YtflmcgoijofpdaaGreat
open Go.RowKit
set_option maxHeartbeats 400000
set_option maxRecDepth 100000
set_option linter.unusedSimpArgs false
set_option linter.unusedVariables false

theorem sym_dval : ∀ k : Fin 36, ∀ c : Fin 256, (sym k.1).toNat = c.1 ↔ dval c.1 = k.1 := by decide
theorem sym_iff {k c : Nat} (hk : k < 36) (hc : c < 256) : (sym k).toNat = c ↔ dval c = k := sym_dval ⟨k, hk⟩ ⟨c, hc⟩
theorem dval_sym {k : Nat} (hk : k < 36) : dval (sym k).toNat = k := (sym_iff hk (UInt8.toNat_lt _)).1 rfl
theorem sym_45 : ∀ k : Fin 36, (sym k.1).toNat ≠ 45 := by decide
theorem sym_48 : ∀ k : Fin 36, (sym k.1).toNat = 48 ↔ k.1 = 0 := by decide
theorem bat_mk (l : List UInt8) (t : Nat) : bat ⟨l.toArray⟩ t = (l.getD t 0).toNat := by unfold bat; simp [List.getD_eq_getElem?_getD]
theorem bat_sym {ds : List Nat} {t : Nat} (h : t < ds.length) : bat ⟨(ds.map sym).toArray⟩ t = (sym (ds.getD t 0)).toNat := by
  rw [bat_mk]; simp [List.getD_eq_getElem?_getD, h]
theorem size_mk (l : List UInt8) : (⟨l.toArray⟩ : ByteArray).size = l.length := rfl
theorem top_first {y p : Nat} {ds : List Nat} (h : Rep y ds.reverse p) (hp : 0 < p) : 0 < ds.length ∧ ds.getD 0 0 ≠ 0 := by
  cases ds with
  | nil =>
    have := h.val
    rw [List.reverse_nil, vb_nil] at this
    omega
  | cons d ds =>
    refine ⟨Nat.succ_pos _, ?_⟩
    have := h.top ds.length (by simp)
    simpa [List.getD_eq_getElem?_getD] using this
theorem body_back {y p : Nat} {ds : List Nat} (hy : y ≤ 36) (h : Rep y ds.reverse p) (hp : 0 < p) (b : ByteArray) (hb : b = ⟨(ds.map sym).toArray⟩) :
    0 < b.size ∧ bat b 0 ≠ 48 ∧ bat b 0 ≠ 45 ∧ (∀ t, t < b.size → dval (bat b t) < y) ∧ bval b b.size y = p := by
  obtain ⟨h0, h1⟩ := top_first h hp
  have hs : b.size = ds.length := by rw [hb, size_mk, List.length_map]
  have hd : ∀ t, t < ds.length → ds.getD t 0 < y := fun t ht => by
    rw [List.getD_eq_getElem?_getD, List.getElem?_eq_getElem ht]
    exact h.dig _ (List.mem_reverse.2 (List.getElem_mem ht))
  have hv : ∀ t, t < ds.length → dval (bat b t) = ds.getD t 0 := fun t ht => by
    rw [hb, bat_sym ht, dval_sym (Nat.lt_of_lt_of_le (hd t ht) hy)]
  have hd0 : ds.getD 0 0 < 36 := Nat.lt_of_lt_of_le (hd 0 h0) hy
  refine ⟨by omega, ?_, ?_, fun t ht => ?_, ?_⟩
  · rw [hb, bat_sym h0]; exact fun k => h1 ((sym_48 ⟨_, hd0⟩).1 k)
  · rw [hb, bat_sym h0]; exact sym_45 ⟨_, hd0⟩
  · rw [hv t (by omega)]; exact hd t (by omega)
  · unfold bval
    rw [hs, ← h.val]
    congr 2
    refine List.ext_getElem (by simp) fun t h1 h2 => ?_
    have := hv t h2
    rw [List.getD_eq_getElem?_getD, List.getElem?_eq_getElem h2] at this
    simpa using this
theorem ext_cons (x : UInt8) (l : List UInt8) : (⟨(x :: l).toArray⟩ : ByteArray).extract 1 (⟨(x :: l).toArray⟩ : ByteArray).size = ⟨l.toArray⟩ := by
  refine ByteArray.ext ?_
  rw [ByteArray.data_extract]
  show (x :: l).toArray.extract 1 (l.length + 1) = l.toArray
  simp
/-- The text of an integer is a text of one, and its value is the integer. -/
theorem text_back {z : Int} {y : Nat} {l : List UInt8} (hy : 2 ≤ y ∧ y ≤ 36) (h : TextIs z y l) : TxOk ⟨l.toArray⟩ y ∧ TxVal ⟨l.toArray⟩ y = z := by
  obtain ⟨ds, hr, hl⟩ := h
  by_cases h0 : z = 0
  · rw [if_pos h0] at hl
    subst hl
    have e : bat ⟨[48].toArray⟩ 0 = 48 := rfl
    have hN : TxNeg ⟨[48].toArray⟩ = false := rfl
    refine ⟨.inl ⟨rfl, e⟩, ?_⟩
    unfold TxVal TxBody
    rw [hN]
    show sval false (vb y [dval 48]) = z
    rw [h0, vb_one]; rfl
  · rw [if_neg h0] at hl
    obtain ⟨g1, g2, g3, g4, g5⟩ := body_back hy.2 hr (by omega) _ rfl
    by_cases hz : z < 0
    · rw [if_pos hz] at hl
      have hN : TxNeg ⟨l.toArray⟩ = true := by rw [hl]; rfl
      have hB : TxBody ⟨l.toArray⟩ = ⟨(ds.map sym).toArray⟩ := by unfold TxBody; rw [hN, hl]; exact ext_cons _ _
      unfold TxVal
      rw [hN, hB, g5]
      exact ⟨.inr (by rw [hB]; exact ⟨g1, g2, g4⟩), by show -((z.natAbs : Nat) : Int) = z; omega⟩
    · rw [if_neg hz, List.nil_append] at hl
      have hN : TxNeg ⟨l.toArray⟩ = false := by rw [hl]; exact decide_eq_false fun k => g3 k.2
      have hB : TxBody ⟨l.toArray⟩ = ⟨(ds.map sym).toArray⟩ := by unfold TxBody; rw [hN, hl]; rfl
      unfold TxVal
      rw [hN, hB, g5]
      exact ⟨.inr (by rw [hB]; exact ⟨g1, g2, g4⟩), by show ((z.natAbs : Nat) : Int) = z; omega⟩
end Go.Proofs.YtflmcgoijofpdaaGreat
