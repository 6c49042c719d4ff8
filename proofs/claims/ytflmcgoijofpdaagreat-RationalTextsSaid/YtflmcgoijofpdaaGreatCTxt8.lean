/- The reference's IntText as a whole; the program's Text as a whole. -/
import Derived.Test.YtflmcgoijofpdaaGreatCTxt6
import Derived.Test.YtflmcgoijofpdaaGreatCTxt7
import Derived.Test.YtflmcgoijofpdaaGreatCy
import Derived.Test.YtflmcgoijofpdaaGreatCInt22
namespace Go.Proofs.YtflmcgoijofpdaaGreat
open Go.RowKit
set_option maxHeartbeats 400000
set_option maxRecDepth 100000
set_option linter.unusedSimpArgs false
set_option linter.unusedVariables false

def ItGood (s : ByteArray) (y : Nat) (w : World) (e : Ending) (w' : World) : Prop :=
  ∃ A k c zs v, e = .returned (.tuple #[intv (TxNeg s) A k c, .bool true]) ∧ DRd w' w'.heap.size A k c zs ∧ Rep 65536 zs v ∧ sval (TxNeg s) v = TxVal s y ∧ Below w.heap.size w w'
theorem itx_bad (w : World) (s : ByteArray) (y : Nat) (hy : 2 ≤ y ∧ y ≤ 36) (hl : s.size ≤ 4097) (h : ¬ TxOk s y) :
    Calls Tryz.prog 54 #[.string s, .int .i64 (y : Int)] w (ItNone w) := by
  rcases Nat.eq_zero_or_pos s.size with h0 | h0
  · exact itx_e w s h0 (by rw [tl_empty, decide_eq_true h0]) y
  have hE : s.toList.isEmpty = false := by rw [tl_empty, decide_eq_false (by omega)]
  by_cases hm : bat s 0 = 45
  · have hN : TxNeg s = true := decide_eq_true ⟨h0, hm⟩
    have hB : TxBody s = s.extract 1 s.size := by unfold TxBody; rw [hN]; rfl
    rcases Nat.eq_zero_or_pos (s.extract 1 s.size).size with h1 | h1
    · exact itx_ne w s h0 (by rw [bat_eq h0]; exact hm) (by rw [tl_empty, decide_eq_true h1]) y
    have hE1 : (s.extract 1 s.size).toList.isEmpty = false := by rw [tl_empty, decide_eq_false (by omega)]
    by_cases hc : bat (s.extract 1 s.size) 0 = 48
    · exact itx_n0 w s h0 (by rw [bat_eq h0]; exact hm) h1 (by rw [bat_eq h1]; exact hc) hE1 y
    · refine (itx_n w s _ (s.extract 1 s.size).size y hy (by rw [ext_size]; omega) rfl h0 (by rw [bat_eq h0]; exact hm) rfl h1 (by rw [bat_eq h1]; exact hc) hE1).mono ?_
      rintro e u' (⟨A, k, c, zs, _, _, _, hS, _⟩ | ⟨he, _, hb⟩)
      · exact absurd (.inr (by rw [hB]; exact ⟨h1, hc, hS⟩)) h
      · exact ⟨he, hb⟩
  · have hN : TxNeg s = false := decide_eq_false fun k => hm k.2
    have hB : TxBody s = s := by unfold TxBody; rw [hN]; rfl
    by_cases hc : bat s 0 = 48
    · have h2 : 1 < s.size := by
        rcases Nat.lt_or_ge 1 s.size with e | e
        · exact e
        · exact absurd (.inl ⟨by omega, hc⟩) h
      exact itx_0 w s h2 (by rw [bat_eq h0]; exact hc) hE y
    · refine (itx_c w s s.size y hy hl rfl h0 (by rw [bat_eq h0]; exact hm) (by rw [bat_eq h0]; exact hc) hE).mono ?_
      rintro e u' (⟨A, k, c, zs, _, _, _, hS, _⟩ | ⟨he, _, hb⟩)
      · exact absurd (.inr (by rw [hB]; exact ⟨h0, hc, hS⟩)) h
      · exact ⟨he, hb⟩
theorem itx_ok (w : World) (s : ByteArray) (y : Nat) (hy : 2 ≤ y ∧ y ≤ 36) (hl : s.size ≤ 4097) (h : TxOk s y) :
    Calls Tryz.prog 54 #[.string s, .int .i64 (y : Int)] w (ItGood s y w) := by
  by_cases hz : s.size = 1 ∧ bat s 0 = 48
  · have h0 : 0 < s.size := by omega
    have hN : TxNeg s = false := decide_eq_false fun k => by have := hz.2; omega
    have hB : TxBody s = s := by unfold TxBody; rw [hN]; rfl
    have hE : s.toList.isEmpty = false := by rw [tl_empty, decide_eq_false (by omega)]
    refine (itx_z w s s.size y hy (Lib.hid hz.1) hl rfl h0 (by rw [bat_eq h0]; exact hz.2) hE).mono ?_
    rintro e u' (⟨A, k, c, zs, rfl, hD, hR, _, hb⟩ | ⟨_, ⟨t, ht, hb⟩, _⟩)
    · exact ⟨A, k, c, zs, _, by rw [hN], hD, hR, by unfold TxVal; rw [hB], hb⟩
    · exfalso
      obtain rfl : t = 0 := by omega
      rw [hz.2] at hb
      exact absurd hb (by show ¬ y ≤ 0; omega)
  · obtain ⟨h1, hc, hd⟩ := h.elim (fun k => absurd k hz) id
    by_cases hm : 0 < s.size ∧ bat s 0 = 45
    · have hN : TxNeg s = true := decide_eq_true hm
      have hB : TxBody s = s.extract 1 s.size := by unfold TxBody; rw [hN]; rfl
      rw [hB] at h1 hc hd
      have hE1 : (s.extract 1 s.size).toList.isEmpty = false := by rw [tl_empty, decide_eq_false (by omega)]
      refine (itx_n w s _ (s.extract 1 s.size).size y hy (by rw [ext_size]; omega) rfl hm.1 (by rw [bat_eq hm.1]; exact hm.2) rfl h1 (by rw [bat_eq h1]; exact hc) hE1).mono ?_
      rintro e u' (⟨A, k, c, zs, rfl, hD, hR, _, hb⟩ | ⟨_, ⟨t, ht, hb⟩, _⟩)
      · exact ⟨A, k, c, zs, _, by rw [hN], hD, hR, by unfold TxVal; rw [hB], hb⟩
      · exact absurd (hd t ht) (by omega)
    · have hN : TxNeg s = false := decide_eq_false hm
      have hB : TxBody s = s := by unfold TxBody; rw [hN]; rfl
      rw [hB] at h1 hc hd
      have hE : s.toList.isEmpty = false := by rw [tl_empty, decide_eq_false (by omega)]
      refine (itx_c w s s.size y hy hl rfl h1 (by rw [bat_eq h1]; exact fun k => hm ⟨h1, k⟩) (by rw [bat_eq h1]; exact hc) hE).mono ?_
      rintro e u' (⟨A, k, c, zs, rfl, hD, hR, _, hb⟩ | ⟨_, ⟨t, ht, hb⟩, _⟩)
      · exact ⟨A, k, c, zs, _, by rw [hN], hD, hR, by unfold TxVal; rw [hB], hb⟩
      · exact absurd (hd t ht) (by omega)
end Go.Proofs.YtflmcgoijofpdaaGreat
