/- The program's Parse: the text of an integer. -/
import Derived.Test.YtflmcgoijofpdaaGreatCTxt2
namespace Go.Proofs.YtflmcgoijofpdaaGreat
open Go.RowKit
set_option maxHeartbeats 400000
set_option maxRecDepth 100000
set_option linter.unusedSimpArgs false
set_option linter.unusedVariables false

theorem tl_empty (s : ByteArray) : s.toList.isEmpty = decide (s.size = 0) := by
  rw [ByteArray.toList_eq]
  obtain ⟨⟨l⟩⟩ := s
  cases l with
  | nil => rfl
  | cons x xs => simp [ByteArray.size]
theorem u8_48 {x : UInt8} : x = 48 ↔ x.toNat = 48 := ⟨fun h => by rw [h]; rfl, fun h => UInt8.toNat_inj.1 (by rw [h]; rfl)⟩
theorem tl_zero (s : ByteArray) : (s.toList == [48]) = decide (s.size = 1 ∧ bat s 0 = 48) := by
  rw [ByteArray.toList_eq, Bool.eq_iff_iff]
  obtain ⟨⟨l⟩⟩ := s
  unfold bat
  cases l with
  | nil => simp [ByteArray.size]
  | cons x xs =>
    cases xs with
    | nil => simp [ByteArray.size, u8_48]
    | cons y ys => simp [ByteArray.size]
def TxNeg (s : ByteArray) : Bool := decide (0 < s.size ∧ bat s 0 = 45)
def TxBody (s : ByteArray) : ByteArray := if TxNeg s then s.extract 1 s.size else s
/-- The text of an integer to a base. -/
def TxOk (s : ByteArray) (y : Nat) : Prop :=
  (s.size = 1 ∧ bat s 0 = 48) ∨ (0 < (TxBody s).size ∧ bat (TxBody s) 0 ≠ 48 ∧ ∀ t, t < (TxBody s).size → dval (bat (TxBody s) t) < y)
def TxVal (s : ByteArray) (y : Nat) : Int := sval (TxNeg s) (bval (TxBody s) (TxBody s).size y)
def SpGood (s b : ByteArray) (n y : Nat) (neg : Bool) (u : World) (e : Ending) (u' : World) : Prop :=
  ∃ g cs, e = .returned (.tuple #[.bool neg, .slice (some ⟨g, 0, none⟩) n n]) ∧ R64 u' g cs ∧ cs.length = n ∧ Dig 65536 cs ∧ u.heap.size ≤ g ∧ SpIs b y n cs ∧ Below u.heap.size u u'
theorem ext_size (s : ByteArray) : (s.extract 1 s.size).size = s.size - 1 := by simp
theorem split_bad (s : ByteArray) (y : Nat) (hy : 2 ≤ y ∧ y ≤ 36) (hl : s.size ≤ 4097) (h : ¬ TxOk s y) (u : World) :
    Calls Tryz.prog 144 #[.string s, .int .i64 (y : Int)] u (SpNone u) := by
  have hA : (s.toList == [48]) = false := by rw [tl_zero]; exact decide_eq_false fun k => h (.inl k)
  rcases Nat.eq_zero_or_pos s.size with h0 | h0
  · exact split_e u s y hA (by rw [tl_empty, decide_eq_true h0])
  have hE : s.toList.isEmpty = false := by rw [tl_empty, decide_eq_false (by omega)]
  by_cases hm : bat s 0 = 45
  · have hN : TxNeg s = true := decide_eq_true ⟨h0, hm⟩
    have hB : TxBody s = s.extract 1 s.size := by unfold TxBody; rw [hN]; rfl
    rcases Nat.eq_zero_or_pos (s.extract 1 s.size).size with h1 | h1
    · exact split_ne u s _ y rfl h0 (by rw [bat_eq h0]; exact hm) hA hE (by rw [tl_empty, decide_eq_true h1])
    have hE1 : (s.extract 1 s.size).toList.isEmpty = false := by rw [tl_empty, decide_eq_false (by omega)]
    by_cases hc : bat (s.extract 1 s.size) 0 = 48
    · exact split_n0 u s _ y rfl h0 (by rw [bat_eq h0]; exact hm) hA hE h1 (by rw [bat_eq h1]; exact hc) hE1
    · refine (split_n u s _ (s.extract 1 s.size).size y hy (by rw [ext_size]; omega) rfl h0 (by rw [bat_eq h0]; exact hm) hA hE rfl h1 (by rw [bat_eq h1]; exact hc) hE1).mono ?_
      rintro e u' (⟨g, cs, _, _, hcl, _, _, hS, _⟩ | ⟨he, _, hb⟩)
      · exact absurd (.inr (by rw [hB]; exact ⟨h1, hc, fun t ht => (hS t ht).2⟩)) h
      · exact ⟨he, hb⟩
  · have hN : TxNeg s = false := decide_eq_false fun k => hm k.2
    have hB : TxBody s = s := by unfold TxBody; rw [hN]; rfl
    by_cases hc : bat s 0 = 48
    · exact split_0 u s y h0 (by rw [bat_eq h0]; exact hc) hA hE
    · refine (split_c u s s.size y hy hl rfl h0 (by rw [bat_eq h0]; exact hm) (by rw [bat_eq h0]; exact hc) hA hE).mono ?_
      rintro e u' (⟨g, cs, _, _, hcl, _, _, hS, _⟩ | ⟨he, _, hb⟩)
      · exact absurd (.inr (by rw [hB]; exact ⟨h0, hc, fun t ht => (hS t ht).2⟩)) h
      · exact ⟨he, hb⟩
theorem split_good (s : ByteArray) (y : Nat) (hy : 2 ≤ y ∧ y ≤ 36) (hl : s.size ≤ 4097) (h : TxOk s y) (u : World) :
    0 < (TxBody s).size ∧ Calls Tryz.prog 144 #[.string s, .int .i64 (y : Int)] u (SpGood s (TxBody s) (TxBody s).size y (TxNeg s) u) := by
  by_cases hz : s.size = 1 ∧ bat s 0 = 48
  · have hA : (s.toList == [48]) = true := by rw [tl_zero]; exact decide_eq_true hz
    have hN : TxNeg s = false := decide_eq_false fun k => by have := hz.2; omega
    have hB : TxBody s = s := by unfold TxBody; rw [hN]; rfl
    rw [hB, hN, hz.1]
    refine ⟨by omega, (split_z u s y hA).mono ?_⟩
    rintro e u' ⟨rfl, hR, hb⟩
    refine ⟨u.heap.size, [0], rfl, hR, rfl, (by intro x hx; simp at hx; omega), Nat.le_refl _, fun t ht => ?_, hb⟩
    obtain rfl : t = 0 := by omega
    rw [hz.2]
    exact ⟨rfl, by show 0 < y; omega⟩
  · have hA : (s.toList == [48]) = false := by rw [tl_zero]; exact decide_eq_false hz
    obtain ⟨h1, hc, hd⟩ := h.elim (fun k => absurd k hz) id
    refine ⟨h1, ?_⟩
    by_cases hm : 0 < s.size ∧ bat s 0 = 45
    · have hN : TxNeg s = true := decide_eq_true hm
      have hB : TxBody s = s.extract 1 s.size := by unfold TxBody; rw [hN]; rfl
      rw [hB] at h1 hc hd ⊢
      rw [hN]
      have hE : s.toList.isEmpty = false := by rw [tl_empty, decide_eq_false (by omega)]
      have hE1 : (s.extract 1 s.size).toList.isEmpty = false := by rw [tl_empty, decide_eq_false (by omega)]
      refine (split_n u s _ (s.extract 1 s.size).size y hy (by rw [ext_size]; omega) rfl hm.1 (by rw [bat_eq hm.1]; exact hm.2) hA hE rfl h1 (by rw [bat_eq h1]; exact hc) hE1).mono ?_
      rintro e u' (hg | ⟨_, ⟨t, ht, hb⟩, _⟩)
      · exact hg
      · exact absurd (hd t ht) (by omega)
    · have hN : TxNeg s = false := decide_eq_false hm
      have hB : TxBody s = s := by unfold TxBody; rw [hN]; rfl
      rw [hB] at h1 hc hd ⊢
      rw [hN]
      have hE : s.toList.isEmpty = false := by rw [tl_empty, decide_eq_false (by omega)]
      refine (split_c u s s.size y hy hl rfl h1 (by rw [bat_eq h1]; exact fun k => hm ⟨h1, k⟩) (by rw [bat_eq h1]; exact hc) hA hE).mono ?_
      rintro e u' (hg | ⟨_, ⟨t, ht, hb⟩, _⟩)
      · exact hg
      · exact absurd (hd t ht) (by omega)
theorem iparse_syntax (w : World) (s : ByteArray) (y : Nat) (hy : 2 ≤ y ∧ y ≤ 36) (hl : s.size ≤ 4097) (h : ¬ TxOk s y) :
    Calls Tryz.prog 128 #[.string s, .int .i64 (y : Int)] w (GivesVF w 0 1 (-1)) :=
  iparse_none w s y hy hl fun u => split_bad s y hy hl h u
theorem iparse_ok (w : World) (s : ByteArray) (y : Nat) (hy : 2 ≤ y ∧ y ≤ 36) (hl : s.size ≤ 4097) (h : TxOk s y) :
    Calls Tryz.prog 128 #[.string s, .int .i64 (y : Int)] w (GivesVL w (TxVal s y)) :=
  iparse_some w s y (TxBody s).size (TxBody s) (TxNeg s) hy hl (split_good s y hy hl h w).1 (by unfold TxBody; split <;> (try rw [ext_size]) <;> omega) fun u => (split_good s y hy hl h u).2
end Go.Proofs.YtflmcgoijofpdaaGreat
