/- strings.Cut at a slash, strings.HasPrefix of a minus sign. -/
import Derived.Test.YtflmcgoijofpdaaGreatCTxt8
import Derived.Test.YtflmcgoijofpdaaGreatCMk2
import Derived.Lib.Walk
import Derived.Lib.Bytealg
import Derived.Lib.IndexLaws
namespace Go.Proofs.YtflmcgoijofpdaaGreat
open Go.RowKit
set_option maxHeartbeats 400000
set_option maxRecDepth 100000
set_option linter.unusedSimpArgs false
set_option linter.unusedVariables false

/-- The first slash. -/
def SlAt (s : ByteArray) (i : Nat) : Prop := i < s.size ∧ bat s i = 47 ∧ ∀ t, t < i → bat s t ≠ 47
def SlNo (s : ByteArray) : Prop := ∀ t, t < s.size → bat s t ≠ 47
theorem sl_upto (s : ByteArray) : ∀ n, n ≤ s.size → (∀ t, t < n → bat s t ≠ 47) ∨ ∃ i, i < n ∧ SlAt s i
  | 0, _ => .inl fun t h => absurd h (by omega)
  | n + 1, hn => by
    rcases sl_upto s n (by omega) with h | ⟨i, hi, h⟩
    · by_cases hb : bat s n = 47
      · exact .inr ⟨n, by omega, by omega, hb, h⟩
      · refine .inl fun t ht => ?_
        rcases Nat.lt_or_ge t n with e | e
        · exact h t e
        · obtain rfl : t = n := by omega
          exact hb
    · exact .inr ⟨i, by omega, h⟩
theorem sl_cases (s : ByteArray) : SlNo s ∨ ∃ i, SlAt s i := by
  rcases sl_upto s s.size (Nat.le_refl _) with h | ⟨i, _, h⟩
  · exact .inl h
  · exact .inr ⟨i, h⟩
theorem bat_get {s : ByteArray} {t : Nat} (h : t < s.size) : s.data.toList[t]? = some (s.data.getD t 0) := by
  have h' : t < s.data.size := h
  rw [Array.getElem?_toList, Array.getElem?_eq_getElem h']
  simp [Array.getD, h']
  first | done | (intro hc; exact absurd hc (by omega))
theorem bat_u8 {s : ByteArray} {t : Nat} : s.data.getD t 0 = 47 ↔ bat s t = 47 := by
  unfold bat
  exact ⟨fun h => by rw [h]; rfl, fun h => UInt8.toNat_inj.1 (by rw [h]; rfl)⟩
theorem ib_no {s : ByteArray} (h : SlNo s) : Lib.indexByte s.data.toList 47 = -1 := by
  have h1 := Lib.indexByte_ge s.data.toList 47
  rcases (show Lib.indexByte s.data.toList 47 < 0 ∨ 0 ≤ Lib.indexByte s.data.toList 47 by omega) with e | e
  · omega
  · exfalso
    obtain ⟨o, ho⟩ := Int.eq_ofNat_of_zero_le e
    have h2 := (Lib.indexByte_some ho).1
    rcases Nat.lt_or_ge o s.size with k | k
    · rw [bat_get k] at h2
      exact h o k (bat_u8.1 (by injection h2))
    · rw [List.getElem?_eq_none (by simpa using k)] at h2
      cases h2
theorem ib_at {s : ByteArray} {i : Nat} (h : SlAt s i) : Lib.indexByte s.data.toList 47 = (i : Int) := by
  obtain ⟨h0, h1, h2⟩ := h
  have g1 := Lib.indexByte_ge s.data.toList 47
  rcases (show Lib.indexByte s.data.toList 47 < 0 ∨ 0 ≤ Lib.indexByte s.data.toList 47 by omega) with e | e
  · exfalso
    exact Lib.indexByte_none (show Lib.indexByte s.data.toList 47 = -1 by omega) i (by rw [bat_get h0, bat_u8.2 h1])
  · obtain ⟨o, ho⟩ := Int.eq_ofNat_of_zero_le e
    have k := Lib.indexByte_some ho
    have k1 : o < s.size := by
      rcases Nat.lt_or_ge o s.size with k | k2
      · exact k
      · have := k.1
        rw [List.getElem?_eq_none (by simpa using k2)] at this
        cases this
    have k3 : bat s o = 47 := by have := k.1; rw [bat_get k1] at this; exact bat_u8.1 (by injection this)
    rcases Nat.lt_trichotomy o i with e1 | e1 | e1
    · exact absurd k3 (h2 o e1)
    · rw [ho, e1]
    · exact absurd (by rw [bat_get h0, bat_u8.2 h1]) (k.2 i e1)
theorem ret47 (s : ByteArray) : Ending.returned (.int .i64 (Lib.indexByte s.data.toList (47 : Int).toNat.toUInt8)) = Ending.returned (.int .i64 (Lib.indexByte s.data.toList 47)) := by
  rw [show (47 : Int).toNat.toUInt8 = 47 from by decide]
theorem slb_any (s : ByteArray) (w : World) :
    Calls Tryz.prog 159 #[.string s, .int .u8 47] w fun e w' => e = .returned (.int .i64 (Lib.indexByte s.data.toList 47)) ∧ w' = w := by
  go_enter Tryz.func159, Tryz.ntmps159
  go_wp2
  rw [run_callFunc_extern Tryz.func163 (by kernel_rfl) (by kernel_rfl) (by kernel_rfl) (e := Extern.BytealgIndexByte.indexByte) (by kernel_rfl), Lib.run_indexByteString]
  simp only [Result.andThen]
  rw [Oper.upon_value]
  go_wp2
  go_ret
  exact ⟨ret47 s, rfl⟩
theorem sli_any (s : ByteArray) (w : World) :
    Calls Tryz.prog 155 #[.string s, .string ⟨#[47]⟩] w fun e w' => e = .returned (.int .i64 (Lib.indexByte s.data.toList 47)) ∧ w' = w := by
  by_cases hE : ([47] == s.toList) = true
  · have h1 : s.data.toList = [47] := by
      have h2 : s.toList = [47] := (eq_of_beq hE).symm
      rw [← Lib.toList_data]; exact h2
    have h3 := Lib.hid (show Lib.indexByte s.data.toList 47 = 0 by rw [h1]; rfl)
    clear h1
    go_enter Tryz.func155, Tryz.ntmps155
    go_wp2_with (go_at_call 159; refine (slb_any _ _).mono ?_; rintro e w' ⟨rfl, rfl⟩)
    go_ret
    exact ⟨by rw [h3.out]; rfl, rfl⟩
  · have hE' : ([47] == s.toList) = false := by simpa using hE
    clear hE
    go_enter Tryz.func155, Tryz.ntmps155
    go_wp2_with (go_at_call 159; refine (slb_any _ _).mono ?_; rintro e w' ⟨rfl, rfl⟩)
    go_ret
    exact ⟨rfl, rfl⟩
theorem slc_no (s : ByteArray) (w : World) (h : SlNo s) :
    Calls Tryz.prog 143 #[.string s, .string ⟨#[47]⟩] w fun e w' => e = .returned (.tuple #[.string s, .string ⟨#[]⟩, .bool false]) ∧ Below w.heap.size w w' := by
  have hi := ib_no h
  go_enter Tryz.func143, Tryz.ntmps143
  go_wp2_with (go_at_call 155; refine (sli_any _ _).mono ?_; rintro e w' ⟨rfl, rfl⟩; rw [hi])
  go_ret3
  exact ⟨rfl, Below.refl _ _⟩
theorem slc_at (s : ByteArray) (w : World) (i : Nat) (h : SlAt s i) (hs : s.size ≤ 9223372036854775800) :
    Calls Tryz.prog 143 #[.string s, .string ⟨#[47]⟩] w fun e w' => e = .returned (.tuple #[.string (s.extract 0 i), .string (s.extract (i + 1) s.size), .bool true]) ∧ Below w.heap.size w w' := by
  have hi := Lib.hid (ib_at h)
  have h0 := h.1
  clear h
  have c1 : (0 : Int) ≤ (i : Int) := by omega
  have c2 : (i : Int) ≤ (s.size : Int) := by omega
  have c3 : (0 : Int) ≤ (i : Int) + 1 := by omega
  have c4 : (i : Int) + 1 ≤ (s.size : Int) := by omega
  have c5 : ((i : Int) + 1).toNat = i + 1 := by omega
  have c6 : IntKind.i64.wrap ((i : Int) + 1) = (i : Int) + 1 := IntWalk.i64_in _ (by omega)
  go_enter Tryz.func143, Tryz.ntmps143
  go_wp2_with (go_at_call 155; refine (sli_any _ _).mono ?_; rintro e w' ⟨rfl, rfl⟩; rw [hi.out])
  go_region
  go_wp2
  go_ret3
  exact ⟨rfl, by (repeat (first | exact Below.refl _ _ | refine below_drewN ?_ _ | refine Below.drew ?_))⟩
theorem cut_no (s : ByteArray) (w : World) (h : SlNo s) :
    Calls Tryz.prog 127 #[.string s, .string ⟨#[47]⟩] w fun e w' => e = .returned (.tuple #[.string s, .string ⟨#[]⟩, .bool false]) ∧ Below w.heap.size w w' := by
  go_enter Tryz.func127, Tryz.ntmps127
  go_wp2_with (go_at_call 143; refine (slc_no _ _ h).mono ?_; rintro e w' ⟨rfl, hb⟩)
  go_ret3
  exact ⟨rfl, hb⟩
theorem cut_at (s : ByteArray) (w : World) (i : Nat) (h : SlAt s i) (hs : s.size ≤ 9223372036854775800) :
    Calls Tryz.prog 127 #[.string s, .string ⟨#[47]⟩] w fun e w' => e = .returned (.tuple #[.string (s.extract 0 i), .string (s.extract (i + 1) s.size), .bool true]) ∧ Below w.heap.size w w' := by
  go_enter Tryz.func127, Tryz.ntmps127
  go_wp2_with (go_at_call 143; refine (slc_at _ _ i h hs).mono ?_; rintro e w' ⟨rfl, hb⟩)
  go_ret3
  exact ⟨rfl, hb⟩
theorem hp_eq (s : ByteArray) (h : 0 < s.size) : ((s.extract 0 1).toList == [45]) = decide (bat s 0 = 45) := by
  have h1 := bat_get h
  rw [Lib.extract_toList]
  cases hl : s.data.toList with
  | nil =>
    rw [hl] at h1
    cases h1
  | cons b l =>
    rw [hl] at h1
    have h2 : b = s.data.getD 0 0 := by injection h1
    have h3 : bat s 0 = b.toNat := by rw [h2]; rfl
    rw [h3]
    by_cases hb : b = 45
    · rw [hb]; rfl
    · rw [decide_eq_false (fun k => hb (UInt8.toNat_inj.1 (by rw [k]; rfl)))]
      simp [hb]
theorem shp_any (s : ByteArray) (w : World) :
    Calls Tryz.prog 158 #[.string s, .string ⟨#[45]⟩] w fun e w' => e = .returned (.bool (TxNeg s)) ∧ w' = w := by
  by_cases h : 0 < s.size
  · have h1 := Lib.hid (hp_eq s h)
    have hd : decide ((1 : Int) ≤ (s.size : Int)) = true := decide_eq_true (by omega)
    have c2 : (1 : Int) ≤ (s.size : Int) := by omega
    go_enter Tryz.func158, Tryz.ntmps158
    go_wp2
    all_goals go_ret
    all_goals refine ⟨?_, rfl⟩
    all_goals
      unfold TxNeg
      rw [show decide (0 < s.size ∧ bat s 0 = 45) = decide (bat s 0 = 45) from by simp [h], ← h1.out]
      rfl
  · have hd : decide ((1 : Int) ≤ (s.size : Int)) = false := decide_eq_false (by omega)
    go_enter Tryz.func158, Tryz.ntmps158
    go_wp2
    go_ret
    refine ⟨?_, rfl⟩
    unfold TxNeg
    rw [decide_eq_false (fun k => h k.1)]
    rfl
theorem hp_any (s : ByteArray) (w : World) :
    Calls Tryz.prog 146 #[.string s, .string ⟨#[45]⟩] w fun e w' => e = .returned (.bool (TxNeg s)) ∧ w = w' := by
  go_enter Tryz.func146, Tryz.ntmps146
  go_wp2_with (go_at_call 158; refine (shp_any _ _).mono ?_; rintro e w' ⟨rfl, rfl⟩)
  go_ret
  exact ⟨rfl, rfl⟩
end Go.Proofs.YtflmcgoijofpdaaGreat
