/- The program's digitValue and split. -/
import Derived.Test.YtflmcgoijofpdaaGreatCk
import Derived.Test.YtflmcgoijofpdaaGreatCc
import Derived.Test.YtflmcgoijofpdaaGreatCHand
namespace Go.Proofs.YtflmcgoijofpdaaGreat
open Go.RowKit
set_option maxHeartbeats 400000
set_option maxRecDepth 100000
set_option linter.unusedSimpArgs false
set_option linter.unusedVariables false

def dval (b : Nat) : Nat := if 48 ≤ b ∧ b ≤ 57 then b - 48 else if 97 ≤ b ∧ b ≤ 122 then b - 87 else 36
theorem dval_le (b : Nat) : dval b ≤ 36 := by unfold dval; split <;> (try split) <;> omega
theorem digitValue_any (w : World) (b : Nat) (hb : b < 256) :
    Calls Tryz.prog 156 #[.int .u8 (b : Int)] w (fun e w' => e = .returned (.int .i64 (dval b : Int)) ∧ w = w') := by
  go_enter Tryz.func156, Tryz.ntmps156
  by_cases h1 : 48 ≤ b ∧ b ≤ 57
  · have e : ((dval b : Nat) : Int) = (b : Int) - 48 := by unfold dval; rw [if_pos h1]; omega
    obtain ⟨h2, h3⟩ := h1
    rw [e]
    clear e
    have h4 : (48 : Int) ≤ (b : Int) := by omega
    have h5 : (b : Int) ≤ 57 := by omega
    go_wp2_with fail
    go_ret
    exact ⟨by first | rfl | (congr 3; omega) | (simp; omega), rfl⟩
  · by_cases h6 : 97 ≤ b ∧ b ≤ 122
    · have e : ((dval b : Nat) : Int) = (b : Int) - 97 + 10 := by unfold dval; rw [if_neg h1, if_pos h6]; omega
      obtain ⟨h2, h3⟩ := h6
      rw [e]
      clear e h1
      have h4 : (97 : Int) ≤ (b : Int) := by omega
      have h5 : (b : Int) ≤ 122 := by omega
      go_wp2_with fail
      go_ret
      exact ⟨by first | rfl | (congr 3; omega) | (simp; omega), rfl⟩
    · have e : ((dval b : Nat) : Int) = 36 := by unfold dval; rw [if_neg h1, if_neg h6]; rfl
      rw [e]
      clear e
      rcases (show b < 48 ∨ 57 < b by omega) with h2 | h2
      · have h4 : (b : Int) < 48 := by omega
        go_wp2_with fail
        go_ret
        exact ⟨rfl, rfl⟩
      · have h4 : 57 < (b : Int) := by omega
        rcases (show b < 97 ∨ 122 < b by omega) with h3 | h3
        · have h5 : (b : Int) < 97 := by omega
          go_wp2_with fail
          go_ret
          exact ⟨rfl, rfl⟩
        · have h5 : 122 < (b : Int) := by omega
          go_wp2_with fail
          go_ret
          exact ⟨rfl, rfl⟩
theorem mkI (n : Nat) (hn : n ≤ 17592186044416) (w : World) :
    (Instr.makeSlice 37 (.int .i64 (n : Int)) (.int .i64 (n : Int))).run Tryz.prog w = .ok (.slice (some ⟨w.heap.size, 0, none⟩) n n) (w.alloc (.cells (List.replicate n (Value.int .i64 0)).toArray 3)) := by
  obtain ⟨i, hi, hz, hs, hb⟩ := info_parts info64
  have hr := run_make (P := Tryz.prog) w 37 3 i (.int .i64 0) Tryz.underlying37 hi hz .i64 .i64 (n : Int) (n : Int) (by omega) (by omega) (by rw [hb]; omega) (by omega)
  rw [hr, hs]
  simp only [Int.toNat_natCast, Nat.mul_one]
  congr 3
  have := toList_madeCells_one (Value.int .i64 0) n
  rw [← this]
  simp [Value.cells]
def bat (s : ByteArray) (i : Nat) : Nat := (s.data.getD i 0).toNat
theorem bat_eq {s : ByteArray} {i : Nat} (h : i < s.size) : (s[i]'h).toNat = bat s i := by
  unfold bat
  have h2 : i < s.data.size := h
  rw [Array.getD_eq_getD_getElem?, Array.getElem?_eq_getElem h2]
  rfl
theorem bat_lt (s : ByteArray) (i : Nat) : bat s i < 256 := UInt8.toNat_lt _
def SpIs (s : ByteArray) (y j : Nat) (cs : List Nat) : Prop := ∀ t, t < j → cs.getD t 0 = dval (bat s t) ∧ dval (bat s t) < y
def SpRel (s : ByteArray) (y n g : Nat) (W : World) (i8 i : Value) (wr : World) : Prop :=
  ∃ j cs, j ≤ n ∧ i = .int .i64 ((j : Nat) : Int) ∧ R64 wr g cs ∧ cs.length = n ∧ Dig 65536 cs ∧ Below g W wr ∧ Hid (SpIs s y j cs)
theorem sp_step {s : ByteArray} {y j n : Nat} {cs : List Nat} (hl : cs.length = n) (hj : j < n) (h : SpIs s y j cs) (hy : dval (bat s j) < y) : SpIs s y (j + 1) (cs.set j (dval (bat s j))) := by
  intro t ht
  rw [getD_set _ _ _ _ (by omega)]
  by_cases e : j = t
  · subst e; rw [if_pos rfl]; exact ⟨rfl, hy⟩
  · rw [if_neg e]; exact h t (by omega)
/-- What split gives: the digits, each less than the base, or none. -/
def SpPost (s : ByteArray) (n y : Nat) (neg : Bool) (w : World) (e : Ending) (w' : World) : Prop :=
  (∃ g cs, e = .returned (.tuple #[.bool neg, .slice (some ⟨g, 0, none⟩) n n]) ∧ R64 w' g cs ∧ cs.length = n ∧ Dig 65536 cs ∧ w.heap.size ≤ g ∧ SpIs s y n cs ∧ Below w.heap.size w w') ∨
  (e = .returned (.tuple #[.bool false, .slice none 0 0]) ∧ (∃ t, t < n ∧ y ≤ dval (bat s t)) ∧ Below w.heap.size w w')
def SpNone (w : World) (e : Ending) (w' : World) : Prop := e = .returned (.tuple #[.bool false, .slice none 0 0]) ∧ Below w.heap.size w w'
set_option maxHeartbeats 2000000 in
theorem split_c (w : World) (s : ByteArray) (n : Nat) (y : Nat) (hy : 2 ≤ y ∧ y ≤ 36) (hl : n ≤ 4097) (hn : s.size = n) (h0 : 0 < s.size) (hb : s[0].toNat ≠ 45) (hc : s[0].toNat ≠ 48) (hA : (s.toList == [48]) = false) (hE : s.toList.isEmpty = false) :
    Calls Tryz.prog 144 #[.string s, .int .i64 (y : Int)] w (SpPost s n y false w) := by
  have hr0 := R64.new w n
  have hmk := mkI n (by omega)
  have hb2 : ((s[0].toNat : Int) == 45) = false := by simp; omega
  have hc2 : ((s[0].toNat : Int) == 48) = false := by simp; omega
  go_enter Tryz.func144, Tryz.ntmps144
  go_wp2_with fail
  go_loopw [8, 34] (SpRel s y n w.heap.size w) (fun _ i _ => n - (intOf i).toNat)
  case atStart => exact ⟨0, List.replicate n 0, by omega, rfl, hr0, by simp, Dig.zeros n, (bl1 w _), fun t ht => absurd ht (Nat.not_lt_zero t)⟩
  case round =>
    clear hr0 hmk hb2 hc2
    obtain ⟨j, cs, hj, rfl, hR, hcl, hD, hbw, HI⟩ := hrel
    have hsz := hbw.size
    by_cases h1 : j < n
    · have hjs : j < s.size := by omega
      have hfz := hR.frozen j
      have hce := hR.cell (j := j) (by omega)
      go_wp2_with fail
      refine (digitValue_any _ _ (UInt8.toNat_lt _)).mono ?_
      rintro e w2 ⟨rfl, rfl⟩
      rw [bat_eq hjs]
      obtain ⟨d, hd⟩ : ∃ d, d = dval (bat s j) := ⟨_, rfl⟩
      have HD := Lib.hid hd
      have hd36 : d ≤ 36 := by rw [hd]; exact dval_le _
      rw [← hd]
      clear hd
      have hce2 : (wr.setCell ⟨w.heap.size, j, none⟩ (.int .i64 (d : Int))).cell? ⟨w.heap.size, j, none⟩ = some (.int .i64 (d : Int)) := by
        have := (hR.put j (v := (d : Int)) (by omega)).cell (j := j) (by rw [List.length_set]; omega)
        rw [this]
        unfold nth
        rw [getD_set _ _ _ _ (by omega), if_pos rfl]
        rfl
      by_cases h2 : d < y
      · have h3 : (d : Int) < (y : Int) := by omega
        go_wp2_with fail
        go_roundw
        case rel => exact ⟨j + 1, cs.set j d, by omega, by go_num, (by have := hR.put j (v := (d : Int)) (by omega); exact this), by rw [List.length_set]; exact hcl, hD.set (by omega), hbw.setCell (Nat.le_refl _) _, Lib.hid (by have := sp_step hcl h1 HI.out (by rw [← HD.out]; exact h2); rw [← HD.out] at this; exact this)⟩
        case measure => first | (simp [intOf]; done) | (simp [intOf]; omega)
      · have h3 : (y : Int) ≤ (d : Int) := by omega
        go_wp2_with fail
        go_ret2
        exact .inr ⟨rfl, ⟨j, h1, by rw [← HD.out]; omega⟩, hbw.setCell (Nat.le_refl _) _⟩
    · obtain rfl : j = n := by omega
      go_wp2_with fail
      go_ret2
      exact .inl ⟨w.heap.size, cs, rfl, hR, hcl, hD, Nat.le_refl _, HI.out, hbw⟩
set_option maxHeartbeats 2000000 in
theorem split_n (w : World) (s0 s : ByteArray) (n : Nat) (y : Nat) (hy : 2 ≤ y ∧ y ≤ 36) (hl : n ≤ 4097) (hs : s = s0.extract 1 s0.size) (hz0 : 0 < s0.size) (hm : s0[0].toNat = 45) (hA : (s0.toList == [48]) = false) (hF : s0.toList.isEmpty = false) (hn : s.size = n) (h0 : 0 < s.size) (hc : s[0].toNat ≠ 48) (hE : s.toList.isEmpty = false) :
    Calls Tryz.prog 144 #[.string s0, .int .i64 (y : Int)] w (SpPost s n y true w) := by
  have hr0 := R64.new w n
  have hmk := mkI n (by omega)
  subst hs
  have hn2 : s0.size - 1 = n := by have := hn; simpa using this
  have hb2 : ((s0[0].toNat : Int) == 45) = true := by simp; omega
  have hc2 : (((s0.extract 1 s0.size)[0].toNat : Int) == 48) = false := by simp; omega
  go_enter Tryz.func144, Tryz.ntmps144
  go_wp2_with fail
  go_loopw [8, 34] (SpRel (s0.extract 1 s0.size) y n w.heap.size w) (fun _ i _ => n - (intOf i).toNat)
  case atStart => exact ⟨0, List.replicate n 0, by omega, rfl, hr0, by simp, Dig.zeros n, (bl1 w _), fun t ht => absurd ht (Nat.not_lt_zero t)⟩
  case round =>
    clear hr0 hmk hb2 hc2
    obtain ⟨j, cs, hj, rfl, hR, hcl, hD, hbw, HI⟩ := hrel
    have hsz := hbw.size
    by_cases h1 : j < n
    · have hjs : j < (s0.extract 1 s0.size).size := by omega
      have hfz := hR.frozen j
      have hce := hR.cell (j := j) (by omega)
      go_wp2_with fail
      refine (digitValue_any _ _ (UInt8.toNat_lt _)).mono ?_
      rintro e w2 ⟨rfl, rfl⟩
      rw [bat_eq hjs]
      obtain ⟨d, hd⟩ : ∃ d, d = dval (bat (s0.extract 1 s0.size) j) := ⟨_, rfl⟩
      have HD := Lib.hid hd
      have hd36 : d ≤ 36 := by rw [hd]; exact dval_le _
      rw [← hd]
      clear hd
      have hce2 : (wr.setCell ⟨w.heap.size, j, none⟩ (.int .i64 (d : Int))).cell? ⟨w.heap.size, j, none⟩ = some (.int .i64 (d : Int)) := by
        have := (hR.put j (v := (d : Int)) (by omega)).cell (j := j) (by rw [List.length_set]; omega)
        rw [this]
        unfold nth
        rw [getD_set _ _ _ _ (by omega), if_pos rfl]
        rfl
      by_cases h2 : d < y
      · have h3 : (d : Int) < (y : Int) := by omega
        go_wp2_with fail
        go_roundw
        case rel => exact ⟨j + 1, cs.set j d, by omega, by go_num, (by have := hR.put j (v := (d : Int)) (by omega); exact this), by rw [List.length_set]; exact hcl, hD.set (by omega), hbw.setCell (Nat.le_refl _) _, Lib.hid (by have := sp_step hcl h1 HI.out (by rw [← HD.out]; exact h2); rw [← HD.out] at this; exact this)⟩
        case measure => first | (simp [intOf]; done) | (simp [intOf]; omega)
      · have h3 : (y : Int) ≤ (d : Int) := by omega
        go_wp2_with fail
        go_ret2
        exact .inr ⟨rfl, ⟨j, h1, by rw [← HD.out]; omega⟩, hbw.setCell (Nat.le_refl _) _⟩
    · obtain rfl : j = n := by omega
      go_wp2_with fail
      go_ret2
      exact .inl ⟨w.heap.size, cs, rfl, hR, hcl, hD, Nat.le_refl _, HI.out, hbw⟩
theorem split_e (w : World) (s : ByteArray) (y : Int) (hA : (s.toList == [48]) = false) (hE : s.toList.isEmpty = true) :
    Calls Tryz.prog 144 #[.string s, .int .i64 y] w (SpNone w) := by
  go_enter Tryz.func144, Tryz.ntmps144
  go_wp2_with fail
  go_ret2
  exact ⟨rfl, Below.refl _ _⟩
theorem split_0 (w : World) (s : ByteArray) (y : Int) (h0 : 0 < s.size) (hc : s[0].toNat = 48) (hA : (s.toList == [48]) = false) (hE : s.toList.isEmpty = false) :
    Calls Tryz.prog 144 #[.string s, .int .i64 y] w (SpNone w) := by
  have hb2 : ((s[0].toNat : Int) == 45) = false := by simp; omega
  have hc2 : ((s[0].toNat : Int) == 48) = true := by simp; omega
  go_enter Tryz.func144, Tryz.ntmps144
  go_wp2_with fail
  go_ret2
  exact ⟨rfl, Below.refl _ _⟩
theorem split_ne (w : World) (s0 s : ByteArray) (y : Int) (hs : s = s0.extract 1 s0.size) (hz0 : 0 < s0.size) (hm : s0[0].toNat = 45) (hA : (s0.toList == [48]) = false) (hF : s0.toList.isEmpty = false) (hE : s.toList.isEmpty = true) :
    Calls Tryz.prog 144 #[.string s0, .int .i64 y] w (SpNone w) := by
  subst hs
  have hb2 : ((s0[0].toNat : Int) == 45) = true := by simp; omega
  go_enter Tryz.func144, Tryz.ntmps144
  go_wp2_with fail
  go_ret2
  exact ⟨rfl, Below.refl _ _⟩
theorem split_n0 (w : World) (s0 s : ByteArray) (y : Int) (hs : s = s0.extract 1 s0.size) (hz0 : 0 < s0.size) (hm : s0[0].toNat = 45) (hA : (s0.toList == [48]) = false) (hF : s0.toList.isEmpty = false) (h0 : 0 < s.size) (hc : s[0].toNat = 48) (hE : s.toList.isEmpty = false) :
    Calls Tryz.prog 144 #[.string s0, .int .i64 y] w (SpNone w) := by
  subst hs
  have h09 : 0 < s0.size - 1 := by have := h0; simpa using this
  have hb2 : ((s0[0].toNat : Int) == 45) = true := by simp; omega
  have hc2 : (((s0.extract 1 s0.size)[0].toNat : Int) == 48) = true := by simp; omega
  go_enter Tryz.func144, Tryz.ntmps144
  go_wp2_with fail
  go_ret2
  exact ⟨rfl, Below.refl _ _⟩
theorem split_z (w : World) (s : ByteArray) (y : Int) (hA : (s.toList == [48]) = true) :
    Calls Tryz.prog 144 #[.string s, .int .i64 y] w (fun e w' => e = .returned (.tuple #[.bool false, .slice (some ⟨w.heap.size, 0, none⟩) 1 1]) ∧ R64 w' w.heap.size [0] ∧ Below w.heap.size w w') := by
  go_enter Tryz.func144, Tryz.ntmps144
  go_wp2_with fail
  go_ret2
  exact ⟨rfl, R64.new w 1, bl1 _ _⟩
end Go.Proofs.YtflmcgoijofpdaaGreat
