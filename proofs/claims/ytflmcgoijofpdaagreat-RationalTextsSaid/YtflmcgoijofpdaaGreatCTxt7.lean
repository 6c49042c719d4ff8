/- The reference's TextOf: the text of an integer. -/
import Derived.Test.YtflmcgoijofpdaaGreatCu
import Derived.Test.YtflmcgoijofpdaaGreatCe
import Derived.Test.YtflmcgoijofpdaaGreatCi
import Derived.Test.YtflmcgoijofpdaaGreatCl
namespace Go.Proofs.YtflmcgoijofpdaaGreat
open Go.RowKit
set_option maxHeartbeats 400000
set_option maxRecDepth 100000
set_option linter.unusedSimpArgs false
set_option linter.unusedVariables false

def GivesTO (w : World) (z : Int) (y : Nat) (e : Ending) (w' : World) : Prop := ∃ l, TextIs z y l ∧ e = .returned (.string ⟨l.toArray⟩) ∧ Below w.heap.size w w'
def ToRel (n b : Nat) (pre : List UInt8) (zs : List Nat) (W : World) (v i : Value) (wr : World) : Prop :=
  ∃ (j : Nat) (l : List UInt8), j ≤ n ∧ i = .int .i64 (j : Int) ∧ MRow wr b v l.length (bys l) ∧ Hid (l = pre ++ (zs.take j).map sym) ∧ l.length ≤ 1 + j ∧ Below b W wr
theorem bys_snoc (l : List UInt8) (c : UInt8) : bys l ++ [.int .u8 (c.toNat : Int)] = bys (l ++ [c]) := by simp [bys]
set_option maxHeartbeats 2000000 in
theorem textOf_zero (w : World) (B : Nat) (m : Bool) (A : Option Addr) (n c y : Nat) (xs : List Nat) (H : DRd w B A n c xs) (hB : B ≤ w.heap.size) (hn : n ≤ 100000) (hx : Rep 65536 xs 0) (hy : 2 ≤ y ∧ y ≤ 36) :
    Calls Tryz.prog 53 #[intv m A n c, .int .i64 (y : Int)] w (GivesTO w 0 y) := by
  have HX := Lib.hid hx
  clear hx
  have E : Below w.heap.size w w := Below.refl _ _
  go_enter Tryz.func53, Tryz.ntmps53
  go_wp2_with fail
  obtain ⟨V0, hV0⟩ : ∃ V0 : World, V0 = (w.alloc (.cells #[.bool m, .slice A n c] 40)) := ⟨_, rfl⟩
  have bV0 : Below w.heap.size w V0 := by rw [hV0]; (repeat (first | with_reducible exact Below.refl _ _ | with_reducible refine Below.drew ?_ | with_reducible refine below_drewN ?_ _ | with_reducible refine Below.setCell ?_ (by first | (simp; done) | (simp; omega) | omega) _ | with_reducible refine Below.alloc ?_ (by first | (simp; done) | (simp; omega) | omega) _))
  have zV0 : w.heap.size + 1 ≤ V0.heap.size := by rw [hV0]; simp
  have PA : Bk2 V0 (w.heap.size) (.bool m) (.slice A n c) := by rw [hV0]; exact (Bk2.newAt _ _ (by simp) _ _ _)
  rw [← hV0]
  clear hV0
  replace E := E.trans (bV0.mono E.size)
  replace H := H.below bV0 (by omega)
  clear bV0
  (with_reducible refine (figures_any _ B A n c y 0 100000 xs H (by omega) hn (by omega) HX.out hy).mono ?_)
  rintro e w7 ⟨A7, k7, c7, z7, rfl, hd7, hr7, hb7⟩
  have sw7 := hb7.size
  replace E := E.trans (hb7.mono E.size)
  replace H := H.below hb7 (by omega)
  replace PA := PA.below hb7 PA.lt
  clear hb7
  have hz : z7 = [] := by have := hr7.zero_nil (by omega); simpa using this
  have hk0 : k7 = 0 := by rw [← hd7.len.out, hz]; rfl
  subst hk0
  go_wp2_with fail
  refine bodyPost_ret (v := .string ⟨#[48]⟩) (by simp [results, Tryz.results53, go_sem]) rfl ⟨[48], ⟨[], ⟨(by intro x hx; cases hx), rfl, Top.nil⟩, rfl⟩, rfl, E⟩
set_option maxHeartbeats 4000000 in
theorem textOf_pos (w : World) (B : Nat) (A : Option Addr) (n c y p : Nat) (xs : List Nat) (H : DRd w B A n c xs) (hB : B ≤ w.heap.size) (hn : n ≤ 100000) (hx : Rep 65536 xs p) (hy : 2 ≤ y ∧ y ≤ 36) (hp : 0 < p) (ht : p < Top128) :
    Calls Tryz.prog 53 #[intv false A n c, .int .i64 (y : Int)] w (GivesTO w (sval false p) y) := by
  obtain ⟨i0, hi, hz0, hz1, hz2⟩ := info_parts info8
  have HX := Lib.hid hx
  have HP := Lib.hid hp
  have HT := Lib.hid ht
  clear hx hp ht
  have E : Below w.heap.size w w := Below.refl _ _
  go_enter Tryz.func53, Tryz.ntmps53
  go_wp2_with fail
  obtain ⟨V0, hV0⟩ : ∃ V0 : World, V0 = (w.alloc (.cells #[.bool false, .slice A n c] 40)) := ⟨_, rfl⟩
  have bV0 : Below w.heap.size w V0 := by rw [hV0]; (repeat (first | with_reducible exact Below.refl _ _ | with_reducible refine Below.drew ?_ | with_reducible refine below_drewN ?_ _ | with_reducible refine Below.setCell ?_ (by first | (simp; done) | (simp; omega) | omega) _ | with_reducible refine Below.alloc ?_ (by first | (simp; done) | (simp; omega) | omega) _))
  have zV0 : w.heap.size + 1 ≤ V0.heap.size := by rw [hV0]; simp
  have PA : Bk2 V0 (w.heap.size) (.bool false) (.slice A n c) := by rw [hV0]; exact (Bk2.newAt _ _ (by simp) _ _ _)
  rw [← hV0]
  clear hV0
  replace E := E.trans (bV0.mono E.size)
  replace H := H.below bV0 (by omega)
  clear bV0
  (with_reducible refine (figures_any _ B A n c y p 100000 xs H (by omega) hn (by omega) HX.out hy).mono ?_)
  rintro e w7 ⟨A7, k7, c7, z7, rfl, hd7, hr7, hb7⟩
  have sw7 := hb7.size
  replace E := E.trans (hb7.mono E.size)
  replace H := H.below hb7 (by omega)
  replace PA := PA.below hb7 PA.lt
  clear hb7
  have HR := Lib.hid hr7
  have hzl := Lib.hid hd7.len.out
  have hkp : 0 < k7 := by
    rcases Nat.eq_zero_or_pos k7 with e | e
    · exfalso
      have h1 := hr7.val
      rw [List.eq_nil_of_length_eq_zero (hd7.len.out.trans e), List.reverse_nil, vb_nil] at h1
      have := HP.out
      omega
    · exact e
  have hk7 : k7 ≤ 4096 := by have := len4096 hy.1 hr7 HT.out; rw [List.length_reverse, hd7.len.out] at this; exact this
  have hf0 : ((k7 : Int) == 0) = false := beq_eq_false_iff_ne.2 (by omega)
  have HZ := Lib.hid (show ∀ j, nth z7 j < 36 from fun j => by
    have h1 : z7.getD j 0 < y := by
      rcases getD_mem_or z7 j with h | h
      · exact hr7.dig _ (List.mem_reverse.2 h)
      · omega
    unfold nth; omega)
  have hcv := run_bytes_of_string (P := Tryz.prog) w7 9 127 5 ⟨#[]⟩ Tryz.underlying9 Tryz.underlying127 Tryz.underlying5
  have M7 := MRow.conv w7 w7.heap.size ⟨#[]⟩ 5 (Nat.le_refl _) (by decide)
  generalize hcap : grownCap w7 (⟨#[]⟩ : ByteArray).size 0 5 = cap at hcv M7
  obtain ⟨W8, hW8⟩ : ∃ W8 : World, W8 = w7.drew.alloc (.cells (bytesRow ⟨#[]⟩ cap) 5 ((bytesRow ⟨#[]⟩ cap).size, (bytesRow ⟨#[]⟩ cap).size + 1)) := ⟨_, rfl⟩
  have b8 : Below w7.heap.size w7 W8 := by rw [hW8]; exact (Below.drew (Below.refl _ _)).alloc (by simp) _
  rw [← hW8] at hcv M7
  clear hr7 hcap hW8
  have t0 := PA.c0
  go_wp2_with fail
  clear t0 hcv
  have s8 := b8.size
  have D8 := hd7.below b8 (Nat.le_refl _)
  have E8 := E.trans (b8.mono E.size)
  clear hd7 b8 hf0
  go_loopw [7, 8] (ToRel k7 w7.heap.size [] z7 W8) (fun _ i _ => k7 - (intOf i).toNat)
  case atStart => exact ⟨0, [], by omega, rfl, M7, (by show _ = _; simp), by simp, Below.refl _ _⟩
  case round =>
    obtain ⟨u7', hu7, j, l, hj, rfl, hown, HLs, hll, hbw⟩ : ∃ u7', u7' = u7 ∧ ToRel k7 w7.heap.size [] z7 W8 u7' u8 wr := ⟨u7, rfl, hrel⟩
    subst hu7
    clear hrel
    have hsz : w7.heap.size ≤ wr.heap.size := by have := hbw.size; omega
    by_cases h1 : j < k7
    · obtain ⟨bb, off, rfl, hb, hc⟩ := D8.rd (by omega)
      have g1 := (hbw.cell (p := ⟨bb, off + j, none⟩) (by show bb < _; omega)).trans (hc j h1)
      have a1 := nth_nn z7 j
      have a2 := HZ.out j
      clear hc
      obtain ⟨c, hcc⟩ : ∃ c, c = sym (z7.getD j 0) := ⟨_, rfl⟩
      have hsy : ∀ h : (nth z7 j).toNat < (ByteArray.mk #[48, 49, 50, 51, 52, 53, 54, 55, 56, 57, 97, 98, 99, 100, 101, 102, 103, 104, 105, 106, 107, 108, 109, 110, 111, 112, 113, 114, 115, 116, 117, 118, 119, 120, 121, 122]).size, (ByteArray.mk #[48, 49, 50, 51, 52, 53, 54, 55, 56, 57, 97, 98, 99, 100, 101, 102, 103, 104, 105, 106, 107, 108, 109, 110, 111, 112, 113, 114, 115, 116, 117, 118, 119, 120, 121, 122])[(nth z7 j).toNat]'h = c := fun h => by
        have e : (nth z7 j).toNat = z7.getD j 0 := by unfold nth; rw [Int.toNat_natCast]
        rw [sym_at _ (by omega) h, e, hcc]
      have NX := Lib.hid (tx_next (by rw [hzl.out]; exact h1) HLs.out)
      rw [← hcc] at NX
      clear hcc
      go_wp2_with (at_builtin; refine wpList_append_mrow _ rfl _ _ 127 rfl w7.heap.size 5 i0 (.int .u8 0) 1 Tryz.underlying127 hi hz0 hz1 hz2 rfl rfl (hown.alloc _) ⟨wr.heap.size, 0, none⟩ 1 (.int .u8 (c.toNat : Int)) rfl (cell_one_new _ _ _) rfl (by unfold maxLen; omega) (by omega) (by first | (simp; omega) | omega) ?_; intro v' w1 hown' hb')
      rw [bys_snoc] at hown'
      have hb1 : Below w7.heap.size W8 w1 := (hbw.alloc hsz _).trans hb'
      have hown1 : MRow w1 w7.heap.size v' (l ++ [c]).length (bys (l ++ [c])) := by rw [List.length_append]; exact hown'
      clear hown hown' hb' hsy
      go_wp2_with fail
      go_roundw
      case rel => exact ⟨j + 1, l ++ [c], by omega, by go_num, hown1, NX.out, by simp; omega, hb1⟩
      case measure => first | (simp [intOf]; done) | (simp [intOf]; omega)
    · obtain rfl : j = k7 := by omega
      have HL : l = [] ++ z7.map sym := by rw [HLs.out, List.take_of_length_le (by rw [hzl.out]; exact Nat.le_refl _)]
      have HX2 := Lib.hid (show TextIs (sval false p) y l by
        refine ⟨z7, by rw [sval_abs]; exact HR.out, ?_⟩
        have := HP.out
        rw [HL]
        (have e1 : (sval false p) = (p : Int) := rfl; rw [e1]; rw [if_neg (by omega), if_neg (by omega)]))
      obtain ⟨g, cap', rfl, _, _, hnc, _, _, hce, _⟩ := hown
      have hgc : ∀ j (hj : j < l.length), wr.cell? ((⟨g, 0, none⟩ : Addr).add j) = some (.int .u8 ((l[j]).toNat : Int)) := fun j hj => by
        have hpl : (⟨g, 0, none⟩ : Addr).add j = ⟨g, j, none⟩ := by unfold Addr.add; split <;> simp_all
        rw [hpl, hce j hj]
        simp [bys, hj]
      have hcv := run_convert_bytes_back (P := Tryz.prog) wr 127 9 5 ⟨g, 0, none⟩ cap' l Tryz.underlying127 Tryz.underlying5 Tryz.underlying9 hgc
      have EX : Below w.heap.size w wr := E8.trans (hbw.mono E.size)
      clear hgc hce HL
      go_wp2_with fail
      refine bodyPost_ret (v := .string ⟨l.toArray⟩) (by simp [results, Tryz.results53, go_sem]) rfl ⟨l, HX2.out, rfl, EX⟩
set_option maxHeartbeats 4000000 in
theorem textOf_neg (w : World) (B : Nat) (A : Option Addr) (n c y p : Nat) (xs : List Nat) (H : DRd w B A n c xs) (hB : B ≤ w.heap.size) (hn : n ≤ 100000) (hx : Rep 65536 xs p) (hy : 2 ≤ y ∧ y ≤ 36) (hp : 0 < p) (ht : p < Top128) :
    Calls Tryz.prog 53 #[intv true A n c, .int .i64 (y : Int)] w (GivesTO w (sval true p) y) := by
  obtain ⟨i0, hi, hz0, hz1, hz2⟩ := info_parts info8
  have HX := Lib.hid hx
  have HP := Lib.hid hp
  have HT := Lib.hid ht
  clear hx hp ht
  have E : Below w.heap.size w w := Below.refl _ _
  go_enter Tryz.func53, Tryz.ntmps53
  go_wp2_with fail
  obtain ⟨V0, hV0⟩ : ∃ V0 : World, V0 = (w.alloc (.cells #[.bool true, .slice A n c] 40)) := ⟨_, rfl⟩
  have bV0 : Below w.heap.size w V0 := by rw [hV0]; (repeat (first | with_reducible exact Below.refl _ _ | with_reducible refine Below.drew ?_ | with_reducible refine below_drewN ?_ _ | with_reducible refine Below.setCell ?_ (by first | (simp; done) | (simp; omega) | omega) _ | with_reducible refine Below.alloc ?_ (by first | (simp; done) | (simp; omega) | omega) _))
  have zV0 : w.heap.size + 1 ≤ V0.heap.size := by rw [hV0]; simp
  have PA : Bk2 V0 (w.heap.size) (.bool true) (.slice A n c) := by rw [hV0]; exact (Bk2.newAt _ _ (by simp) _ _ _)
  rw [← hV0]
  clear hV0
  replace E := E.trans (bV0.mono E.size)
  replace H := H.below bV0 (by omega)
  clear bV0
  (with_reducible refine (figures_any _ B A n c y p 100000 xs H (by omega) hn (by omega) HX.out hy).mono ?_)
  rintro e w7 ⟨A7, k7, c7, z7, rfl, hd7, hr7, hb7⟩
  have sw7 := hb7.size
  replace E := E.trans (hb7.mono E.size)
  replace H := H.below hb7 (by omega)
  replace PA := PA.below hb7 PA.lt
  clear hb7
  have HR := Lib.hid hr7
  have hzl := Lib.hid hd7.len.out
  have hkp : 0 < k7 := by
    rcases Nat.eq_zero_or_pos k7 with e | e
    · exfalso
      have h1 := hr7.val
      rw [List.eq_nil_of_length_eq_zero (hd7.len.out.trans e), List.reverse_nil, vb_nil] at h1
      have := HP.out
      omega
    · exact e
  have hk7 : k7 ≤ 4096 := by have := len4096 hy.1 hr7 HT.out; rw [List.length_reverse, hd7.len.out] at this; exact this
  have hf0 : ((k7 : Int) == 0) = false := beq_eq_false_iff_ne.2 (by omega)
  have HZ := Lib.hid (show ∀ j, nth z7 j < 36 from fun j => by
    have h1 : z7.getD j 0 < y := by
      rcases getD_mem_or z7 j with h | h
      · exact hr7.dig _ (List.mem_reverse.2 h)
      · omega
    unfold nth; omega)
  have hcv := run_bytes_of_string (P := Tryz.prog) w7 9 127 5 ⟨#[45]⟩ Tryz.underlying9 Tryz.underlying127 Tryz.underlying5
  have M7 := MRow.conv w7 w7.heap.size ⟨#[45]⟩ 5 (Nat.le_refl _) (by decide)
  generalize hcap : grownCap w7 (⟨#[45]⟩ : ByteArray).size 0 5 = cap at hcv M7
  obtain ⟨W8, hW8⟩ : ∃ W8 : World, W8 = w7.drew.alloc (.cells (bytesRow ⟨#[45]⟩ cap) 5 ((bytesRow ⟨#[45]⟩ cap).size, (bytesRow ⟨#[45]⟩ cap).size + 1)) := ⟨_, rfl⟩
  have b8 : Below w7.heap.size w7 W8 := by rw [hW8]; exact (Below.drew (Below.refl _ _)).alloc (by simp) _
  rw [← hW8] at hcv M7
  clear hr7 hcap hW8
  have t0 := PA.c0
  go_wp2_with fail
  clear t0 hcv
  have s8 := b8.size
  have D8 := hd7.below b8 (Nat.le_refl _)
  have E8 := E.trans (b8.mono E.size)
  clear hd7 b8 hf0
  go_loopw [7, 8] (ToRel k7 w7.heap.size [45] z7 W8) (fun _ i _ => k7 - (intOf i).toNat)
  case atStart => exact ⟨0, [45], by omega, rfl, M7, (by show _ = _; simp), by simp, Below.refl _ _⟩
  case round =>
    obtain ⟨u7', hu7, j, l, hj, rfl, hown, HLs, hll, hbw⟩ : ∃ u7', u7' = u7 ∧ ToRel k7 w7.heap.size [45] z7 W8 u7' u8 wr := ⟨u7, rfl, hrel⟩
    subst hu7
    clear hrel
    have hsz : w7.heap.size ≤ wr.heap.size := by have := hbw.size; omega
    by_cases h1 : j < k7
    · obtain ⟨bb, off, rfl, hb, hc⟩ := D8.rd (by omega)
      have g1 := (hbw.cell (p := ⟨bb, off + j, none⟩) (by show bb < _; omega)).trans (hc j h1)
      have a1 := nth_nn z7 j
      have a2 := HZ.out j
      clear hc
      obtain ⟨c, hcc⟩ : ∃ c, c = sym (z7.getD j 0) := ⟨_, rfl⟩
      have hsy : ∀ h : (nth z7 j).toNat < (ByteArray.mk #[48, 49, 50, 51, 52, 53, 54, 55, 56, 57, 97, 98, 99, 100, 101, 102, 103, 104, 105, 106, 107, 108, 109, 110, 111, 112, 113, 114, 115, 116, 117, 118, 119, 120, 121, 122]).size, (ByteArray.mk #[48, 49, 50, 51, 52, 53, 54, 55, 56, 57, 97, 98, 99, 100, 101, 102, 103, 104, 105, 106, 107, 108, 109, 110, 111, 112, 113, 114, 115, 116, 117, 118, 119, 120, 121, 122])[(nth z7 j).toNat]'h = c := fun h => by
        have e : (nth z7 j).toNat = z7.getD j 0 := by unfold nth; rw [Int.toNat_natCast]
        rw [sym_at _ (by omega) h, e, hcc]
      have NX := Lib.hid (tx_next (by rw [hzl.out]; exact h1) HLs.out)
      rw [← hcc] at NX
      clear hcc
      go_wp2_with (at_builtin; refine wpList_append_mrow _ rfl _ _ 127 rfl w7.heap.size 5 i0 (.int .u8 0) 1 Tryz.underlying127 hi hz0 hz1 hz2 rfl rfl (hown.alloc _) ⟨wr.heap.size, 0, none⟩ 1 (.int .u8 (c.toNat : Int)) rfl (cell_one_new _ _ _) rfl (by unfold maxLen; omega) (by omega) (by first | (simp; omega) | omega) ?_; intro v' w1 hown' hb')
      rw [bys_snoc] at hown'
      have hb1 : Below w7.heap.size W8 w1 := (hbw.alloc hsz _).trans hb'
      have hown1 : MRow w1 w7.heap.size v' (l ++ [c]).length (bys (l ++ [c])) := by rw [List.length_append]; exact hown'
      clear hown hown' hb' hsy
      go_wp2_with fail
      go_roundw
      case rel => exact ⟨j + 1, l ++ [c], by omega, by go_num, hown1, NX.out, by simp; omega, hb1⟩
      case measure => first | (simp [intOf]; done) | (simp [intOf]; omega)
    · obtain rfl : j = k7 := by omega
      have HL : l = [45] ++ z7.map sym := by rw [HLs.out, List.take_of_length_le (by rw [hzl.out]; exact Nat.le_refl _)]
      have HX2 := Lib.hid (show TextIs (sval true p) y l by
        refine ⟨z7, by rw [sval_abs]; exact HR.out, ?_⟩
        have := HP.out
        rw [HL]
        (have e1 : (sval true p) = -(p : Int) := rfl; rw [e1]; rw [if_neg (by omega), if_pos (by omega)]))
      obtain ⟨g, cap', rfl, _, _, hnc, _, _, hce, _⟩ := hown
      have hgc : ∀ j (hj : j < l.length), wr.cell? ((⟨g, 0, none⟩ : Addr).add j) = some (.int .u8 ((l[j]).toNat : Int)) := fun j hj => by
        have hpl : (⟨g, 0, none⟩ : Addr).add j = ⟨g, j, none⟩ := by unfold Addr.add; split <;> simp_all
        rw [hpl, hce j hj]
        simp [bys, hj]
      have hcv := run_convert_bytes_back (P := Tryz.prog) wr 127 9 5 ⟨g, 0, none⟩ cap' l Tryz.underlying127 Tryz.underlying5 Tryz.underlying9 hgc
      have EX : Below w.heap.size w wr := E8.trans (hbw.mono E.size)
      clear hgc hce HL
      go_wp2_with fail
      refine bodyPost_ret (v := .string ⟨l.toArray⟩) (by simp [results, Tryz.results53, go_sem]) rfl ⟨l, HX2.out, rfl, EX⟩
theorem textOf_any (w : World) (B : Nat) (m : Bool) (A : Option Addr) (n c y p : Nat) (xs : List Nat) (H : DRd w B A n c xs) (hB : B ≤ w.heap.size) (hn : n ≤ 100000) (hx : Rep 65536 xs p) (hy : 2 ≤ y ∧ y ≤ 36) (ht : p < Top128) :
    Calls Tryz.prog 53 #[intv m A n c, .int .i64 (y : Int)] w (GivesTO w (sval m p) y) := by
  rcases Nat.eq_zero_or_pos p with e | e
  · subst e
    have : sval m 0 = 0 := by cases m <;> rfl
    rw [this]
    exact textOf_zero w B m A n c y xs H hB hn hx hy
  · cases m
    · exact textOf_pos w B A n c y p xs H hB hn hx hy e ht
    · exact textOf_neg w B A n c y p xs H hB hn hx hy e ht
end Go.Proofs.YtflmcgoijofpdaaGreat
