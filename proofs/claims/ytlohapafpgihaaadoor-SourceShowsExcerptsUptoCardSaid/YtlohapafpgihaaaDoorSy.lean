/- The reference: ExcerptOf. -/
import Derived.Test.YtlohapafpgihaaaDoorSx
import Derived.Deep.DeepCutAuto
namespace Go.Proofs.YtlohapafpgihaaaDoor
open Go.RowKit
set_option maxHeartbeats 400000
set_option maxRecDepth 100000
set_option linter.unusedSimpArgs false
set_option linter.unusedVariables false

theorem bx156 : Builder.Extra Tryd.prog Tryd.lays156_ren := {
  sizeBuilder := by kernel_rfl
  liesBuilder := by kernel_rfl
  t5 := Tryd.underlying5
  a5 := Tryd.isAgg5
  z5 := Tryd.sizeOf5
  v5 := Tryd.zeroValue5
  infoByte := by kernel_rfl
  cellsByte := by kernel_rfl
  sizeByte := by kernel_rfl
  neB5 := by decide }
theorem join_flat : ∀ l : List (List UInt8), Lib.join l [] = l.flatten
  | [] => rfl
  | x :: r => by
    rw [Lib.join_cons]
    unfold Lib.joinTail
    simp
theorem join_any (g o c n : Nat) (ys : List ByteArray) (T : ByteArray) (w : World) (h : ∀ (j : Nat) x, ys[j]? = some x → w.cell? ⟨g, o + j, none⟩ = some (.string x)) (hg : g < w.heap.size) (hl : ys.length = n) (hc : n ≤ c) (hT : Hid ((ys.map (·.data.toList)).flatten = T.data.toList)) (hT2 : T.size ≤ 16000) (hn : n ≤ 16000) :
    Calls Tryd.prog 32 #[.slice (some ⟨g, o, none⟩) n c, .string ⟨#[]⟩] w fun e w' => e = .returned (.string T) ∧ Below w.heap.size w w' := by
  subst hl
  have e : Lib.join (ys.map (·.data.toList)) (⟨#[]⟩ : ByteArray).data.toList = T.data.toList := by rw [← hT.out]; exact join_flat _
  have hs : T.data.toList.length = T.size := by simp
  refine (Any.strings_Join Tryd.lays156 bx156 g o c ys ⟨#[]⟩ w h hg (by omega) hc (by rw [e]; omega)).mono fun e' w' ⟨h1, h2⟩ => ⟨?_, h2⟩
  rw [h1, e]
theorem join_no (A : Option Addr) (c : Nat) (w : World) :
    Calls Tryd.prog 32 #[.slice A 0 c, .string ⟨#[]⟩] w fun e w' => e = .returned (.string ⟨#[]⟩) ∧ Below w.heap.size w w' :=
  (Any.strings_Join_none Tryd.lays156 bx156 A c ⟨#[]⟩ w).mono fun e w' ⟨h1, h2⟩ => ⟨h1, by rw [h2]; exact Below.refl _ _⟩
set_option maxHeartbeats 4000000 in
theorem eo_f (s : ByteArray) (l q wd o : Int) (w : World) {c i : Int} (hc1 : 1 ≤ c ∧ c ≤ 6) (hf : ∀ w, Tabs w → Calls Tryd.prog 16 #[.string s, .int .i64 l, .int .i64 q] w fun e w2 => e = .returned (.tuple #[.int .i64 o, flt c i]) ∧ Below w.heap.size w w2) (hT : Tabs w) :
    Calls Tryd.prog 18 #[.string s, .int .i64 l, .int .i64 q, .int .i64 wd] w fun e w' => e = .returned (.tuple #[.string ⟨#[]⟩, flt c i]) ∧ Below w.heap.size w w' := by
  go_enter Tryd.func18, Tryd.ntmps18
  go_wp2_with fail
  refine (hf _ (hT.below (bl1 w _) (Nat.le_refl _))).mono ?_
  rintro e w1 ⟨rfl, hb1⟩
  have P6 : Bk2 w1 w.heap.size (.int .i64 0) (.int .i64 0) := (Bk2.newAt w _ rfl _ _ _).below hb1 (by simp)
  have s1 : w.heap.size + 1 ≤ w1.heap.size := by have := hb1.size; simpa using this
  have E1 : Below w.heap.size w w1 := ((Below.refl _ _).alloc (Nat.le_refl _) _).trans (hb1.mono (by simp))
  clear hb1
  have lt6 := P6.lt
  have z0 : w1.cell? ⟨w.heap.size, 0, none⟩ = some (.int .i64 0) := P6.c0
  have z1 : w1.cell? ⟨w.heap.size, 1, none⟩ = some (.int .i64 0) := P6.c1
  have z2 : w1.frozen? ⟨w.heap.size, 0, none⟩ = false := P6.z0
  have z3 : w1.frozen? ⟨w.heap.size, 1, none⟩ = false := P6.z1
  have d1 : (c != 0) = true := by rw [bne_iff_ne]; omega
  have d2 : (c == 0) = false := beq_eq_false_iff_ne.2 (by omega)
  go_upto_region 5 with fail
  clear d1 d2
  obtain ⟨V, hV⟩ : ∃ V, V = w1.alloc (.cells #[.int .i64 c, .int .i64 i] 24) := ⟨_, rfl⟩
  have F7 : Bk2 V w1.heap.size (.int .i64 c) (.int .i64 i) := by rw [hV]; exact Bk2.newAt _ _ rfl _ _ _
  have P6v : Bk2 V w.heap.size (.int .i64 0) (.int .i64 0) := by rw [hV]; exact P6.alloc _
  have EV : Below w.heap.size w V := by rw [hV]; exact E1.alloc (by omega) _
  rw [← hV]
  clear hV z0 z1 z2 z3 P6 E1
  have ltF := F7.lt
  obtain ⟨y0, y1, y2, y3, lt6v⟩ := P6v
  obtain ⟨x0, x1, _, _, _⟩ := F7
  go_region
  go_wp2
  refine bodyPost_ret (v := .tuple #[.string ⟨#[]⟩, flt c i]) (by simp [results, Tryd.results18, go_sem, y0, y1]) rfl ⟨rfl, ?_⟩
  exact (by (repeat (first | with_reducible exact EV | with_reducible refine Below.drew ?_ | with_reducible refine below_drewN ?_ _ | with_reducible refine Below.setCell ?_ (by first | (simp; done) | (simp; omega) | omega) _)))
set_option maxHeartbeats 4000000 in
theorem eo_w (s : ByteArray) (l q wd o : Int) (w : World) (hf : ∀ w, Tabs w → Calls Tryd.prog 16 #[.string s, .int .i64 l, .int .i64 q] w fun e w2 => e = .returned (.tuple #[.int .i64 o, flt 0 0]) ∧ Below w.heap.size w w2) (hT : Tabs w) (h : wd < 20 ∨ 200 < wd) :
    Calls Tryd.prog 18 #[.string s, .int .i64 l, .int .i64 q, .int .i64 wd] w fun e w' => e = .returned (.tuple #[.string ⟨#[]⟩, flt 4 (-4)]) ∧ Below w.heap.size w w' := by
  by_cases h1 : wd < 20
  · have d1 : decide (wd < 20) = true := decide_eq_true (by omega)
    clear h h1
    go_enter Tryd.func18, Tryd.ntmps18
    go_wp2_with fail
    refine (hf _ (hT.below (bl1 w _) (Nat.le_refl _))).mono ?_
    rintro e w1 ⟨rfl, hb1⟩
    have P6 : Bk2 w1 w.heap.size (.int .i64 0) (.int .i64 0) := (Bk2.newAt w _ rfl _ _ _).below hb1 (by simp)
    have s1 : w.heap.size + 1 ≤ w1.heap.size := by have := hb1.size; simpa using this
    have E1 : Below w.heap.size w w1 := ((Below.refl _ _).alloc (Nat.le_refl _) _).trans (hb1.mono (by simp))
    clear hb1
    have lt6 := P6.lt
    have z0 : w1.cell? ⟨w.heap.size, 0, none⟩ = some (.int .i64 0) := P6.c0
    have z1 : w1.cell? ⟨w.heap.size, 1, none⟩ = some (.int .i64 0) := P6.c1
    have z2 : w1.frozen? ⟨w.heap.size, 0, none⟩ = false := P6.z0
    have z3 : w1.frozen? ⟨w.heap.size, 1, none⟩ = false := P6.z1
    have hT1 : Tabs w1 := hT.below E1 (Nat.le_refl _)
    go_upto_region 5 with (go_at_call 11; refine (at_any _ _ _).mono ?_; rintro e w2 ⟨rfl, hb2⟩; have Bw2 : Below w1.heap.size w1 w2 := (by refine Below.trans ?_ (hb2.mono (by first | (simp; done) | (simp; omega) | omega)); (repeat (first | with_reducible exact Below.refl _ _ | with_reducible refine Below.drew ?_ | with_reducible refine Below.alloc ?_ (by first | (simp; done) | (simp; omega) | omega) _))); have Sw2 := Bw2.size; have Pw2 := P6.below Bw2 P6.lt; have BNw2 : Below w.heap.size w w2 := E1.trans (Bw2.mono (by omega)); have Tw2 := hT1.below Bw2 (Nat.le_refl _); obtain ⟨y0, y1, y2, y3, _⟩ := id Pw2; have F8 := (Bk2.newAt w1 _ rfl (.int .i64 0) (.int .i64 0) 24).below hb2 (by simp); obtain ⟨x0, x1, x2, x3, x4⟩ := id F8)
    obtain ⟨V, hV⟩ : ∃ V, V = (w2.setCell ⟨w1.heap.size, 0, none⟩ (.int .i64 4)).setCell ⟨w1.heap.size, 1, none⟩ (.int .i64 (-4)) := ⟨_, rfl⟩
    have F7 : Bk2 V w1.heap.size (.int .i64 4) (.int .i64 (-4)) := by rw [hV]; exact F8.set _ _
    have P6v : Bk2 V w.heap.size (.int .i64 0) (.int .i64 0) := by rw [hV]; exact Pw2.far2 (by omega) _ _
    have EV : Below w.heap.size w V := by rw [hV]; exact (BNw2.setCell (by show w.heap.size ≤ w1.heap.size; omega) _).setCell (by show w.heap.size ≤ w1.heap.size; omega) _
    rw [← hV]
    clear hV z0 z1 z2 z3 P6 E1 x0 x1 x2 x3 y0 y1 y2 y3 F8 Pw2
    have ltF := F7.lt
    obtain ⟨y0, y1, y2, y3, lt6v⟩ := P6v
    obtain ⟨x0, x1, _, _, _⟩ := F7
    go_region
    go_wp2
    refine bodyPost_ret (v := .tuple #[.string ⟨#[]⟩, flt 4 (-4)]) (by simp [results, Tryd.results18, go_sem, y0, y1]) rfl ⟨rfl, ?_⟩
    exact (by (repeat (first | with_reducible exact EV | with_reducible refine Below.drew ?_ | with_reducible refine below_drewN ?_ _ | with_reducible refine Below.setCell ?_ (by first | (simp; done) | (simp; omega) | omega) _)))
  · have d1 : decide (wd < 20) = false := decide_eq_false (by omega)
    have d3 : decide (200 < wd) = true := decide_eq_true (by omega)
    clear h h1
    go_enter Tryd.func18, Tryd.ntmps18
    go_wp2_with fail
    refine (hf _ (hT.below (bl1 w _) (Nat.le_refl _))).mono ?_
    rintro e w1 ⟨rfl, hb1⟩
    have P6 : Bk2 w1 w.heap.size (.int .i64 0) (.int .i64 0) := (Bk2.newAt w _ rfl _ _ _).below hb1 (by simp)
    have s1 : w.heap.size + 1 ≤ w1.heap.size := by have := hb1.size; simpa using this
    have E1 : Below w.heap.size w w1 := ((Below.refl _ _).alloc (Nat.le_refl _) _).trans (hb1.mono (by simp))
    clear hb1
    have lt6 := P6.lt
    have z0 : w1.cell? ⟨w.heap.size, 0, none⟩ = some (.int .i64 0) := P6.c0
    have z1 : w1.cell? ⟨w.heap.size, 1, none⟩ = some (.int .i64 0) := P6.c1
    have z2 : w1.frozen? ⟨w.heap.size, 0, none⟩ = false := P6.z0
    have z3 : w1.frozen? ⟨w.heap.size, 1, none⟩ = false := P6.z1
    have hT1 : Tabs w1 := hT.below E1 (Nat.le_refl _)
    go_upto_region 5 with (go_at_call 11; refine (at_any _ _ _).mono ?_; rintro e w2 ⟨rfl, hb2⟩; have Bw2 : Below w1.heap.size w1 w2 := (by refine Below.trans ?_ (hb2.mono (by first | (simp; done) | (simp; omega) | omega)); (repeat (first | with_reducible exact Below.refl _ _ | with_reducible refine Below.drew ?_ | with_reducible refine Below.alloc ?_ (by first | (simp; done) | (simp; omega) | omega) _))); have Sw2 := Bw2.size; have Pw2 := P6.below Bw2 P6.lt; have BNw2 : Below w.heap.size w w2 := E1.trans (Bw2.mono (by omega)); have Tw2 := hT1.below Bw2 (Nat.le_refl _); obtain ⟨y0, y1, y2, y3, _⟩ := id Pw2; have F8 := (Bk2.newAt w1 _ rfl (.int .i64 0) (.int .i64 0) 24).below hb2 (by simp); obtain ⟨x0, x1, x2, x3, x4⟩ := id F8)
    obtain ⟨V, hV⟩ : ∃ V, V = (w2.setCell ⟨w1.heap.size, 0, none⟩ (.int .i64 4)).setCell ⟨w1.heap.size, 1, none⟩ (.int .i64 (-4)) := ⟨_, rfl⟩
    have F7 : Bk2 V w1.heap.size (.int .i64 4) (.int .i64 (-4)) := by rw [hV]; exact F8.set _ _
    have P6v : Bk2 V w.heap.size (.int .i64 0) (.int .i64 0) := by rw [hV]; exact Pw2.far2 (by omega) _ _
    have EV : Below w.heap.size w V := by rw [hV]; exact (BNw2.setCell (by show w.heap.size ≤ w1.heap.size; omega) _).setCell (by show w.heap.size ≤ w1.heap.size; omega) _
    rw [← hV]
    clear hV z0 z1 z2 z3 P6 E1 x0 x1 x2 x3 y0 y1 y2 y3 F8 Pw2
    have ltF := F7.lt
    obtain ⟨y0, y1, y2, y3, lt6v⟩ := P6v
    obtain ⟨x0, x1, _, _, _⟩ := F7
    go_region
    go_wp2
    refine bodyPost_ret (v := .tuple #[.string ⟨#[]⟩, flt 4 (-4)]) (by simp [results, Tryd.results18, go_sem, y0, y1]) rfl ⟨rfl, ?_⟩
    exact (by (repeat (first | with_reducible exact EV | with_reducible refine Below.drew ?_ | with_reducible refine below_drewN ?_ _ | with_reducible refine Below.setCell ?_ (by first | (simp; done) | (simp; omega) | omega) _)))
end Go.Proofs.YtlohapafpgihaaaDoor
