/- SourceShowsExcerpts: the law. -/
import Derived.Test.YtlohapafpgihaaaDoorSz
import Derived.Deep.DeepCutAuto
namespace Go.Proofs.YtlohapafpgihaaaDoor
open Go.RowKit
set_option maxHeartbeats 400000
set_option maxRecDepth 100000
set_option linter.unusedSimpArgs false
set_option linter.unusedVariables false

theorem locate_x (s : ByteArray) (j k b t : Nat) (w : World) (hs : s.size ≤ 16000) (hg : Hid (chkFrom s s.size 0 = none)) (hj : j ≤ nl s 0 s.size) (hB : LB s j b) (hE : LE s b t) (hk : k ≤ nb s b (t - b)) :
    Calls Tryd.prog 27 #[.string s, .int .i64 ((j : Int) + 1), .int .i64 ((k : Int) + 1)] w fun e w' => e = .returned (.tuple #[.string (s.extract b t), .int .i64 (b : Int), flt 0 0]) ∧ Below w.heap.size w w' :=
  (locate_ok s j k w hs hg (Lib.hid hj) (Lib.hid (fun b' t' h1 h2 => by
    obtain rfl := lb_uniq h1 hB
    obtain rfl := le_uniq h2 hE
    exact hk))).mono fun e w' ⟨b', t', h1, h2, he, hb⟩ => by
    obtain rfl := lb_uniq h1 hB
    obtain rfl := le_uniq h2 hE
    exact ⟨he, hb⟩
/-- What Excerpt gives is what the reference says. -/
def ExAll (s : ByteArray) (l q wd : Int) (x : ByteArray) (c i : Int) : Prop :=
  (∀ w, Calls Tryd.prog 17 #[.string s, .int .i64 l, .int .i64 q, .int .i64 wd] w fun e w' => e = .returned (.tuple #[.string x, flt c i]) ∧ Below w.heap.size w w') ∧
  (∀ w, Tabs w → Calls Tryd.prog 18 #[.string s, .int .i64 l, .int .i64 q, .int .i64 wd] w fun e w' => e = .returned (.tuple #[.string x, flt c i]) ∧ Below w.heap.size w w')
theorem ex_ok (s x : ByteArray) (j k wd b t : Nat) (o : Int) (hs : s.size ≤ 16000) (hg : Hid (chkFrom s s.size 0 = none)) (hj : j ≤ nl s 0 s.size) (hB : LB s j b) (hE : LE s b t) (hx : x = s.extract b t) (hk : k ≤ nb s b (t - b)) (hw1 : 20 ≤ wd) (hw2 : wd ≤ 200)
    (hof : ∀ w, Tabs w → Calls Tryd.prog 16 #[.string s, .int .i64 ((j : Int) + 1), .int .i64 ((k : Int) + 1)] w fun e w' => e = .returned (.tuple #[.int .i64 o, flt 0 0]) ∧ Below w.heap.size w w') :
    ∃ y, ExAll s ((j : Int) + 1) ((k : Int) + 1) (wd : Int) y 0 0 := by
  have b1 : b ≤ t := hE.1
  have b2 : t ≤ s.size := hE.2.1
  have szx : x.size = t - b := by rw [hx, ByteArray.size_extract]; omega
  have sx16 : x.size ≤ 16000 := by omega
  have hxg : chkFrom x x.size 0 = none := by rw [hx]; exact chk_part hg.out (lb_bd (good_of hg.out) hB) (le_bd hE) b1
  have G := good_of hxg
  have hBe : Bd x x.size := ⟨Nat.le_refl _, fun h => by omega⟩
  obtain ⟨M, hM⟩ : ∃ M, nb x 0 x.size = M := ⟨_, rfl⟩
  have hM1 : nb s b (t - b) = M := by rw [← hM, szx, hx]; exact (nb_ext b2 (t - b) (by omega)).symm
  have hM2 : M ≤ 16000 := by have := nb_le x 0 x.size; omega
  have hrc : Lib.runeCount x = M := by
    have h := rc_part (s := x) (a := 0) (e := x.size) G G.1 hBe (Nat.zero_le _)
    rw [ext_all] at h
    rw [h]; exact hM
  have hkM : k ≤ M := by omega
  have hX : LnAt s j x := ⟨b, t, hB, hE, hx⟩
  have hl := fun w => locate_x s j k b t w hs hg hj hB hE hk
  rw [← hx] at hl
  by_cases hMw : M ≤ wd
  · have hF := frst_le (k := k) hMw
    have h0 : szFrom x x.size 0 (frst M k wd) = 0 := by
      have h := sz_first G G.1
      rw [show nb x 0 0 = 0 from rfl] at h
      rw [hF]; exact h
    have h1 : szFrom (x.extract 0 x.size) (x.extract 0 x.size).size 0 wd = x.size := by
      rw [ext_all]
      exact sz_all G x.size 0 wd (Nat.zero_le _) (by omega) G.1 (by rw [Nat.sub_zero, hM]; exact hMw)
    have p := fun w => exc_ok s x ((j : Int) + 1) b k wd M 0 x.size w hl sx16 hw1 hw2 (Lib.hid hrc) hM2 (by omega) (Lib.hid h0) (Nat.zero_le _) (Lib.hid h1) (by omega)
    rw [ext_all, ext_all, hF, Nat.sub_zero] at p
    exact ⟨_, p, fun w hT => eo_a s x j k wd M o w hs (Lib.hid hxg) (Lib.hid hX) hj sx16 (Lib.hid hM) hM2 (by omega) hw1 hw2 hof hT hMw⟩
  · obtain ⟨F, hF⟩ : ∃ F, frst M k wd = F := ⟨_, rfl⟩
    have f1 : F + wd ≤ M := by rw [← hF]; exact frst_M (by omega)
    obtain ⟨a, ha, hna⟩ := ch_ex (s := x) (c := F) (by omega)
    obtain ⟨z, hz, hnz⟩ := ch_ex (s := x) (c := F + wd) (by omega)
    have haz : a ≤ z := ch_le hz ha.1 (by omega)
    have h0 : szFrom x x.size 0 (frst M k wd) = a := by rw [hF, ← hna]; exact sz_first G ha
    have h1 : szFrom (x.extract a x.size) (x.extract a x.size).size 0 wd = z - a := by
      have h := sz_next G ha hz haz
      rw [hna, hnz, Nat.add_sub_cancel_left] at h
      exact h
    have zl := hz.1
    have al := ha.1
    have p := fun w => exc_ok s x ((j : Int) + 1) b k wd M a (z - a) w hl sx16 hw1 hw2 (Lib.hid hrc) hM2 (by omega) (Lib.hid h0) ha.1 (Lib.hid h1) (by omega)
    rw [ext_of haz zl, hF] at p
    have hFv : (F : Int) = max (0 : Int) (min ((k : Int) - (wd : Int) / 2) ((M : Int) - (wd : Int))) := by rw [← hF]; unfold frst; omega
    by_cases c1 : (k : Int) - (wd : Int) / 2 < 0
    · obtain rfl : F = 0 := by omega
      exact ⟨_, p, fun w hT => eo_b1 s x j k wd M o w hs (Lib.hid hxg) (Lib.hid hX) hj sx16 (Lib.hid hM) hM2 (by omega) hw1 hw2 hof hT (by omega) c1 a z (Lib.hid ⟨ha, hna⟩) (Lib.hid ⟨hz, hnz⟩)⟩
    · by_cases c2 : (M : Int) - (wd : Int) < (k : Int) - (wd : Int) / 2
      · exact ⟨_, p, fun w hT => eo_b2 s x j k wd M o w hs (Lib.hid hxg) (Lib.hid hX) hj sx16 (Lib.hid hM) hM2 (by omega) hw1 hw2 hof hT (by omega) (by omega) c2 F (by omega) a z (Lib.hid ⟨ha, hna⟩) (Lib.hid ⟨hz, hnz⟩)⟩
      · exact ⟨_, p, fun w hT => eo_b3 s x j k wd M o w hs (Lib.hid hxg) (Lib.hid hX) hj sx16 (Lib.hid hM) hM2 (by omega) hw1 hw2 hof hT (by omega) (by omega) (by omega) F (by omega) a z (Lib.hid ⟨ha, hna⟩) (Lib.hid ⟨hz, hnz⟩)⟩
theorem ex_all (s : ByteArray) (l q wd : Int) (hz : s.size ≤ 1048576) : ∃ x c i, ExAll s l q wd x c i := by
  have hz' : s.size ≤ 9223372036854775807 := by omega
  rcases sf_cases s with ⟨hs, hg⟩ | ⟨c, i, h⟩
  · by_cases hl : l < 1 ∨ ((nl s 0 s.size : Nat) : Int) + 1 < l
    · exact ⟨_, 4, -2, fun w => exc_f s l q wd w ⟨by decide, by decide⟩ (fun w => locate_f s l q w ⟨by decide, by decide⟩ (fun w => find_r s l w hs (Lib.hid hg) hl)), fun w hT => eo_f s l q wd 0 w ⟨by decide, by decide⟩ (fun w hT => of_r s l q w hs (Lib.hid hg) hT hl) hT⟩
    · obtain ⟨j, hj⟩ := Int.eq_ofNat_of_zero_le (show 0 ≤ l - 1 by omega)
      have hj2 : j ≤ nl s 0 s.size := by omega
      obtain rfl : l = (j : Int) + 1 := by omega
      obtain ⟨b, hB⟩ := lb_ex hj2
      obtain ⟨t, hE⟩ := le_ex s hB.1
      have hu : ∀ b' t', LB s j b' → LE s b' t' → b' = b ∧ t' = t := fun b' t' h1 h2 => by
        obtain rfl := lb_uniq h1 hB
        exact ⟨rfl, le_uniq h2 hE⟩
      by_cases hk : q < 1 ∨ ((nb s b (t - b) : Nat) : Int) + 1 < q
      · have hk2 : ∀ b' t', LB s j b' → LE s b' t' → q < 1 ∨ ((nb s b' (t' - b') : Nat) : Int) + 1 < q := fun b' t' h1 h2 => by
          obtain ⟨rfl, rfl⟩ := hu b' t' h1 h2
          exact hk
        exact ⟨_, 4, -3, fun w => exc_f s _ q wd w ⟨by decide, by decide⟩ (fun w => locate_r s j q w hs (Lib.hid hg) (Lib.hid hj2) (Lib.hid hk2)), fun w hT => eo_f s _ q wd 0 w ⟨by decide, by decide⟩ (fun w hT => of_c s j q w hs (Lib.hid hg) hT hj2 (Lib.hid hk2)) hT⟩
      · obtain ⟨k, hq⟩ := Int.eq_ofNat_of_zero_le (show 0 ≤ q - 1 by omega)
        obtain rfl : q = (k : Int) + 1 := by omega
        have hkk : k ≤ nb s b (t - b) := by omega
        obtain ⟨o, h1, h2, h3, h4⟩ := off_ex hB hE hkk
        have hk2 : ∀ b' t', LB s j b' → LE s b' t' → k ≤ nb s b' (t' - b') := fun b' t' h5 h6 => by
          obtain ⟨rfl, rfl⟩ := hu b' t' h5 h6
          exact hkk
        have hof := fun w (hT : Tabs w) => of_ok s o j k w hs (Lib.hid hg) hT (Lib.hid h1) (Lib.hid ⟨b, h2, by rw [h3], by rw [h4]⟩) hj2 (Lib.hid hk2)
        by_cases hw : wd < 20 ∨ 200 < wd
        · exact ⟨_, 4, -4, fun w => exc_w s _ _ _ b wd w (fun w => locate_x s j k b t w hs (Lib.hid hg) hj2 hB hE hkk) hw, fun w hT => eo_w s _ _ wd o w hof hT hw⟩
        · obtain ⟨v, hv⟩ := Int.eq_ofNat_of_zero_le (show 0 ≤ wd by omega)
          subst hv
          obtain ⟨y, hy⟩ := ex_ok s _ j k v b t o hs (Lib.hid hg) hj2 hB hE rfl hkk (by omega) (by omega) hof
          exact ⟨y, 0, 0, hy⟩
  · exact ⟨_, c, i, fun w => exc_f s l q wd w h.code (fun w => locate_f s l q w h.code (fun w => find_b s l w hz' (Lib.hid h))), fun w hT => eo_f s l q wd 0 w h.code (fun w hT => of_b s l q w hz (Lib.hid h) hT) hT⟩
set_option maxHeartbeats 8000000 in
theorem shows_any (w : World) (s : ByteArray) (l q wd : Int) (hsz : s.size ≤ 1048576) (hT : Tabs w) :
    Calls Tryd.prog 4 #[.string s, .int .i64 l, .int .i64 q, .int .i64 wd] w fun e w' => e = .returned (.bool true) ∧ Below w.heap.size w w' := by
  obtain ⟨x, c, i, hE1, hE2⟩ := ex_all s l q wd hsz
  have HE1 := Lib.hid hE1
  have HE2 := Lib.hid hE2
  clear hE1 hE2
  have E : Below w.heap.size w w := Below.refl _ _
  go_enter Tryd.func4, Tryd.ntmps4
  go_wp2_with fail
  (with_reducible refine (places_any _).mono ?_)
  rintro e w0 ⟨rfl, hb0⟩
  have sw0 := hb0.size
  replace E : Below w.heap.size w w0 := E.trans (hb0.mono E.size)
  clear hb0
  go_wp2_with fail
  (with_reducible refine (HE1.out _).mono ?_)
  rintro e w1 ⟨rfl, hb1⟩
  have sw1 := hb1.size
  replace E : Below w.heap.size w w1 := E.trans (hb1.mono E.size)
  clear hb1
  go_wp2_with fail
  obtain ⟨V1, hV1⟩ : ∃ V1 : World, V1 = (w1.alloc (.cells #[.int .i64 c, .int .i64 i] 24)) := ⟨_, rfl⟩
  have bV1 : Below w1.heap.size w1 V1 := by rw [hV1]; (repeat (first | with_reducible exact Below.refl _ _ | with_reducible refine Below.drew ?_ | with_reducible refine below_drewN ?_ _ | with_reducible refine Below.setCell ?_ (by first | (simp; done) | (simp; omega) | omega) _ | with_reducible refine Below.alloc ?_ (by first | (simp; done) | (simp; omega) | omega) _))
  have zV1 : w1.heap.size + 1 ≤ V1.heap.size := by rw [hV1]; simp
  have F10 : Bk2 V1 (w1.heap.size) (.int .i64 c) (.int .i64 i) := by rw [hV1]; exact (Bk2.newAt _ _ (by simp) _ _ _)
  rw [← hV1]
  clear hV1
  replace E : Below w.heap.size w V1 := E.trans (bV1.mono E.size)
  clear bV1
  (with_reducible refine (HE2.out _ (hT.below E (Nat.le_refl _))).mono ?_)
  rintro e w2 ⟨rfl, hb2⟩
  have sw2 := hb2.size
  replace E : Below w.heap.size w w2 := E.trans (hb2.mono E.size)
  replace F10 : Bk2 w2 (w1.heap.size) (.int .i64 c) (.int .i64 i) := F10.below hb2 F10.lt
  clear hb2
  go_upto_region 5 with fail
  obtain ⟨V2, hV2⟩ : ∃ V2 : World, V2 = (w2.alloc (.cells #[.int .i64 c, .int .i64 i] 24)) := ⟨_, rfl⟩
  have bV2 : Below w2.heap.size w2 V2 := by rw [hV2]; (repeat (first | with_reducible exact Below.refl _ _ | with_reducible refine Below.drew ?_ | with_reducible refine below_drewN ?_ _ | with_reducible refine Below.setCell ?_ (by first | (simp; done) | (simp; omega) | omega) _ | with_reducible refine Below.alloc ?_ (by first | (simp; done) | (simp; omega) | omega) _))
  have zV2 : w2.heap.size + 1 ≤ V2.heap.size := by rw [hV2]; simp
  have F12 : Bk2 V2 (w2.heap.size) (.int .i64 c) (.int .i64 i) := by rw [hV2]; exact (Bk2.newAt _ _ (by simp) _ _ _)
  rw [← hV2]
  clear hV2
  replace E : Below w.heap.size w V2 := E.trans (bV2.mono E.size)
  replace F10 : Bk2 V2 (w1.heap.size) (.int .i64 c) (.int .i64 i) := F10.below bV2 F10.lt
  clear bV2
  have t_F100 : V2.cell? ⟨w1.heap.size, 0, none⟩ = some ((.int .i64 c)) := F10.c0
  have t_F101 : V2.cell? ⟨w1.heap.size, 1, none⟩ = some ((.int .i64 i)) := F10.c1
  have t_F120 : V2.cell? ⟨w2.heap.size, 0, none⟩ = some ((.int .i64 c)) := F12.c0
  have t_F121 : V2.cell? ⟨w2.heap.size, 1, none⟩ = some ((.int .i64 i)) := F12.c1
  go_wp2_with fail
  clear t_F100 t_F101 t_F120 t_F121
  go_ret
  exact ⟨by first | rfl | (simp; done), E⟩
end Go.Proofs.YtlohapafpgihaaaDoor
