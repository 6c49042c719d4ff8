/- Package source: Line; what Position, Offset and Line give, against the reference. -/
import Derived.Test.YtlohapafpgihaaaDoorSn
import Derived.Test.YtlohapafpgihaaaDoorSpl
import Derived.Deep.DeepCutAuto
import Derived.Deep.RegionWith
import Derived.Test.YtlohapafpgihaaaDoorLay
import Derived.Shelf.Strconv.Clone
namespace Go.Proofs.YtlohapafpgihaaaDoor
open Go.RowKit
set_option maxHeartbeats 400000
set_option maxRecDepth 100000
set_option linter.unusedSimpArgs false
set_option linter.unusedVariables false

theorem clone_any (x : ByteArray) (w : World) (hx : x.size ≤ 16000) :
    Calls Tryd.prog 22 #[.string x] w fun e w' => e = .returned (.string x) ∧ Below w.heap.size w w' := by
  have h := fun w => show Calls Tryd.prog 37 #[.string x] w fun e w' => e = .returned (.string x) ∧ Below w.heap.size w w' from Any.stringslite_Clone Tryd.lays316 x w (by omega)
  go_enter Tryd.func22, Tryd.ntmps22
  go_wp2_with fail
  refine (h _).mono ?_
  rintro e w1 ⟨rfl, hb1⟩
  go_wp2_with fail
  go_ret
  exact ⟨rfl, hb1⟩
set_option maxHeartbeats 4000000 in
theorem line_of (s x : ByteArray) (l b c i : Int) (w : World) (hx : x.size ≤ 16000) (hf : ∀ w, Calls Tryd.prog 21 #[.string s, .int .i64 l] w fun e w' => e = .returned (.tuple #[.string x, .int .i64 b, flt c i]) ∧ Below w.heap.size w w') :
    Calls Tryd.prog 9 #[.string s, .int .i64 l] w fun e w' => e = .returned (.tuple #[.string x, flt c i]) ∧ Below w.heap.size w w' := by
  go_enter Tryd.func9, Tryd.ntmps9
  go_wp2_with fail
  refine (hf _).mono ?_
  rintro e w1 ⟨rfl, hb1⟩
  have P6 : Bk2 w1 w.heap.size (.int .i64 0) (.int .i64 0) := (Bk2.newAt w _ rfl _ _ _).below hb1 (by simp)
  have s1 : w.heap.size + 1 ≤ w1.heap.size := by have := hb1.size; simpa using this
  have E1 : Below w.heap.size w w1 := ((Below.refl _ _).alloc (Nat.le_refl _) _).trans (hb1.mono (by simp))
  clear hb1
  have lt6 := P6.lt
  have z0 : w1.cell? ⟨w.heap.size, 0, none⟩ = some (.int .i64 0) := P6.c0
  have z1 : w1.cell? ⟨w.heap.size, 1, none⟩ = some (.int .i64 0) := P6.c1
  have z2 : w1.frozen? ⟨w.heap.size, 0, none⟩ = false := P6.z0
  have z3 : w1.frozen? ⟨w.heap.size, 1, none⟩ = false := P6.z1
  go_upto_region 2 with fail
  obtain ⟨V, hV⟩ : ∃ V, V = w1.alloc (.cells #[.int .i64 c, .int .i64 i] 24) := ⟨_, rfl⟩
  have F7 : Bk2 V w1.heap.size (.int .i64 c) (.int .i64 i) := by rw [hV]; exact Bk2.newAt _ _ rfl _ _ _
  have P6v : Bk2 V w.heap.size (.int .i64 0) (.int .i64 0) := by rw [hV]; exact P6.alloc _
  have EV : Below w.heap.size w V := by rw [hV]; exact E1.alloc (by omega) _
  have sV : w1.heap.size + 1 ≤ V.heap.size := by rw [hV]; simp
  rw [← hV]
  clear hV z0 z1 z2 z3 P6 E1
  obtain ⟨x0, x1, _, _, ltF⟩ := id F7
  obtain ⟨y0, y1, y2, y3, lt6v⟩ := id P6v
  go_region_with (first
    | (go_at_call 22; (with_reducible refine (clone_any x _ hx).mono ?_); rintro e w3 ⟨rfl, hb3⟩; have BV3 : Below V.heap.size V w3 := (by refine Below.trans ?_ (hb3.mono (by simp)); (repeat (first | with_reducible exact Below.refl _ _ | with_reducible refine Below.drew ?_ | with_reducible refine below_drewN ?_ _))); have P6q := P6v.below BV3 lt6v; have F7q := F7.below BV3 ltF; have BN : Below w.heap.size w w3 := EV.trans (BV3.mono (by omega)); obtain ⟨y0, y1, y2, y3, _⟩ := id P6q; obtain ⟨x0, x1, _, _, _⟩ := id F7q)
    | fail)
  all_goals (go_wp2_with fail)
  all_goals (refine bodyPost_ret (v := .tuple #[.string x, flt c i]) (by simp [results, Tryd.results9, go_sem, y0, y1]) rfl ⟨rfl, (by (repeat (first | with_reducible exact BN | with_reducible refine Below.drew ?_ | with_reducible refine below_drewN ?_ _ | with_reducible refine Below.setCell ?_ (by first | (simp; done) | (simp; omega) | omega) _ | with_reducible refine Below.alloc ?_ (by first | (simp; done) | (simp; omega) | omega) _)))⟩)
theorem le_uniq {s : ByteArray} {b t u : Nat} (h : LE s b t) (k : LE s b u) : t = u := by
  have a := le_ge h k.2.1 k.1 k.2.2.1
  have b := le_ge k h.2.1 h.1 h.2.2.1
  omega
theorem find_x (s : ByteArray) (j b t : Nat) (w : World) (hs : s.size ≤ 16000) (hg : Hid (chkFrom s s.size 0 = none)) (hj : j ≤ nl s 0 s.size) (hB : LB s j b) (hE : LE s b t) :
    Calls Tryd.prog 21 #[.string s, .int .i64 ((j : Int) + 1)] w fun e w' => e = .returned (.tuple #[.string (s.extract b t), .int .i64 (b : Int), flt 0 0]) ∧ Below w.heap.size w w' :=
  (find_ok s j w hs hg (Lib.hid hj)).mono fun e w' ⟨b', t', h1, h2, he, hb⟩ => by
    obtain rfl := lb_uniq h1 hB
    obtain rfl := le_uniq h2 hE
    exact ⟨he, hb⟩
theorem lb_ex {s : ByteArray} : ∀ {j : Nat}, j ≤ nl s 0 s.size → ∃ b, LB s j b
  | 0, _ => ⟨0, lb_zero s⟩
  | j + 1, h => by
    obtain ⟨b, hb⟩ := lb_ex (j := j) (Nat.le_of_succ_le h)
    obtain ⟨e, he⟩ := le_ex s hb.1
    exact ⟨e + 1, lb_next hb he (le_lt hb he (Nat.lt_of_succ_le h))⟩
/-- What Line gives. -/
def LinIs (s : ByteArray) (l : Int) (x : ByteArray) (c i : Int) : Prop :=
  (SFB s c i ∧ x = ⟨#[]⟩) ∨ ((s.size ≤ 16000 ∧ chkFrom s s.size 0 = none) ∧ ((∃ j : Nat, l = (j : Int) + 1 ∧ j ≤ nl s 0 s.size ∧ LnAt s j x ∧ c = 0 ∧ i = 0) ∨ ((l < 1 ∨ ((nl s 0 s.size : Nat) : Int) + 1 < l) ∧ x = ⟨#[]⟩ ∧ c = 4 ∧ i = -2)))
theorem lin_all (s : ByteArray) (l : Int) (hz : s.size ≤ 9223372036854775807) : ∃ x c i, LinIs s l x c i ∧ x.size ≤ 16000 ∧ ∀ w, Calls Tryd.prog 9 #[.string s, .int .i64 l] w fun e w' => e = .returned (.tuple #[.string x, flt c i]) ∧ Below w.heap.size w w' := by
  rcases sf_cases s with ⟨hs, hg⟩ | ⟨c, i, h⟩
  · by_cases hl : l < 1 ∨ ((nl s 0 s.size : Nat) : Int) + 1 < l
    · exact ⟨⟨#[]⟩, 4, -2, .inr ⟨⟨hs, hg⟩, .inr ⟨hl, rfl, rfl, rfl⟩⟩, by decide, fun w => line_of s _ l 0 4 (-2) w (by decide) (fun w => find_r s l w hs (Lib.hid hg) hl)⟩
    · obtain ⟨j, hj⟩ := Int.eq_ofNat_of_zero_le (show 0 ≤ l - 1 by omega)
      have hj2 : j ≤ nl s 0 s.size := by omega
      obtain rfl : l = (j : Int) + 1 := by omega
      obtain ⟨b, hB⟩ := lb_ex hj2
      obtain ⟨t, hE⟩ := le_ex s hB.1
      have hx : (s.extract b t).size ≤ 16000 := by rw [ByteArray.size_extract]; omega
      exact ⟨s.extract b t, 0, 0, .inr ⟨⟨hs, hg⟩, .inl ⟨j, rfl, hj2, ⟨b, t, hB, hE, rfl⟩, rfl, rfl⟩⟩, hx, fun w => line_of s _ _ b 0 0 w hx (fun w => find_x s j b t w hs (Lib.hid hg) hj2 hB hE)⟩
  · exact ⟨⟨#[]⟩, c, i, .inl ⟨h, rfl⟩, by decide, fun w => line_of s _ l 0 c i w (by decide) (fun w => find_b s l w hz (Lib.hid h))⟩
/-- What Position gives, and what the reference says of it. -/
def PosAll (s : ByteArray) (o m k c i : Int) : Prop :=
  (∀ w, Calls Tryd.prog 12 #[.string s, .int .i64 o] w fun e w' => e = .returned (.tuple #[.int .i64 m, .int .i64 k, flt c i]) ∧ Below w.heap.size w w') ∧
  (∀ w, Tabs w → Calls Tryd.prog 13 #[.string s, .int .i64 o] w fun e w' => e = .returned (flt c i) ∧ Below w.heap.size w w') ∧
  ((c = 0 ∧ ∀ w, Tabs w → Calls Tryd.prog 14 #[.string s, .int .i64 o] w fun e w' => e = .returned (.tuple #[.int .i64 m, .int .i64 k]) ∧ Below w.heap.size w w') ∨ (1 ≤ c ∧ m = 0 ∧ k = 0))
theorem pos_all (s : ByteArray) (o : Int) (hz : s.size ≤ 9223372036854775807) : ∃ m k c i, PosAll s o m k c i := by
  rcases sf_cases s with ⟨hs, hg⟩ | ⟨c, i, h⟩
  · by_cases h2 : o < 0 ∨ (s.size : Int) < o
    · exact ⟨0, 0, 4, -2, fun w => pos_r s o w hs (Lib.hid hg) h2, fun w hT => pf_r s o w hs (Lib.hid hg) hT h2, .inr ⟨by decide, rfl, rfl⟩⟩
    · obtain ⟨n, rfl⟩ := Int.eq_ofNat_of_zero_le (show 0 ≤ o by omega)
      by_cases h3 : n < s.size ∧ by_ s n / 64 = 2
      · exact ⟨0, 0, 6, -2, fun w => pos_f s n w hs (Lib.hid hg) h3.1 (Lib.hid h3.2), fun w hT => pf_f s n w hs (Lib.hid hg) hT h3.1 (Lib.hid h3.2), .inr ⟨by decide, rfl, rfl⟩⟩
      · have hn : n ≤ s.size := by omega
        have hB : Bd s n := ⟨hn, fun k e => h3 ⟨k, e⟩⟩
        obtain ⟨b, hb0, hbo, hLB, hno⟩ := last_at (s := s) (o := n) hn
        have hP : PosAt s n b := ⟨hbo, hLB, hno⟩
        refine ⟨((nl s 0 n : Nat) : Int) + 1, ((nb s b (n - b) : Nat) : Int) + 1, 0, 0, fun w => ?_, fun w hT => pf_ok s n w hs (Lib.hid hg) hT (Lib.hid hB), .inl ⟨rfl, fun w hT => ?_⟩⟩
        · refine (pos_ok s n w hs (Lib.hid hg) (Lib.hid hB)).mono fun e w' ⟨b', h5, he, hb⟩ => ?_
          obtain rfl := lb_uniq h5.2.1 hLB
          exact ⟨he, hb⟩
        · refine (place_any s n w hs (Lib.hid hg) hn hT).mono fun e w' ⟨l', c', he, h5, _, _, hb⟩ => ?_
          obtain ⟨rfl, rfl⟩ := pi_uniq h5.out ⟨b, hP, rfl, rfl⟩
          exact ⟨he, hb⟩
  · exact ⟨0, 0, c, i, fun w => pos_b s o w hz (Lib.hid h), fun w hT => pf_b s o w (Lib.hid h) hT, .inr ⟨h.code.1, rfl, rfl⟩⟩
/-- What Offset gives is what the reference says. -/
def OffAll (s : ByteArray) (l k o c i : Int) : Prop :=
  (∀ w, Calls Tryd.prog 15 #[.string s, .int .i64 l, .int .i64 k] w fun e w' => e = .returned (.tuple #[.int .i64 o, flt c i]) ∧ Below w.heap.size w w') ∧
  (∀ w, Tabs w → Calls Tryd.prog 16 #[.string s, .int .i64 l, .int .i64 k] w fun e w' => e = .returned (.tuple #[.int .i64 o, flt c i]) ∧ Below w.heap.size w w')
theorem off_all (s : ByteArray) (l k : Int) (hz : s.size ≤ 1048576) : ∃ o c i, OffAll s l k o c i := by
  have hz' : s.size ≤ 9223372036854775807 := by omega
  rcases sf_cases s with ⟨hs, hg⟩ | ⟨c, i, h⟩
  · by_cases hl : l < 1 ∨ ((nl s 0 s.size : Nat) : Int) + 1 < l
    · exact ⟨0, 4, -2, fun w => offset_f s l k w ⟨by decide, by decide⟩ (fun w => locate_f s l k w ⟨by decide, by decide⟩ (fun w => find_r s l w hs (Lib.hid hg) hl)), fun w hT => of_r s l k w hs (Lib.hid hg) hT hl⟩
    · obtain ⟨j, hj⟩ := Int.eq_ofNat_of_zero_le (show 0 ≤ l - 1 by omega)
      have hj2 : j ≤ nl s 0 s.size := by omega
      obtain rfl : l = (j : Int) + 1 := by omega
      obtain ⟨b, hB⟩ := lb_ex hj2
      obtain ⟨t, hE⟩ := le_ex s hB.1
      have hu : ∀ b' t', LB s j b' → LE s b' t' → b' = b ∧ t' = t := fun b' t' h1 h2 => by
        obtain rfl := lb_uniq h1 hB
        exact ⟨rfl, le_uniq h2 hE⟩
      by_cases hk : k < 1 ∨ ((nb s b (t - b) : Nat) : Int) + 1 < k
      · have hk2 : ∀ b' t', LB s j b' → LE s b' t' → k < 1 ∨ ((nb s b' (t' - b') : Nat) : Int) + 1 < k := fun b' t' h1 h2 => by
          obtain ⟨rfl, rfl⟩ := hu b' t' h1 h2
          exact hk
        exact ⟨0, 4, -3, fun w => offset_f s _ k w ⟨by decide, by decide⟩ (fun w => locate_r s j k w hs (Lib.hid hg) (Lib.hid hj2) (Lib.hid hk2)), fun w hT => of_c s j k w hs (Lib.hid hg) hT hj2 (Lib.hid hk2)⟩
      · obtain ⟨q, hq⟩ := Int.eq_ofNat_of_zero_le (show 0 ≤ k - 1 by omega)
        obtain rfl : k = (q : Int) + 1 := by omega
        obtain ⟨o, h1, h2, h3, h4⟩ := off_ex hB hE (c := q) (by omega)
        subst h3
        subst h4
        have hk2 : ∀ b' t', LB s (nl s 0 o) b' → LE s b' t' → nb s b (o - b) ≤ nb s b' (t' - b') := fun b' t' h5 h6 => (col_le (good_of hg) h1 h2 b' t' h5 h6).2.2
        exact ⟨o, 0, 0, fun w => offset_ok s o b w hs (Lib.hid hg) (Lib.hid h1) (Lib.hid h2), fun w hT => of_ok s o (nl s 0 o) (nb s b (o - b)) w hs (Lib.hid hg) hT (Lib.hid h1) (Lib.hid ⟨b, h2, rfl, rfl⟩) hj2 (Lib.hid hk2)⟩
  · exact ⟨0, c, i, fun w => offset_f s l k w h.code (fun w => locate_f s l k w h.code (fun w => find_b s l w hz' (Lib.hid h))), fun w hT => of_b s l k w hz (Lib.hid h) hT⟩
end Go.Proofs.YtlohapafpgihaaaDoor
