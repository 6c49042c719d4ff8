/- The examples of package rational. -/
import Derived.Test.YtfgkhdpdjclmkaaGreatBs
import Derived.Deep.DeepCutAuto
namespace Go.Proofs.YtfgkhdpdjclmkaaGreat
open Go.RowKit
set_option maxHeartbeats 400000
set_option maxRecDepth 100000
set_option linter.unusedSimpArgs false
set_option linter.unusedVariables false

theorem text22 {s : List UInt8} (h : TextIs 22 10 s) : s = [50, 50] := by
  refine h.uniq (by decide) ⟨[2, 2], ⟨?_, by decide, ?_⟩, by decide⟩
  · intro x hx; simp at hx; omega
  · intro m hm; obtain rfl : m = 1 := by simpa using hm.symm
    decide
theorem text7 {s : List UInt8} (h : TextIs 7 10 s) : s = [55] := by
  refine h.uniq (by decide) ⟨[7], ⟨?_, by decide, ?_⟩, by decide⟩
  · intro x hx; simp at hx; omega
  · intro m hm; obtain rfl : m = 0 := by simpa using hm.symm
    decide
theorem nqd {w w' : World} (h : Below (w.drew.alloc (.cells #[.bool false, .slice none 0 0, .bool false, .slice none 0 0] 26)).heap.size (w.drew.alloc (.cells #[.bool false, .slice none 0 0, .bool false, .slice none 0 0] 26)) w') : Bk4 w' w.heap.size (.bool false) (.slice none 0 0) (.bool false) (.slice none 0 0) := (Bk4.newAt w.drew w.heap.size rfl _ _ _ _ _).below h (by simp)
theorem nfd {w w' : World} (h : Below (w.drew.alloc (.cells #[.int .i64 0, .int .i64 0] 28)).heap.size (w.drew.alloc (.cells #[.int .i64 0, .int .i64 0] 28)) w') : Bk2 w' w.heap.size (.int .i64 0) (.int .i64 0) := (Bk2.newAt w.drew w.heap.size rfl _ _ _).below h (by simp)
theorem nqfd {w w' : World} (h : Below ((w.drew.alloc (.cells #[.bool false, .slice none 0 0, .bool false, .slice none 0 0] 26)).alloc (.cells #[.int .i64 0, .int .i64 0] 28)).heap.size ((w.drew.alloc (.cells #[.bool false, .slice none 0 0, .bool false, .slice none 0 0] 26)).alloc (.cells #[.int .i64 0, .int .i64 0] 28)) w') : Bk4 w' w.heap.size (.bool false) (.slice none 0 0) (.bool false) (.slice none 0 0) ∧ Bk2 w' (w.heap.size + 1) (.int .i64 0) (.int .i64 0) := ⟨((Bk4.newAt w.drew w.heap.size rfl _ _ _ _ _).alloc _).below h (by simp; omega), (Bk2.newAt _ _ (by simp) _ _ _).below h (by simp)⟩
theorem nfqd {w w' : World} (h : Below ((w.drew.alloc (.cells #[.int .i64 0, .int .i64 0] 28)).alloc (.cells #[.bool false, .slice none 0 0, .bool false, .slice none 0 0] 26)).heap.size ((w.drew.alloc (.cells #[.int .i64 0, .int .i64 0] 28)).alloc (.cells #[.bool false, .slice none 0 0, .bool false, .slice none 0 0] 26)) w') : Bk2 w' w.heap.size (.int .i64 0) (.int .i64 0) ∧ Bk4 w' (w.heap.size + 1) (.bool false) (.slice none 0 0) (.bool false) (.slice none 0 0) := ⟨((Bk2.newAt w.drew w.heap.size rfl _ _ _).alloc _).below h (by simp; omega), (Bk4.newAt _ _ (by simp) _ _ _ _ _).below h (by simp)⟩
theorem nq {w w' : World} (h : Below (w.alloc (.cells #[.bool false, .slice none 0 0, .bool false, .slice none 0 0] 26)).heap.size (w.alloc (.cells #[.bool false, .slice none 0 0, .bool false, .slice none 0 0] 26)) w') : Bk4 w' w.heap.size (.bool false) (.slice none 0 0) (.bool false) (.slice none 0 0) := (Bk4.newAt w w.heap.size rfl _ _ _ _ _).below h (by simp)
theorem nf {w w' : World} (h : Below (w.alloc (.cells #[.int .i64 0, .int .i64 0] 28)).heap.size (w.alloc (.cells #[.int .i64 0, .int .i64 0] 28)) w') : Bk2 w' w.heap.size (.int .i64 0) (.int .i64 0) := (Bk2.newAt w w.heap.size rfl _ _ _).below h (by simp)
theorem nqf {w w' : World} (h : Below ((w.alloc (.cells #[.bool false, .slice none 0 0, .bool false, .slice none 0 0] 26)).alloc (.cells #[.int .i64 0, .int .i64 0] 28)).heap.size ((w.alloc (.cells #[.bool false, .slice none 0 0, .bool false, .slice none 0 0] 26)).alloc (.cells #[.int .i64 0, .int .i64 0] 28)) w') : Bk4 w' w.heap.size (.bool false) (.slice none 0 0) (.bool false) (.slice none 0 0) ∧ Bk2 w' (w.heap.size + 1) (.int .i64 0) (.int .i64 0) := ⟨((Bk4.newAt w w.heap.size rfl _ _ _ _ _).alloc _).below h (by simp; omega), (Bk2.newAt _ _ (by simp) _ _ _).below h (by simp)⟩
theorem nfq {w w' : World} (h : Below ((w.alloc (.cells #[.int .i64 0, .int .i64 0] 28)).alloc (.cells #[.bool false, .slice none 0 0, .bool false, .slice none 0 0] 26)).heap.size ((w.alloc (.cells #[.int .i64 0, .int .i64 0] 28)).alloc (.cells #[.bool false, .slice none 0 0, .bool false, .slice none 0 0] 26)) w') : Bk2 w' w.heap.size (.int .i64 0) (.int .i64 0) ∧ Bk4 w' (w.heap.size + 1) (.bool false) (.slice none 0 0) (.bool false) (.slice none 0 0) := ⟨((Bk2.newAt w w.heap.size rfl _ _ _).alloc _).below h (by simp; omega), (Bk4.newAt _ _ (by simp) _ _ _ _ _).below h (by simp)⟩
def PtR (V : World) (s t : Value) (wx : World) : Prop :=
  ∃ (g h : Nat) (z : RV), s = .pointer (some ⟨g, 0, none⟩) ∧ t = .pointer (some ⟨h, 0, none⟩) ∧ Bk4 wx g (.bool z.num.neg) (.slice z.num.A z.num.n z.num.c) (.bool z.den.neg) (.slice z.den.A z.den.n z.den.c) ∧ Bk2 wx h (.int .i64 0) (.int .i64 0) ∧ z.at wx wx.heap.size ∧ Hid (IRep z.num.neg z.num.xs 22) ∧ Hid (IRep z.den.neg z.den.xs 7) ∧ V.heap.size ≤ g ∧ V.heap.size ≤ h ∧ Below V.heap.size V wx
section
variable {V u : World} {z : RV} {g h : Nat} (H : z.at u u.heap.size) (I : Hid (IRep z.num.neg z.num.xs 22)) (J : Hid (IRep z.den.neg z.den.xs 7)) (b : Below V.heap.size V u)
include H I J b
theorem pt_aa : PtR V (.pointer (some ⟨u.heap.size, 0, none⟩)) (.pointer (some ⟨u.heap.size + 1, 0, none⟩)) ((u.alloc (.cells #[.bool z.num.neg, .slice z.num.A z.num.n z.num.c, .bool z.den.neg, .slice z.den.A z.den.n z.den.c] 26)).alloc (.cells #[.int .i64 0, .int .i64 0] 28)) :=
  ⟨_, _, z, rfl, rfl, (Bk4.newAt _ _ rfl _ _ _ _ _).alloc _, Bk2.newAt _ _ (by simp) _ _ _, rv_at (LRd.more ((LRd.alloc H.1 (Nat.le_refl _) _).alloc (by simp) _) (by simp; omega)) (LRd.more ((LRd.alloc H.2 (Nat.le_refl _) _).alloc (by simp) _) (by simp; omega)), I, J, b.size, by have := b.size; omega, (b.alloc b.size _).alloc (by have := b.size; simp; omega) _⟩
theorem pt_bb : PtR V (.pointer (some ⟨u.heap.size + 1, 0, none⟩)) (.pointer (some ⟨u.heap.size, 0, none⟩)) ((u.alloc (.cells #[.int .i64 0, .int .i64 0] 28)).alloc (.cells #[.bool z.num.neg, .slice z.num.A z.num.n z.num.c, .bool z.den.neg, .slice z.den.A z.den.n z.den.c] 26)) :=
  ⟨_, _, z, rfl, rfl, Bk4.newAt _ _ (by simp) _ _ _ _ _, (Bk2.newAt _ _ rfl _ _ _).alloc _, rv_at (LRd.more ((LRd.alloc H.1 (Nat.le_refl _) _).alloc (by simp) _) (by simp; omega)) (LRd.more ((LRd.alloc H.2 (Nat.le_refl _) _).alloc (by simp) _) (by simp; omega)), I, J, by have := b.size; omega, b.size, (b.alloc b.size _).alloc (by have := b.size; simp; omega) _⟩
theorem pt_oa (G : Bk4 u g (.bool false) (.slice none 0 0) (.bool false) (.slice none 0 0)) (hg : V.heap.size ≤ g) : PtR V (.pointer (some ⟨g, 0, none⟩)) (.pointer (some ⟨u.heap.size, 0, none⟩)) (((((u.setCell ⟨g, 0, none⟩ (.bool z.num.neg)).setCell ⟨g, 1, none⟩ (.slice z.num.A z.num.n z.num.c)).setCell ⟨g, 2, none⟩ (.bool z.den.neg)).setCell ⟨g, 3, none⟩ (.slice z.den.A z.den.n z.den.c)).alloc (.cells #[.int .i64 0, .int .i64 0] 28)) :=
  ⟨_, _, z, rfl, rfl, (G.set _ _ _ _).alloc _, Bk2.newAt _ _ (by simp [World.setCell]) _ _ _, rv_at (LRd.more ((LRd.set4 H.1 G (by simp) (by simp) (by simp) (by simp) _ _ _ _).alloc (by simp [World.setCell]) _) (by simp [World.setCell])) (LRd.more ((LRd.set4 H.2 G (by simp) (by simp) (by simp) (by simp) _ _ _ _).alloc (by simp [World.setCell]) _) (by simp [World.setCell])), I, J, hg, b.size, ((((b.setCell (p := ⟨g, 0, none⟩) hg _).setCell (p := ⟨g, 1, none⟩) hg _).setCell (p := ⟨g, 2, none⟩) hg _).setCell (p := ⟨g, 3, none⟩) hg _).alloc (by have := b.size; simp [World.setCell]; omega) _⟩
theorem pt_ao (F : Bk2 u h (.int .i64 0) (.int .i64 0)) (hh : V.heap.size ≤ h) : PtR V (.pointer (some ⟨u.heap.size, 0, none⟩)) (.pointer (some ⟨h, 0, none⟩)) (((u.setCell ⟨h, 0, none⟩ (.int .i64 0)).setCell ⟨h, 1, none⟩ (.int .i64 0)).alloc (.cells #[.bool z.num.neg, .slice z.num.A z.num.n z.num.c, .bool z.den.neg, .slice z.den.A z.den.n z.den.c] 26)) :=
  ⟨_, _, z, rfl, rfl, Bk4.newAt _ _ (by simp [World.setCell]) _ _ _ _ _, (F.set _ _).alloc _, rv_at (LRd.more ((LRd.setB H.1 F (by simp) (by simp) _ _).alloc (by simp [World.setCell]) _) (by simp [World.setCell])) (LRd.more ((LRd.setB H.2 F (by simp) (by simp) _ _).alloc (by simp [World.setCell]) _) (by simp [World.setCell])), I, J, b.size, hh, ((b.setCell (p := ⟨h, 0, none⟩) hh _).setCell (p := ⟨h, 1, none⟩) hh _).alloc (by have := b.size; simp [World.setCell]; omega) _⟩
theorem pt_oo (G : Bk4 u g (.bool false) (.slice none 0 0) (.bool false) (.slice none 0 0)) (F : Bk2 u h (.int .i64 0) (.int .i64 0)) (hg : V.heap.size ≤ g) (hh : V.heap.size ≤ h) (hne : g ≠ h) : PtR V (.pointer (some ⟨g, 0, none⟩)) (.pointer (some ⟨h, 0, none⟩)) ((((((u.setCell ⟨g, 0, none⟩ (.bool z.num.neg)).setCell ⟨g, 1, none⟩ (.slice z.num.A z.num.n z.num.c)).setCell ⟨g, 2, none⟩ (.bool z.den.neg)).setCell ⟨g, 3, none⟩ (.slice z.den.A z.den.n z.den.c)).setCell ⟨h, 0, none⟩ (.int .i64 0)).setCell ⟨h, 1, none⟩ (.int .i64 0)) := by
  have G' := G.set (.bool z.num.neg) (.slice z.num.A z.num.n z.num.c) (.bool z.den.neg) (.slice z.den.A z.den.n z.den.c)
  have F' := F.far4 hne (.bool z.num.neg) (.slice z.num.A z.num.n z.num.c) (.bool z.den.neg) (.slice z.den.A z.den.n z.den.c)
  exact ⟨_, _, z, rfl, rfl, G'.far2 (Ne.symm hne) _ _, F'.set _ _, rv_at (LRd.more (LRd.setB (LRd.set4 H.1 G (by simp) (by simp) (by simp) (by simp) _ _ _ _) F' (by simp) (by simp) _ _) (by simp [World.setCell])) (LRd.more (LRd.setB (LRd.set4 H.2 G (by simp) (by simp) (by simp) (by simp) _ _ _ _) F' (by simp) (by simp) _ _) (by simp [World.setCell])), I, J, hg, hh, (((((b.setCell (p := ⟨g, 0, none⟩) hg _).setCell (p := ⟨g, 1, none⟩) hg _).setCell (p := ⟨g, 2, none⟩) hg _).setCell (p := ⟨g, 3, none⟩) hg _).setCell (p := ⟨h, 0, none⟩) hh _).setCell (p := ⟨h, 1, none⟩) hh _⟩
end
/-- The nearest ratio of the example. -/
theorem near10 (w : World) (B : Nat) (y : RV) (n : Bool) (D : Option Addr) (l d : Nat) (ys : List Nat) (H : y.at w B) (hB : B ≤ w.heap.size) (HM : LRd w B D l d ys) (hB2 : B ≤ w.heap.size) (hf : rfault [y] 0 = (0, 0)) (Ny : Hid (IRep y.num.neg y.num.xs 355)) (Dy : Hid (IRep y.den.neg y.den.xs 113)) (J : Hid (IRep n ys 10)) (HBD : Hid ((355 : Int).natAbs < Top128 ∧ (113 : Int).natAbs < Top128 ∧ (10 : Int).natAbs < Top128)) :
    Calls Tryz.prog 44 #[y.v, intv n D l d] w (fun e w' => ∃ z : RV, e = .returned (.tuple #[z.v, flt 0 0]) ∧ z.at w' w'.heap.size ∧ IRep z.num.neg z.num.xs 22 ∧ IRep z.den.neg z.den.xs 7 ∧ Below w.heap.size w w') := by
  obtain rfl : n = false := by rw [J.out.sgn]; rfl
  have hl : ys.length ≠ 0 := fun h => by have := (IRep.len0 J.out).1 h; omega
  have h := nearest_any w B y D l d ys 355 113 10 H HM hB hf (Lib.hid (J.out.iok HBD.out.2.2)) (decide_eq_false (by have := HM.len.out; omega)) Ny Dy J (by decide) (by decide) HBD
  rw [near_parts] at h
  exact h.mono fun e w' ⟨m, A, k, c, xs, m', D, l, d, ys, he, h1, h2, h3, h4, h5⟩ => ⟨⟨⟨m, A, k, c, xs⟩, ⟨m', D, l, d, ys⟩⟩, he, ⟨h1, h2⟩, h3, h4, h5⟩
set_option maxHeartbeats 40000000 in
theorem parts_any (w : World) : Calls Tryz.prog 14 #[] w (fun e w' => e = .returned (.bool true) ∧ Below w.heap.size w w') := by
  have E : Below w.heap.size w w := Below.refl _ _
  go_enter Tryz.func14, Tryz.ntmps14
  go_wp2_with fail
  (with_reducible refine (iof_any _ (6) (by decide) (by decide)).mono ?_)
  rintro e w1 ⟨m1, A1, k1, c1, x1, rfl, hl1, hr1, hb1⟩
  have sw1 := hb1.size
  replace E := E.trans (hb1.mono E.size)
  clear hb1
  have I1 := Lib.hid hr1
  clear hr1
  go_wp2_with fail
  (with_reducible refine (iof_any _ (-4) (by decide) (by decide)).mono ?_)
  rintro e w2 ⟨m2, A2, k2, c2, x2, rfl, hl2, hr2, hb2⟩
  have sw2 := hb2.size
  replace E := E.trans (hb2.mono E.size)
  replace hl1 := hl1.below hb2 (by omega)
  clear hb2
  have I2 := Lib.hid hr2
  clear hr2
  go_wp2_with fail
  (with_reducible refine (rmake_x _ w2.heap.size (IV.mk m1 A1 k1 c1 x1) (IV.mk m2 A2 k2 c2 x2) (6) (-4) (hl1.more (by omega)) hl2 (Nat.le_refl _) I1.out I2.out (lt_top (by decide)) (lt_top (by decide)) (by decide)).mono ?_)
  rintro e w3 ⟨x, rfl, hx, ox, cx, px, _, _, hb3⟩
  have sw3 := hb3.size
  replace E := E.trans (hb3.mono E.size)
  replace hl1 := hl1.below hb3 (by omega)
  replace hl2 := hl2.below hb3 (by omega)
  clear hb3
  have Ux := low_uniq (n' := -3) (d' := 2) (by omega) px (by decide) (rv_low ox hx) (by decide)
  have Nx := Lib.hid (RV.val ox hx).num
  have Dx := Lib.hid (RV.val ox hx).den
  rw [Ux.1] at Nx
  rw [Ux.2] at Dx
  have Hx1 : LRd w3 w3.heap.size x.num.A x.num.n x.num.c x.num.xs := hx.1
  have Hx2 : LRd w3 w3.heap.size x.den.A x.den.n x.den.c x.den.xs := hx.2
  have Ox := Lib.hid ox
  clear hx cx px Ux ox
  clear hl1 hl2
  go_wp2_with fail
  obtain ⟨V3, hV3⟩ : ∃ V3 : World, V3 = ((w3.alloc (.cells #[.bool x.num.neg, .slice x.num.A x.num.n x.num.c, .bool x.den.neg, .slice x.den.A x.den.n x.den.c] 26)).alloc (.cells #[.int .i64 0, .int .i64 0] 28)) := ⟨_, rfl⟩
  have bV3 : Below w3.heap.size w3 V3 := by rw [hV3]; (repeat (first | with_reducible exact Below.refl _ _ | with_reducible refine Below.alloc ?_ (by first | (simp <;> omega) | omega) _))
  have zV3 : w3.heap.size + 2 ≤ V3.heap.size := by rw [hV3]; simp
  have P1 : Bk4 V3 (w3.heap.size) (.bool x.num.neg) (.slice x.num.A x.num.n x.num.c) (.bool x.den.neg) (.slice x.den.A x.den.n x.den.c) := by rw [hV3]; exact ((Bk4.newAt _ _ (by first | omega | (simp; done) | (simp; omega)) _ _ _ _ _).alloc _)
  have F2 : Bk2 V3 (w3.heap.size + 1) (.int .i64 0) (.int .i64 0) := by rw [hV3]; exact (Bk2.newAt _ _ (by first | omega | (simp; done) | (simp; omega)) _ _ _)
  rw [← hV3]
  clear hV3
  replace E := E.trans (bV3.mono E.size)
  replace Hx1 := Hx1.below bV3 (by omega)
  replace Hx2 := Hx2.below bV3 (by omega)
  clear bV3
  (with_reducible refine (iof_any _ (355) (by decide) (by decide)).mono ?_)
  rintro e w4 ⟨m4, A4, k4, c4, x4, rfl, hl4, hr4, hb4⟩
  have sw4 := hb4.size
  replace E := E.trans (hb4.mono E.size)
  replace Hx1 := Hx1.below hb4 (by omega)
  replace Hx2 := Hx2.below hb4 (by omega)
  replace P1 := P1.below hb4 P1.lt
  replace F2 := F2.below hb4 F2.lt
  clear hb4
  have I4 := Lib.hid hr4
  clear hr4
  go_wp2_with fail
  (with_reducible refine (iof_any _ (113) (by decide) (by decide)).mono ?_)
  rintro e w5 ⟨m5, A5, k5, c5, x5, rfl, hl5, hr5, hb5⟩
  have sw5 := hb5.size
  replace E := E.trans (hb5.mono E.size)
  replace Hx1 := Hx1.below hb5 (by omega)
  replace Hx2 := Hx2.below hb5 (by omega)
  replace P1 := P1.below hb5 P1.lt
  replace F2 := F2.below hb5 F2.lt
  replace hl4 := hl4.below hb5 (by omega)
  clear hb5
  have I5 := Lib.hid hr5
  clear hr5
  go_wp2_with fail
  (with_reducible refine (rmake_x _ w5.heap.size (IV.mk m4 A4 k4 c4 x4) (IV.mk m5 A5 k5 c5 x5) (355) (113) (hl4.more (by omega)) hl5 (Nat.le_refl _) I4.out I5.out (lt_top (by decide)) (lt_top (by decide)) (by decide)).mono ?_)
  rintro e w6 ⟨y, rfl, hy, oy, cy, py, _, _, hb6⟩
  have sw6 := hb6.size
  replace E := E.trans (hb6.mono E.size)
  replace Hx1 := Hx1.below hb6 (by omega)
  replace Hx2 := Hx2.below hb6 (by omega)
  replace P1 := P1.below hb6 P1.lt
  replace F2 := F2.below hb6 F2.lt
  replace hl4 := hl4.below hb6 (by omega)
  replace hl5 := hl5.below hb6 (by omega)
  clear hb6
  have Uy := low_uniq (n' := 355) (d' := 113) (by omega) py (by decide) (rv_low oy hy) (by decide)
  have Ny := Lib.hid (RV.val oy hy).num
  have Dy := Lib.hid (RV.val oy hy).den
  rw [Uy.1] at Ny
  rw [Uy.2] at Dy
  have Hy1 : LRd w6 w6.heap.size y.num.A y.num.n y.num.c y.num.xs := hy.1
  have Hy2 : LRd w6 w6.heap.size y.den.A y.den.n y.den.c y.den.xs := hy.2
  have Oy := Lib.hid oy
  clear hy cy py Uy oy
  clear hl4 hl5
  go_upto_region 3 with fail
  obtain ⟨V6, hV6⟩ : ∃ V6 : World, V6 = ((w6.alloc (.cells #[.bool y.num.neg, .slice y.num.A y.num.n y.num.c, .bool y.den.neg, .slice y.den.A y.den.n y.den.c] 26)).alloc (.cells #[.int .i64 0, .int .i64 0] 28)) := ⟨_, rfl⟩
  have bV6 : Below w6.heap.size w6 V6 := by rw [hV6]; (repeat (first | with_reducible exact Below.refl _ _ | with_reducible refine Below.alloc ?_ (by first | (simp <;> omega) | omega) _))
  have zV6 : w6.heap.size + 2 ≤ V6.heap.size := by rw [hV6]; simp
  have P3 : Bk4 V6 (w6.heap.size) (.bool y.num.neg) (.slice y.num.A y.num.n y.num.c) (.bool y.den.neg) (.slice y.den.A y.den.n y.den.c) := by rw [hV6]; exact ((Bk4.newAt _ _ (by first | omega | (simp; done) | (simp; omega)) _ _ _ _ _).alloc _)
  have F4 : Bk2 V6 (w6.heap.size + 1) (.int .i64 0) (.int .i64 0) := by rw [hV6]; exact (Bk2.newAt _ _ (by first | omega | (simp; done) | (simp; omega)) _ _ _)
  rw [← hV6]
  clear hV6
  replace E := E.trans (bV6.mono E.size)
  replace Hx1 := Hx1.below bV6 (by omega)
  replace Hx2 := Hx2.below bV6 (by omega)
  replace P1 := P1.below bV6 P1.lt
  replace F2 := F2.below bV6 F2.lt
  replace Hy1 := Hy1.below bV6 (by omega)
  replace Hy2 := Hy2.below bV6 (by omega)
  clear bV6
  have hf := rone_ok Oy.out
  have HBD := Lib.hid (show (355 : Int).natAbs < Top128 ∧ (113 : Int).natAbs < Top128 ∧ (10 : Int).natAbs < Top128 from ⟨lt_top (by decide), lt_top (by decide), lt_top (by decide)⟩)
  go_cut [5, 6] (fun s5 s6 wx => PtR V6 s5 s6 wx)
  case first =>
    as_aux_lemma =>
      have lt_P3 := P3.lt
      have HS := Lib.hid (fun (u : World) (hu : Below V6.heap.size V6 u) => (⟨(hu.cell (p := ⟨w6.heap.size, 0, none⟩) (by show w6.heap.size < _; omega)).trans P3.c0, (hu.cell (p := ⟨w6.heap.size, 1, none⟩) (by show w6.heap.size < _; omega)).trans P3.c1, (hu.cell (p := ⟨w6.heap.size, 2, none⟩) (by show w6.heap.size < _; omega)).trans P3.c2, (hu.cell (p := ⟨w6.heap.size, 3, none⟩) (by show w6.heap.size < _; omega)).trans P3.c3⟩ : u.cell? ⟨w6.heap.size, 0, none⟩ = some (.bool y.num.neg) ∧ u.cell? ⟨w6.heap.size, 1, none⟩ = some (.slice y.num.A y.num.n y.num.c) ∧ u.cell? ⟨w6.heap.size, 2, none⟩ = some (.bool y.den.neg) ∧ u.cell? ⟨w6.heap.size, 3, none⟩ = some (.slice y.den.A y.den.n y.den.c)))
      have G0 : Below V6.heap.size V6 V6.drew := Below.drew (Below.refl _ _)
      go_region_held3 (fun u => u.cell? ⟨w6.heap.size, 0, none⟩ = some (.bool y.num.neg) ∧ u.cell? ⟨w6.heap.size, 1, none⟩ = some (.slice y.num.A y.num.n y.num.c) ∧ u.cell? ⟨w6.heap.size, 2, none⟩ = some (.bool y.den.neg) ∧ u.cell? ⟨w6.heap.size, 3, none⟩ = some (.slice y.den.A y.den.n y.den.c))
        (first | exact HS.out _ (by (repeat (first | with_reducible exact G0 | with_reducible exact B2 | with_reducible exact B1 | with_reducible exact Below.refl _ _ | with_reducible refine Below.drew ?_ | with_reducible refine Below.alloc ?_ (by first | (simp <;> omega) | omega) _ | with_reducible refine Below.setCell ?_ (by first | (simp <;> omega) | omega) _))) | fail)
        (first
          | (go_at_call 63; (with_reducible refine (iof_any _ (10) (by decide) (by decide)).mono ?_); rintro e u1 ⟨n1, D1, l1, d1, y1, rfl, hm1, hs1, hb1⟩; have B1 : Below V6.heap.size V6 u1 := (by refine bnext ?_ hb1; (repeat (first | with_reducible exact G0 | with_reducible exact B2 | with_reducible exact B1 | with_reducible exact Below.refl _ _ | with_reducible refine Below.drew ?_ | with_reducible refine Below.alloc ?_ (by first | (simp <;> omega) | omega) _ | with_reducible refine Below.setCell ?_ (by first | (simp <;> omega) | omega) _))); have b1s := B1.size; have J1 := Lib.hid hs1; clear hs1; (first | (have t1 := nqfd hb1; have Q1 := t1.1; have F1n := t1.2; obtain ⟨_, _, _, _, _, _, _, _, _⟩ := id Q1; obtain ⟨_, _, _, _, _⟩ := id F1n) | (have t1 := nfqd hb1; have Q1 := t1.2; have F1n := t1.1; obtain ⟨_, _, _, _, _, _, _, _, _⟩ := id Q1; obtain ⟨_, _, _, _, _⟩ := id F1n) | (have Q1 := nqd hb1; obtain ⟨_, _, _, _, _, _, _, _, _⟩ := id Q1) | (have F1n := nfd hb1; obtain ⟨_, _, _, _, _⟩ := id F1n) | (have t1 := nqf hb1; have Q1 := t1.1; have F1n := t1.2; obtain ⟨_, _, _, _, _, _, _, _, _⟩ := id Q1; obtain ⟨_, _, _, _, _⟩ := id F1n) | (have t1 := nfq hb1; have Q1 := t1.2; have F1n := t1.1; obtain ⟨_, _, _, _, _, _, _, _, _⟩ := id Q1; obtain ⟨_, _, _, _, _⟩ := id F1n) | (have Q1 := nq hb1; obtain ⟨_, _, _, _, _, _, _, _, _⟩ := id Q1) | (have F1n := nf hb1; obtain ⟨_, _, _, _, _⟩ := id F1n) | skip))
          | (go_at_call 44; (with_reducible refine (near10 _ u1.heap.size y n1 D1 l1 d1 y1 (rv_at (LRd.more (B := V6.heap.size) (LRd.below (Hy1.more (by omega)) (B' := V6.heap.size) (by (repeat (first | with_reducible exact G0 | with_reducible exact B2 | with_reducible exact B1 | with_reducible exact Below.refl _ _ | with_reducible refine Below.drew ?_ | with_reducible refine Below.alloc ?_ (by first | (simp <;> omega) | omega) _ | with_reducible refine Below.setCell ?_ (by first | (simp <;> omega) | omega) _))) (Nat.le_refl _)) (by omega)) (LRd.more (B := V6.heap.size) (LRd.below (Hy2.more (by omega)) (B' := V6.heap.size) (by (repeat (first | with_reducible exact G0 | with_reducible exact B2 | with_reducible exact B1 | with_reducible exact Below.refl _ _ | with_reducible refine Below.drew ?_ | with_reducible refine Below.alloc ?_ (by first | (simp <;> omega) | omega) _ | with_reducible refine Below.setCell ?_ (by first | (simp <;> omega) | omega) _))) (Nat.le_refl _)) (by omega))) (by first | (simp <;> omega) | omega) (LRd.below hm1 (B' := u1.heap.size) (by (repeat (first | with_reducible exact Below.refl _ _ | with_reducible refine Below.alloc ?_ (by first | (simp <;> omega) | omega) _))) (Nat.le_refl _)) (by first | (simp <;> omega) | omega) hf Ny Dy J1 HBD).mono ?_); rintro e u2 ⟨z, rfl, HZ, i22, i7, hb2⟩; have I22 := Lib.hid i22; have I7 := Lib.hid i7; clear i22 i7; have K12 : Below u1.heap.size u1 u2 := (by refine bnext ?_ hb2; (repeat (first | with_reducible exact Below.refl _ _ | with_reducible refine Below.alloc ?_ (by first | (simp <;> omega) | omega) _))); have B2 : Below V6.heap.size V6 u2 := bnext B1 K12; have b2s := B2.size; (first | (have t2 := nqfd hb2; have Q2 := t2.1; have F2n := t2.2; obtain ⟨_, _, _, _, _, _, _, _, _⟩ := id Q2; obtain ⟨_, _, _, _, _⟩ := id F2n) | (have t2 := nfqd hb2; have Q2 := t2.2; have F2n := t2.1; obtain ⟨_, _, _, _, _, _, _, _, _⟩ := id Q2; obtain ⟨_, _, _, _, _⟩ := id F2n) | (have Q2 := nqd hb2; obtain ⟨_, _, _, _, _, _, _, _, _⟩ := id Q2) | (have F2n := nfd hb2; obtain ⟨_, _, _, _, _⟩ := id F2n) | (have t2 := nqf hb2; have Q2 := t2.1; have F2n := t2.2; obtain ⟨_, _, _, _, _, _, _, _, _⟩ := id Q2; obtain ⟨_, _, _, _, _⟩ := id F2n) | (have t2 := nfq hb2; have Q2 := t2.2; have F2n := t2.1; obtain ⟨_, _, _, _, _, _, _, _, _⟩ := id Q2; obtain ⟨_, _, _, _, _⟩ := id F2n) | (have Q2 := nq hb2; obtain ⟨_, _, _, _, _, _, _, _, _⟩ := id Q2) | (have F2n := nf hb2; obtain ⟨_, _, _, _, _⟩ := id F2n) | skip); (first | (have Q2o := Q1.below K12 Q1.lt; obtain ⟨_, _, _, _, _, _, _, _, _⟩ := id Q2o) | skip); (first | (have F2o := F1n.below K12 F1n.lt; obtain ⟨_, _, _, _, _⟩ := id F2o) | skip))
          | fail)
      all_goals (go_wp2_with fail)
      all_goals go_meet
      all_goals first
        | with_reducible exact pt_aa HZ I22 I7 B2
        | with_reducible exact pt_bb HZ I22 I7 B2
        | with_reducible exact pt_oa HZ I22 I7 B2 (by with_reducible assumption) (by omega)
        | with_reducible exact pt_ao HZ I22 I7 B2 (by with_reducible assumption) (by omega)
        | with_reducible exact pt_oo HZ I22 I7 B2 (by with_reducible assumption) (by with_reducible assumption) (by omega) (by omega) (by omega)
        | fail
  case rest =>
  obtain ⟨g5, g6, z, rfl, rfl, P5, F6, HZ, I22, I7, hg5, hg6, hbX⟩ := hcut
  replace E := E.trans (hbX.mono E.size)
  replace Hx1 := Hx1.below hbX (by omega)
  replace Hx2 := Hx2.below hbX (by omega)
  replace P1 := P1.below hbX P1.lt
  replace F2 := F2.below hbX F2.lt
  replace Hy1 := Hy1.below hbX (by omega)
  replace Hy2 := Hy2.below hbX (by omega)
  replace P3 := P3.below hbX P3.lt
  replace F4 := F4.below hbX F4.lt
  have sX := hbX.size
  clear hbX hf HBD
  obtain ⟨V7, hV7⟩ : ∃ y : World, y = wc := ⟨_, rfl⟩
  subst hV7
  have oz := rv_ok I22.out I7.out HZ.2.len.out (lt_top (by decide)) (lt_top (by decide)) (by decide) (by decide)
  have vz := rv_vals I22.out I7.out
  have tz := rtext_two _ V7.heap.size z HZ (Nat.le_refl _) oz (by rw [vz.2]; decide)
  rw [vz.1, vz.2] at tz
  have TZ := Lib.hid tz
  clear tz oz vz HZ
  have t_P50 := P5.c0
  have t_P51 := P5.c1
  have t_P52 := P5.c2
  have t_P53 := P5.c3
  go_wp2_with fail
  clear t_P50 t_P51 t_P52 t_P53
  (with_reducible refine (TZ.out).mono ?_)
  rintro e w8 ⟨s1, s2, hs1, hs2, rfl, hb8⟩
  have sw8 := hb8.size
  replace E := E.trans (hb8.mono E.size)
  replace Hx1 := Hx1.below hb8 (by omega)
  replace Hx2 := Hx2.below hb8 (by omega)
  replace P1 := P1.below hb8 P1.lt
  replace F2 := F2.below hb8 F2.lt
  replace Hy1 := Hy1.below hb8 (by omega)
  replace Hy2 := Hy2.below hb8 (by omega)
  replace P3 := P3.below hb8 P3.lt
  replace F4 := F4.below hb8 F4.lt
  replace P5 := P5.below hb8 P5.lt
  replace F6 := F6.below hb8 F6.lt
  clear hb8
  obtain rfl := text22 hs1
  obtain rfl := text7 hs2
  clear hs1 hs2
  go_upto_region 5 with fail
  obtain ⟨V8, hV8⟩ : ∃ V8 : World, V8 = (w8.alloc (.cells #[.int .i64 0, .int .i64 0] 28)) := ⟨_, rfl⟩
  have bV8 : Below w8.heap.size w8 V8 := by rw [hV8]; (repeat (first | with_reducible exact Below.refl _ _ | with_reducible refine Below.alloc ?_ (by first | (simp <;> omega) | omega) _))
  have zV8 : w8.heap.size + 1 ≤ V8.heap.size := by rw [hV8]; simp
  have F8 : Bk2 V8 (w8.heap.size) (.int .i64 0) (.int .i64 0) := by rw [hV8]; exact (Bk2.newAt _ _ (by first | omega | (simp; done) | (simp; omega)) _ _ _)
  rw [← hV8]
  clear hV8
  replace E := E.trans (bV8.mono E.size)
  replace Hx1 := Hx1.below bV8 (by omega)
  replace Hx2 := Hx2.below bV8 (by omega)
  replace P1 := P1.below bV8 P1.lt
  replace F2 := F2.below bV8 F2.lt
  replace Hy1 := Hy1.below bV8 (by omega)
  replace Hy2 := Hy2.below bV8 (by omega)
  replace P3 := P3.below bV8 P3.lt
  replace F4 := F4.below bV8 F4.lt
  replace P5 := P5.below bV8 P5.lt
  replace F6 := F6.below bV8 F6.lt
  clear bV8
  have lt_P1 := P1.lt
  have lt_F2 := F2.lt
  have lt_F4 := F4.lt
  have lt_F6 := F6.lt
  have lt_F8 := F8.lt
  have HS := Lib.hid (fun (u : World) (hu : Below (V8.heap.size) V8 u) => (⟨(hu.cell (p := ⟨w3.heap.size, 0, none⟩) (by show w3.heap.size < _; omega)).trans P1.c0, (hu.cell (p := ⟨w3.heap.size, 1, none⟩) (by show w3.heap.size < _; omega)).trans P1.c1, (hu.cell (p := ⟨w3.heap.size, 2, none⟩) (by show w3.heap.size < _; omega)).trans P1.c2, (hu.cell (p := ⟨w3.heap.size, 3, none⟩) (by show w3.heap.size < _; omega)).trans P1.c3, (hu.cell (p := ⟨w3.heap.size + 1, 0, none⟩) (by show w3.heap.size + 1 < _; omega)).trans F2.c0, (hu.cell (p := ⟨w3.heap.size + 1, 1, none⟩) (by show w3.heap.size + 1 < _; omega)).trans F2.c1, (hu.cell (p := ⟨w6.heap.size + 1, 0, none⟩) (by show w6.heap.size + 1 < _; omega)).trans F4.c0, (hu.cell (p := ⟨w6.heap.size + 1, 1, none⟩) (by show w6.heap.size + 1 < _; omega)).trans F4.c1, (hu.cell (p := ⟨g6, 0, none⟩) (by show g6 < _; omega)).trans F6.c0, (hu.cell (p := ⟨g6, 1, none⟩) (by show g6 < _; omega)).trans F6.c1, (hu.cell (p := ⟨w8.heap.size, 0, none⟩) (by show w8.heap.size < _; omega)).trans F8.c0, (hu.cell (p := ⟨w8.heap.size, 1, none⟩) (by show w8.heap.size < _; omega)).trans F8.c1⟩ : u.cell? ⟨w3.heap.size, 0, none⟩ = some (.bool x.num.neg) ∧ u.cell? ⟨w3.heap.size, 1, none⟩ = some (.slice x.num.A x.num.n x.num.c) ∧ u.cell? ⟨w3.heap.size, 2, none⟩ = some (.bool x.den.neg) ∧ u.cell? ⟨w3.heap.size, 3, none⟩ = some (.slice x.den.A x.den.n x.den.c) ∧ u.cell? ⟨w3.heap.size + 1, 0, none⟩ = some (.int .i64 0) ∧ u.cell? ⟨w3.heap.size + 1, 1, none⟩ = some (.int .i64 0) ∧ u.cell? ⟨w6.heap.size + 1, 0, none⟩ = some (.int .i64 0) ∧ u.cell? ⟨w6.heap.size + 1, 1, none⟩ = some (.int .i64 0) ∧ u.cell? ⟨g6, 0, none⟩ = some (.int .i64 0) ∧ u.cell? ⟨g6, 1, none⟩ = some (.int .i64 0) ∧ u.cell? ⟨w8.heap.size, 0, none⟩ = some (.int .i64 0) ∧ u.cell? ⟨w8.heap.size, 1, none⟩ = some (.int .i64 0)))
  have G0 : Below V8.heap.size V8 V8.drew := Below.drew (Below.refl _ _)
  have g0s := G0.size
  have G0m : Below (V8.heap.size) V8 V8.drew := G0.mono (by omega)
  go_region_held3 (fun u => u.cell? ⟨w3.heap.size, 0, none⟩ = some (.bool x.num.neg) ∧ u.cell? ⟨w3.heap.size, 1, none⟩ = some (.slice x.num.A x.num.n x.num.c) ∧ u.cell? ⟨w3.heap.size, 2, none⟩ = some (.bool x.den.neg) ∧ u.cell? ⟨w3.heap.size, 3, none⟩ = some (.slice x.den.A x.den.n x.den.c) ∧ u.cell? ⟨w3.heap.size + 1, 0, none⟩ = some (.int .i64 0) ∧ u.cell? ⟨w3.heap.size + 1, 1, none⟩ = some (.int .i64 0) ∧ u.cell? ⟨w6.heap.size + 1, 0, none⟩ = some (.int .i64 0) ∧ u.cell? ⟨w6.heap.size + 1, 1, none⟩ = some (.int .i64 0) ∧ u.cell? ⟨g6, 0, none⟩ = some (.int .i64 0) ∧ u.cell? ⟨g6, 1, none⟩ = some (.int .i64 0) ∧ u.cell? ⟨w8.heap.size, 0, none⟩ = some (.int .i64 0) ∧ u.cell? ⟨w8.heap.size, 1, none⟩ = some (.int .i64 0)) (first | (refine HS.out _ ?_; (repeat (first | with_reducible exact G0m | with_reducible exact BN.mono (by omega) | with_reducible exact B3.mono (by omega) | with_reducible exact B2.mono (by omega) | with_reducible exact B1.mono (by omega) | with_reducible exact Below.refl _ _ | with_reducible refine Below.drew ?_ | with_reducible refine below_drewN ?_ _ | with_reducible refine Below.setCell ?_ (by first | (simp <;> omega) | omega) _)); done) | fail)
    (first
      | (go_at_call 39; (with_reducible refine (number_any _ (-3) (by decide) (by decide)).mono ?_); rintro e u1 ⟨n1, D1, l1, d1, y1, v1, rfl, hd1, hr1, hv1, hb1⟩; have B1 : Below V8.heap.size V8 u1 := bnext G0 hb1; have T1 := Lib.hid hr1; have V1h := Lib.hid hv1; clear hr1 hv1; have b1s := hb1.size; have q1 := B1.size)
      | (go_at_call 42; (with_reducible refine (sameInt_any _ u1.heap.size x.num.neg n1 x.num.A D1 x.num.n l1 x.num.c d1 v1 (-3) x.num.xs y1 ((Hx1.below B1 (by omega)).more (by omega)) hd1 (Nat.le_refl _) Nx.out T1.out V1h.out (len16 T1.out hd1.len.out (by have h1 := sval_abs n1 v1; have h2 := V1h.out; omega))).mono ?_); rintro e u2 ⟨rfl, hb2⟩; have B2 : Below V8.heap.size V8 u2 := bnext B1 hb2)
      | (go_at_call 39; (with_reducible refine (number_any _ (2) (by decide) (by decide)).mono ?_); rintro e u3 ⟨n3, D3, l3, d3, y3, v3, rfl, hd3, hr3, hv3, hb3⟩; have B3 : Below V8.heap.size V8 u3 := bnext B2 hb3; have T3 := Lib.hid hr3; have V3h := Lib.hid hv3; clear hr3 hv3; have b3s := hb3.size; have q3 := B3.size)
      | (go_at_call 42; (with_reducible refine (sameInt_any _ u3.heap.size x.den.neg n3 x.den.A D3 x.den.n l3 x.den.c d3 v3 (2) x.den.xs y3 ((Hx2.below B3 (by omega)).more (by omega)) hd3 (Nat.le_refl _) Dx.out T3.out V3h.out (len16 T3.out hd3.len.out (by have h1 := sval_abs n3 v3; have h2 := V3h.out; omega))).mono ?_); rintro e u4 ⟨rfl, hb4⟩; have BN : Below V8.heap.size V8 u4 := bnext B3 hb4)
      | fail)
  all_goals (go_wp2_with fail)
  all_goals go_ret
  all_goals exact ⟨rfl, E.trans (BN.mono E.size)⟩
end Go.Proofs.YtfgkhdpdjclmkaaGreat
