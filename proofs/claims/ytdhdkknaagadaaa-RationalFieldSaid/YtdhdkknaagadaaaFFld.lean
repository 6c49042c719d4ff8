/- RationalField: the law. -/
import Derived.Test.YtdhdkknaagadaaaFt
import Derived.Deep.DeepCutAuto
namespace Go.Proofs.Ytdhdkknaagadaaa
open Go.RowKit
set_option maxHeartbeats 400000
set_option maxRecDepth 100000
set_option linter.unusedSimpArgs false
set_option linter.unusedVariables false

theorem fd_cancel {x y k : Int} (hk : k ≠ 0) (h : x * k = y * k) : x = y := Int.eq_of_mul_eq_mul_right hk h
theorem field1 {an ad bn bd sn sd dn dd : Int} (ha : 0 < ad) (hb : 0 < bd) (hs0 : 0 < sd) (hs : sn * (ad * bd) = (an * bd + bn * ad) * sd) (hd : dn * (sd * bd) = (sn * bd - bn * sd) * dd) : dn * ad = an * dd := by
  have h1 : sd * bd ≠ 0 := Int.mul_ne_zero (by omega) (by omega)
  refine fd_cancel h1 ?_
  grind
theorem field2 {an ad bn bd cn cd sn sd pn pd xn xd yn yd zn zd : Int} (ha : 0 < ad) (hb : 0 < bd) (hc : 0 < cd) (hs0 : 0 < sd) (hx0 : 0 < xd) (hy0 : 0 < yd) (hs : sn * (ad * bd) = (an * bd + bn * ad) * sd) (hp : pn * (sd * cd) = (sn * cn) * pd) (hx : xn * (ad * cd) = (an * cn) * xd) (hy : yn * (bd * cd) = (bn * cn) * yd) (hz : zn * (xd * yd) = (xn * yd + yn * xd) * zd) : pn * zd = zn * pd := by
  have e1 : pn * (ad * bd * cd) = (an * bd + bn * ad) * cn * pd := by
    refine fd_cancel (show sd ≠ 0 by omega) ?_
    grind
  have e2 : zn * (ad * bd * cd) = (an * bd + bn * ad) * cn * zd := by
    refine fd_cancel (show xd * yd * cd ≠ 0 from Int.mul_ne_zero (Int.mul_ne_zero (by omega) (by omega)) (by omega)) ?_
    have e3 : zn * (ad * bd * cd) * (xd * yd * cd) = (ad * bd * cd) * cd * ((xn * yd + yn * xd) * zd) := by rw [← hz]; grind
    rw [e3]
    have e4 : ad * bd * cd * cd * (xn * yd + yn * xd) = (an * bd + bn * ad) * cn * (xd * yd * cd) := by
      have : ad * bd * cd * cd * (xn * yd + yn * xd) = (xn * (ad * cd)) * (bd * cd * yd) + (yn * (bd * cd)) * (ad * cd * xd) := by grind
      rw [this, hx, hy]; grind
    have : ad * bd * cd * cd * ((xn * yd + yn * xd) * zd) = (ad * bd * cd * cd * (xn * yd + yn * xd)) * zd := by grind
    rw [this, e4]; grind
  refine fd_cancel (show ad * bd * cd ≠ 0 from Int.mul_ne_zero (Int.mul_ne_zero (by omega) (by omega)) (by omega)) ?_
  have : pn * zd * (ad * bd * cd) = (pn * (ad * bd * cd)) * zd := by grind
  rw [this, e1]
  have : zn * pd * (ad * bd * cd) = (zn * (ad * bd * cd)) * pd := by grind
  rw [this, e2]
  grind
theorem field3 {an ad cn cd xn xd qn qd : Int} (ha : 0 < ad) (hc : 0 < cd) (hx0 : 0 < xd) (hcn : cn ≠ 0) (hx : xn * (ad * cd) = (an * cn) * xd) (hq : qn * (xd * cn) = (xn * cd) * qd) : qn * ad = an * qd := by
  refine fd_cancel (show xd * cn ≠ 0 from Int.mul_ne_zero (by omega) hcn) ?_
  have : qn * ad * (xd * cn) = (qn * (xd * cn)) * ad := by grind
  rw [this, hq]; grind
theorem bd_mul {x y : Int} {T i j : Nat} (hx : x.natAbs < T ^ i) (hy : y.natAbs < T ^ j) : (x * y).natAbs < T ^ (i + j) := by
  rw [Int.natAbs_mul, Nat.pow_add]
  exact Nat.mul_lt_mul'' hx hy
theorem bd_up {x : Int} {T i : Nat} (h2 : 2 ≤ T) (j : Nat) (hx : x.natAbs < T ^ i) (h : i ≤ j) : x.natAbs < T ^ j := Nat.lt_of_lt_of_le hx (Nat.pow_le_pow_right (by omega) h)
theorem bd_add {x y : Int} {T i : Nat} (h2 : 2 ≤ T) (hx : x.natAbs < T ^ i) (hy : y.natAbs < T ^ i) : (x + y).natAbs < T ^ (i + 1) := by
  have : 2 * T ^ i ≤ T ^ (i + 1) := by rw [Nat.pow_succ, Nat.mul_comm]; exact Nat.mul_le_mul_left _ h2
  omega
theorem bd_sub {x y : Int} {T i : Nat} (h2 : 2 ≤ T) (hx : x.natAbs < T ^ i) (hy : y.natAbs < T ^ i) : (x - y).natAbs < T ^ (i + 1) := by
  have : 2 * T ^ i ≤ T ^ (i + 1) := by rw [Nat.pow_succ, Nat.mul_comm]; exact Nat.mul_le_mul_left _ h2
  omega
theorem field_code (x y : Int) (w : World) : (Instr.field 29 (.agg #[.int .i64 x, .int .i64 y]) 0).run Try.prog w = .ok (.int .i64 x) w := by kernel_rfl
theorem rrow3 (w : World) (B : Nat) (a b c : RV) (ha : a.at w B) (hb : b.at w B) (hc : c.at w B) (hB : B ≤ w.heap.size) : RRow (w.alloc (.cells #[.bool a.num.neg, .slice a.num.A a.num.n a.num.c, .bool a.den.neg, .slice a.den.A a.den.n a.den.c, .bool b.num.neg, .slice b.num.A b.num.n b.num.c, .bool b.den.neg, .slice b.den.A b.den.n b.den.c, .bool c.num.neg, .slice c.num.A c.num.n c.num.c, .bool c.den.neg, .slice c.den.A c.den.n c.den.c] 26)) B w.heap.size [a, b, c] := by
  have ha' : a.at (w.alloc (.cells #[.bool a.num.neg, .slice a.num.A a.num.n a.num.c, .bool a.den.neg, .slice a.den.A a.den.n a.den.c, .bool b.num.neg, .slice b.num.A b.num.n b.num.c, .bool b.den.neg, .slice b.den.A b.den.n b.den.c, .bool c.num.neg, .slice c.num.A c.num.n c.num.c, .bool c.den.neg, .slice c.den.A c.den.n c.den.c] 26)) B := ha.below (bl1 w _) hB
  have hb' : b.at (w.alloc (.cells #[.bool a.num.neg, .slice a.num.A a.num.n a.num.c, .bool a.den.neg, .slice a.den.A a.den.n a.den.c, .bool b.num.neg, .slice b.num.A b.num.n b.num.c, .bool b.den.neg, .slice b.den.A b.den.n b.den.c, .bool c.num.neg, .slice c.num.A c.num.n c.num.c, .bool c.den.neg, .slice c.den.A c.den.n c.den.c] 26)) B := hb.below (bl1 w _) hB
  have hc' : c.at (w.alloc (.cells #[.bool a.num.neg, .slice a.num.A a.num.n a.num.c, .bool a.den.neg, .slice a.den.A a.den.n a.den.c, .bool b.num.neg, .slice b.num.A b.num.n b.num.c, .bool b.den.neg, .slice b.den.A b.den.n b.den.c, .bool c.num.neg, .slice c.num.A c.num.n c.num.c, .bool c.den.neg, .slice c.den.A c.den.n c.den.c] 26)) B := hc.below (bl1 w _) hB
  refine ⟨fun i hi => ?_, fun i hi => ?_, fun i hi => ?_, fun i hi => ?_, fun i hi => ?_, by simp⟩
  all_goals
    have hi' : i < 3 := hi
    rcases (show i = 0 ∨ i = 1 ∨ i = 2 by omega) with rfl | rfl | rfl
    all_goals first | exact ha' | exact hb' | exact hc' | simp [go_sem]
theorem rthree (a b c : RV) : (a.ok = true ∧ b.ok = true ∧ c.ok = true ∧ rfault [a, b, c] 0 = (0, 0)) ∨ ∃ f2, rfault [a, b, c] 0 = (6, f2) := by
  by_cases ha : a.ok = true
  · by_cases hb : b.ok = true
    · by_cases hc : c.ok = true
      · exact .inl ⟨ha, hb, hc, by show (if a.ok then (if b.ok then (if c.ok then (0, 0) else _) else _) else _) = _; rw [if_pos ha, if_pos hb, if_pos hc]⟩
      · exact .inr ⟨_, by show (if a.ok then (if b.ok then (if c.ok then _ else _) else _) else _) = _; rw [if_pos ha, if_pos hb, if_neg hc]⟩
    · exact .inr ⟨_, by show (if a.ok then (if b.ok then _ else _) else _) = _; rw [if_pos ha, if_neg hb]⟩
  · exact .inr ⟨_, by show (if a.ok then _ else _) = _; rw [if_neg ha]⟩
@[irreducible] def Top12 : Nat := 4294967296 ^ 12
theorem top12 {m : Nat} (h : m = 12) : Top12 = 4294967296 ^ m := by subst h; unfold Top12; rfl
theorem lt12 {m : Bool} {xs : List Nat} {z : Int} {k : Nat} (h : IRep m xs z) (hl : xs.length = k) (hk : k ≤ 12) : z.natAbs < Top12 := by
  obtain ⟨m, hm⟩ : ∃ m, m = 12 := ⟨_, rfl⟩
  rw [top12 hm]
  exact Nat.lt_of_lt_of_le (h.rep.lt_pow (by decide)) (Nat.pow_le_pow_right (by decide) (by omega))
theorem top12_5 : Top12 ^ 5 ≤ Top128 := by
  obtain ⟨m, hm⟩ : ∃ m, m = 12 := ⟨_, rfl⟩
  obtain ⟨k, hk⟩ : ∃ k, k = 128 := ⟨_, rfl⟩
  rw [top12 hm, top128 hk, ← Nat.pow_mul]
  exact Nat.pow_le_pow_right (by decide) (by omega)
theorem top12_2 : 2 ≤ Top12 := by
  obtain ⟨m, hm⟩ : ∃ m, m = 12 := ⟨_, rfl⟩
  rw [top12 hm]
  have h : 4294967296 ^ 1 ≤ 4294967296 ^ m := Nat.pow_le_pow_right (by decide) (by omega)
  omega
/-- A ratio of few limbs. -/
def fitB (v : RV) : Bool := decide (v.num.n ≤ 12) && decide (v.den.n ≤ 12)
def RfRel (V : World) (vs : List RV) (i : Value) (wr : World) : Prop :=
  ∃ j : Nat, j ≤ 3 ∧ i = .int .i64 (j : Int) ∧ Hid (∀ k (h : k < vs.length), k < j → fitB vs[k] = true) ∧ Below V.heap.size V wr
theorem fit_b {v : RV} (h : fitB v = true) : v.num.n ≤ 12 ∧ v.den.n ≤ 12 := by
  unfold fitB at h
  simp only [Bool.and_eq_true, decide_eq_true_eq] at h
  exact h
theorem ref_len {m : Bool} {zs : List Nat} {v k : Nat} {z : Int} (h : Rep 65536 zs v) (hv : sval m v = z) (hl : zs.length = k) (hz : z.natAbs < Top128) : k ≤ 100000 := by
  have h1 : v < Top128 := by rw [← sval_abs m v, hv]; exact hz
  have := repD_len128 h h1 hl
  omega
set_option maxHeartbeats 4000000 in
theorem field_bad (w : World) (a b c : RV) (HA : a.at w w.heap.size) (HB : b.at w w.heap.size) (HC : c.at w w.heap.size) (f2 : Int) (hf : rfault [a, b, c] 0 = (6, f2)) :
    Calls Try.prog 3 #[a.v, b.v, c.v] w (fun e w' => e = .returned (.bool true) ∧ Below w.heap.size w w') := by
  have Ha1 : LRd w w.heap.size a.num.A a.num.n a.num.c a.num.xs := HA.1
  have Ha2 : LRd w w.heap.size a.den.A a.den.n a.den.c a.den.xs := HA.2
  have Hb1 : LRd w w.heap.size b.num.A b.num.n b.num.c b.num.xs := HB.1
  have Hb2 : LRd w w.heap.size b.den.A b.den.n b.den.c b.den.xs := HB.2
  have Hc1 : LRd w w.heap.size c.num.A c.num.n c.num.c c.num.xs := HC.1
  have Hc2 : LRd w w.heap.size c.den.A c.den.n c.den.c c.den.xs := HC.2
  have E : Below w.heap.size w w := Below.refl _ _
  have hfd := field_code
  go_enter Try.func3, Try.ntmps3
  go_wp2_with fail
  obtain ⟨V0, hV0⟩ : ∃ V0 : World, V0 = (((w.alloc (.cells #[.bool a.num.neg, .slice a.num.A a.num.n a.num.c, .bool a.den.neg, .slice a.den.A a.den.n a.den.c] 26)).alloc (.cells #[.bool b.num.neg, .slice b.num.A b.num.n b.num.c, .bool b.den.neg, .slice b.den.A b.den.n b.den.c] 26)).alloc (.cells #[.bool c.num.neg, .slice c.num.A c.num.n c.num.c, .bool c.den.neg, .slice c.den.A c.den.n c.den.c] 26)) := ⟨_, rfl⟩
  have bV0 : Below w.heap.size w V0 := by rw [hV0]; (repeat (first | with_reducible exact Below.refl _ _ | with_reducible refine Below.drew ?_ | with_reducible refine below_drewN ?_ _ | with_reducible refine Below.setCell ?_ (by first | (simp; done) | (simp; omega) | omega) _ | with_reducible refine Below.alloc ?_ (by first | (simp; done) | (simp; omega) | omega) _))
  have zV0 : w.heap.size + 3 ≤ V0.heap.size := by rw [hV0]; simp
  have PA : Bk4 V0 (w.heap.size) (.bool a.num.neg) (.slice a.num.A a.num.n a.num.c) (.bool a.den.neg) (.slice a.den.A a.den.n a.den.c) := by rw [hV0]; exact (((Bk4.newAt _ _ (by first | omega | (simp; done) | (simp; omega)) _ _ _ _ _).alloc _).alloc _)
  have PB : Bk4 V0 (w.heap.size + 1) (.bool b.num.neg) (.slice b.num.A b.num.n b.num.c) (.bool b.den.neg) (.slice b.den.A b.den.n b.den.c) := by rw [hV0]; exact ((Bk4.newAt _ _ (by first | omega | (simp; done) | (simp; omega)) _ _ _ _ _).alloc _)
  have PC : Bk4 V0 (w.heap.size + 2) (.bool c.num.neg) (.slice c.num.A c.num.n c.num.c) (.bool c.den.neg) (.slice c.den.A c.den.n c.den.c) := by rw [hV0]; exact (Bk4.newAt _ _ (by first | omega | (simp; done) | (simp; omega)) _ _ _ _ _)
  rw [← hV0]
  clear hV0
  replace E : Below w.heap.size w V0 := E.trans (bV0.mono E.size)
  replace Ha1 : LRd V0 (w.heap.size) a.num.A a.num.n a.num.c a.num.xs := Ha1.below bV0 (by omega)
  replace Ha2 : LRd V0 (w.heap.size) a.den.A a.den.n a.den.c a.den.xs := Ha2.below bV0 (by omega)
  replace Hb1 : LRd V0 (w.heap.size) b.num.A b.num.n b.num.c b.num.xs := Hb1.below bV0 (by omega)
  replace Hb2 : LRd V0 (w.heap.size) b.den.A b.den.n b.den.c b.den.xs := Hb2.below bV0 (by omega)
  replace Hc1 : LRd V0 (w.heap.size) c.num.A c.num.n c.num.c c.num.xs := Hc1.below bV0 (by omega)
  replace Hc2 : LRd V0 (w.heap.size) c.den.A c.den.n c.den.c c.den.xs := Hc2.below bV0 (by omega)
  clear bV0
  (with_reducible refine (parts_any _).mono ?_)
  rintro e w1 ⟨rfl, hb1⟩
  have sw1 := hb1.size
  replace E : Below w.heap.size w w1 := E.trans (hb1.mono E.size)
  replace Ha1 : LRd w1 (w.heap.size) a.num.A a.num.n a.num.c a.num.xs := Ha1.below hb1 (by omega)
  replace Ha2 : LRd w1 (w.heap.size) a.den.A a.den.n a.den.c a.den.xs := Ha2.below hb1 (by omega)
  replace Hb1 : LRd w1 (w.heap.size) b.num.A b.num.n b.num.c b.num.xs := Hb1.below hb1 (by omega)
  replace Hb2 : LRd w1 (w.heap.size) b.den.A b.den.n b.den.c b.den.xs := Hb2.below hb1 (by omega)
  replace Hc1 : LRd w1 (w.heap.size) c.num.A c.num.n c.num.c c.num.xs := Hc1.below hb1 (by omega)
  replace Hc2 : LRd w1 (w.heap.size) c.den.A c.den.n c.den.c c.den.xs := Hc2.below hb1 (by omega)
  replace PA : Bk4 w1 (w.heap.size) (.bool a.num.neg) (.slice a.num.A a.num.n a.num.c) (.bool a.den.neg) (.slice a.den.A a.den.n a.den.c) := PA.below hb1 PA.lt
  replace PB : Bk4 w1 (w.heap.size + 1) (.bool b.num.neg) (.slice b.num.A b.num.n b.num.c) (.bool b.den.neg) (.slice b.den.A b.den.n b.den.c) := PB.below hb1 PB.lt
  replace PC : Bk4 w1 (w.heap.size + 2) (.bool c.num.neg) (.slice c.num.A c.num.n c.num.c) (.bool c.den.neg) (.slice c.den.A c.den.n c.den.c) := PC.below hb1 PC.lt
  clear hb1
  have RR := Lib.hid (rrow3 w1 w.heap.size a b c (rv_at Ha1 Ha2) (rv_at Hb1 Hb2) (rv_at Hc1 Hc2) (by omega))
  have t_PA0 : (w1.alloc (.cells #[.bool a.num.neg, .slice a.num.A a.num.n a.num.c, .bool a.den.neg, .slice a.den.A a.den.n a.den.c, .bool b.num.neg, .slice b.num.A b.num.n b.num.c, .bool b.den.neg, .slice b.den.A b.den.n b.den.c, .bool c.num.neg, .slice c.num.A c.num.n c.num.c, .bool c.den.neg, .slice c.den.A c.den.n c.den.c] 26)).cell? ⟨w.heap.size, 0, none⟩ = some ((.bool a.num.neg)) := (PA.alloc _).c0
  have t_PA1 : (w1.alloc (.cells #[.bool a.num.neg, .slice a.num.A a.num.n a.num.c, .bool a.den.neg, .slice a.den.A a.den.n a.den.c, .bool b.num.neg, .slice b.num.A b.num.n b.num.c, .bool b.den.neg, .slice b.den.A b.den.n b.den.c, .bool c.num.neg, .slice c.num.A c.num.n c.num.c, .bool c.den.neg, .slice c.den.A c.den.n c.den.c] 26)).cell? ⟨w.heap.size, 1, none⟩ = some ((.slice a.num.A a.num.n a.num.c)) := (PA.alloc _).c1
  have t_PA2 : (w1.alloc (.cells #[.bool a.num.neg, .slice a.num.A a.num.n a.num.c, .bool a.den.neg, .slice a.den.A a.den.n a.den.c, .bool b.num.neg, .slice b.num.A b.num.n b.num.c, .bool b.den.neg, .slice b.den.A b.den.n b.den.c, .bool c.num.neg, .slice c.num.A c.num.n c.num.c, .bool c.den.neg, .slice c.den.A c.den.n c.den.c] 26)).cell? ⟨w.heap.size, 2, none⟩ = some ((.bool a.den.neg)) := (PA.alloc _).c2
  have t_PA3 : (w1.alloc (.cells #[.bool a.num.neg, .slice a.num.A a.num.n a.num.c, .bool a.den.neg, .slice a.den.A a.den.n a.den.c, .bool b.num.neg, .slice b.num.A b.num.n b.num.c, .bool b.den.neg, .slice b.den.A b.den.n b.den.c, .bool c.num.neg, .slice c.num.A c.num.n c.num.c, .bool c.den.neg, .slice c.den.A c.den.n c.den.c] 26)).cell? ⟨w.heap.size, 3, none⟩ = some ((.slice a.den.A a.den.n a.den.c)) := (PA.alloc _).c3
  have t_PB0 : (w1.alloc (.cells #[.bool a.num.neg, .slice a.num.A a.num.n a.num.c, .bool a.den.neg, .slice a.den.A a.den.n a.den.c, .bool b.num.neg, .slice b.num.A b.num.n b.num.c, .bool b.den.neg, .slice b.den.A b.den.n b.den.c, .bool c.num.neg, .slice c.num.A c.num.n c.num.c, .bool c.den.neg, .slice c.den.A c.den.n c.den.c] 26)).cell? ⟨w.heap.size + 1, 0, none⟩ = some ((.bool b.num.neg)) := (PB.alloc _).c0
  have t_PB1 : (w1.alloc (.cells #[.bool a.num.neg, .slice a.num.A a.num.n a.num.c, .bool a.den.neg, .slice a.den.A a.den.n a.den.c, .bool b.num.neg, .slice b.num.A b.num.n b.num.c, .bool b.den.neg, .slice b.den.A b.den.n b.den.c, .bool c.num.neg, .slice c.num.A c.num.n c.num.c, .bool c.den.neg, .slice c.den.A c.den.n c.den.c] 26)).cell? ⟨w.heap.size + 1, 1, none⟩ = some ((.slice b.num.A b.num.n b.num.c)) := (PB.alloc _).c1
  have t_PB2 : (w1.alloc (.cells #[.bool a.num.neg, .slice a.num.A a.num.n a.num.c, .bool a.den.neg, .slice a.den.A a.den.n a.den.c, .bool b.num.neg, .slice b.num.A b.num.n b.num.c, .bool b.den.neg, .slice b.den.A b.den.n b.den.c, .bool c.num.neg, .slice c.num.A c.num.n c.num.c, .bool c.den.neg, .slice c.den.A c.den.n c.den.c] 26)).cell? ⟨w.heap.size + 1, 2, none⟩ = some ((.bool b.den.neg)) := (PB.alloc _).c2
  have t_PB3 : (w1.alloc (.cells #[.bool a.num.neg, .slice a.num.A a.num.n a.num.c, .bool a.den.neg, .slice a.den.A a.den.n a.den.c, .bool b.num.neg, .slice b.num.A b.num.n b.num.c, .bool b.den.neg, .slice b.den.A b.den.n b.den.c, .bool c.num.neg, .slice c.num.A c.num.n c.num.c, .bool c.den.neg, .slice c.den.A c.den.n c.den.c] 26)).cell? ⟨w.heap.size + 1, 3, none⟩ = some ((.slice b.den.A b.den.n b.den.c)) := (PB.alloc _).c3
  have t_PC0 : (w1.alloc (.cells #[.bool a.num.neg, .slice a.num.A a.num.n a.num.c, .bool a.den.neg, .slice a.den.A a.den.n a.den.c, .bool b.num.neg, .slice b.num.A b.num.n b.num.c, .bool b.den.neg, .slice b.den.A b.den.n b.den.c, .bool c.num.neg, .slice c.num.A c.num.n c.num.c, .bool c.den.neg, .slice c.den.A c.den.n c.den.c] 26)).cell? ⟨w.heap.size + 2, 0, none⟩ = some ((.bool c.num.neg)) := (PC.alloc _).c0
  have t_PC1 : (w1.alloc (.cells #[.bool a.num.neg, .slice a.num.A a.num.n a.num.c, .bool a.den.neg, .slice a.den.A a.den.n a.den.c, .bool b.num.neg, .slice b.num.A b.num.n b.num.c, .bool b.den.neg, .slice b.den.A b.den.n b.den.c, .bool c.num.neg, .slice c.num.A c.num.n c.num.c, .bool c.den.neg, .slice c.den.A c.den.n c.den.c] 26)).cell? ⟨w.heap.size + 2, 1, none⟩ = some ((.slice c.num.A c.num.n c.num.c)) := (PC.alloc _).c1
  have t_PC2 : (w1.alloc (.cells #[.bool a.num.neg, .slice a.num.A a.num.n a.num.c, .bool a.den.neg, .slice a.den.A a.den.n a.den.c, .bool b.num.neg, .slice b.num.A b.num.n b.num.c, .bool b.den.neg, .slice b.den.A b.den.n b.den.c, .bool c.num.neg, .slice c.num.A c.num.n c.num.c, .bool c.den.neg, .slice c.den.A c.den.n c.den.c] 26)).cell? ⟨w.heap.size + 2, 2, none⟩ = some ((.bool c.den.neg)) := (PC.alloc _).c2
  have t_PC3 : (w1.alloc (.cells #[.bool a.num.neg, .slice a.num.A a.num.n a.num.c, .bool a.den.neg, .slice a.den.A a.den.n a.den.c, .bool b.num.neg, .slice b.num.A b.num.n b.num.c, .bool b.den.neg, .slice b.den.A b.den.n b.den.c, .bool c.num.neg, .slice c.num.A c.num.n c.num.c, .bool c.den.neg, .slice c.den.A c.den.n c.den.c] 26)).cell? ⟨w.heap.size + 2, 3, none⟩ = some ((.slice c.den.A c.den.n c.den.c)) := (PC.alloc _).c3
  have p_PA0 : w1.cell? ⟨w.heap.size, 0, none⟩ = some ((.bool a.num.neg)) := PA.c0
  have p_PA1 : w1.cell? ⟨w.heap.size, 1, none⟩ = some ((.slice a.num.A a.num.n a.num.c)) := PA.c1
  have p_PA2 : w1.cell? ⟨w.heap.size, 2, none⟩ = some ((.bool a.den.neg)) := PA.c2
  have p_PA3 : w1.cell? ⟨w.heap.size, 3, none⟩ = some ((.slice a.den.A a.den.n a.den.c)) := PA.c3
  have p_PB0 : w1.cell? ⟨w.heap.size + 1, 0, none⟩ = some ((.bool b.num.neg)) := PB.c0
  have p_PB1 : w1.cell? ⟨w.heap.size + 1, 1, none⟩ = some ((.slice b.num.A b.num.n b.num.c)) := PB.c1
  have p_PB2 : w1.cell? ⟨w.heap.size + 1, 2, none⟩ = some ((.bool b.den.neg)) := PB.c2
  have p_PB3 : w1.cell? ⟨w.heap.size + 1, 3, none⟩ = some ((.slice b.den.A b.den.n b.den.c)) := PB.c3
  have p_PC0 : w1.cell? ⟨w.heap.size + 2, 0, none⟩ = some ((.bool c.num.neg)) := PC.c0
  have p_PC1 : w1.cell? ⟨w.heap.size + 2, 1, none⟩ = some ((.slice c.num.A c.num.n c.num.c)) := PC.c1
  have p_PC2 : w1.cell? ⟨w.heap.size + 2, 2, none⟩ = some ((.bool c.den.neg)) := PC.c2
  have p_PC3 : w1.cell? ⟨w.heap.size + 2, 3, none⟩ = some ((.slice c.den.A c.den.n c.den.c)) := PC.c3
  go_wp2_with fail
  clear t_PA0 t_PA1 t_PA2 t_PA3 t_PB0 t_PB1 t_PB2 t_PB3 t_PC0 t_PC1 t_PC2 t_PC3 p_PA0 p_PA1 p_PA2 p_PA3 p_PB0 p_PB1 p_PB2 p_PB3 p_PC0 p_PC1 p_PC2 p_PC3
  obtain ⟨V1, hV1⟩ : ∃ V1 : World, V1 = (w1.alloc (.cells #[.bool a.num.neg, .slice a.num.A a.num.n a.num.c, .bool a.den.neg, .slice a.den.A a.den.n a.den.c, .bool b.num.neg, .slice b.num.A b.num.n b.num.c, .bool b.den.neg, .slice b.den.A b.den.n b.den.c, .bool c.num.neg, .slice c.num.A c.num.n c.num.c, .bool c.den.neg, .slice c.den.A c.den.n c.den.c] 26)) := ⟨_, rfl⟩
  have bV1 : Below w1.heap.size w1 V1 := by rw [hV1]; (repeat (first | with_reducible exact Below.refl _ _ | with_reducible refine Below.drew ?_ | with_reducible refine below_drewN ?_ _ | with_reducible refine Below.setCell ?_ (by first | (simp; done) | (simp; omega) | omega) _ | with_reducible refine Below.alloc ?_ (by first | (simp; done) | (simp; omega) | omega) _))
  have zV1 : w1.heap.size + 1 ≤ V1.heap.size := by rw [hV1]; simp
  replace RR : Hid (RRow V1 w.heap.size w1.heap.size [a, b, c]) := by rw [hV1]; exact RR
  rw [← hV1]
  clear hV1
  replace E : Below w.heap.size w V1 := E.trans (bV1.mono E.size)
  replace Ha1 : LRd V1 (w.heap.size) a.num.A a.num.n a.num.c a.num.xs := Ha1.below bV1 (by omega)
  replace Ha2 : LRd V1 (w.heap.size) a.den.A a.den.n a.den.c a.den.xs := Ha2.below bV1 (by omega)
  replace Hb1 : LRd V1 (w.heap.size) b.num.A b.num.n b.num.c b.num.xs := Hb1.below bV1 (by omega)
  replace Hb2 : LRd V1 (w.heap.size) b.den.A b.den.n b.den.c b.den.xs := Hb2.below bV1 (by omega)
  replace Hc1 : LRd V1 (w.heap.size) c.num.A c.num.n c.num.c c.num.xs := Hc1.below bV1 (by omega)
  replace Hc2 : LRd V1 (w.heap.size) c.den.A c.den.n c.den.c c.den.xs := Hc2.below bV1 (by omega)
  replace PA : Bk4 V1 (w.heap.size) (.bool a.num.neg) (.slice a.num.A a.num.n a.num.c) (.bool a.den.neg) (.slice a.den.A a.den.n a.den.c) := PA.below bV1 PA.lt
  replace PB : Bk4 V1 (w.heap.size + 1) (.bool b.num.neg) (.slice b.num.A b.num.n b.num.c) (.bool b.den.neg) (.slice b.den.A b.den.n b.den.c) := PB.below bV1 PB.lt
  replace PC : Bk4 V1 (w.heap.size + 2) (.bool c.num.neg) (.slice c.num.A c.num.n c.num.c) (.bool c.den.neg) (.slice c.den.A c.den.n c.den.c) := PC.below bV1 PC.lt
  clear bV1
  (with_reducible refine (ratioFaults_any _ w.heap.size w1.heap.size 3 [a, b, c] RR.out rfl (by omega) (by omega)).mono ?_)
  rintro e w2 ⟨rfl, hb2⟩
  have sw2 := hb2.size
  replace E : Below w.heap.size w w2 := E.trans (hb2.mono E.size)
  replace Ha1 : LRd w2 (w.heap.size) a.num.A a.num.n a.num.c a.num.xs := Ha1.below hb2 (by omega)
  replace Ha2 : LRd w2 (w.heap.size) a.den.A a.den.n a.den.c a.den.xs := Ha2.below hb2 (by omega)
  replace Hb1 : LRd w2 (w.heap.size) b.num.A b.num.n b.num.c b.num.xs := Hb1.below hb2 (by omega)
  replace Hb2 : LRd w2 (w.heap.size) b.den.A b.den.n b.den.c b.den.xs := Hb2.below hb2 (by omega)
  replace Hc1 : LRd w2 (w.heap.size) c.num.A c.num.n c.num.c c.num.xs := Hc1.below hb2 (by omega)
  replace Hc2 : LRd w2 (w.heap.size) c.den.A c.den.n c.den.c c.den.xs := Hc2.below hb2 (by omega)
  replace PA : Bk4 w2 (w.heap.size) (.bool a.num.neg) (.slice a.num.A a.num.n a.num.c) (.bool a.den.neg) (.slice a.den.A a.den.n a.den.c) := PA.below hb2 PA.lt
  replace PB : Bk4 w2 (w.heap.size + 1) (.bool b.num.neg) (.slice b.num.A b.num.n b.num.c) (.bool b.den.neg) (.slice b.den.A b.den.n b.den.c) := PB.below hb2 PB.lt
  replace PC : Bk4 w2 (w.heap.size + 2) (.bool c.num.neg) (.slice c.num.A c.num.n c.num.c) (.bool c.den.neg) (.slice c.den.A c.den.n c.den.c) := PC.below hb2 PC.lt
  clear hb2
  rw [hf]
  clear RR
  unfold flt
  go_wp2_with fail
  go_ret
  exact ⟨rfl, E⟩
set_option maxHeartbeats 40000000 in
theorem field_ok (w : World) (a b c : RV) (HA : a.at w w.heap.size) (HB : b.at w w.heap.size) (HC : c.at w w.heap.size) (oa : Hid (a.ok = true)) (ob : Hid (b.ok = true)) (oc : Hid (c.ok = true)) (hf : rfault [a, b, c] 0 = (0, 0)) :
    Calls Try.prog 3 #[a.v, b.v, c.v] w (fun e w' => e = .returned (.bool true) ∧ Below w.heap.size w w') := by
  have Ha1 : LRd w w.heap.size a.num.A a.num.n a.num.c a.num.xs := HA.1
  have Ha2 : LRd w w.heap.size a.den.A a.den.n a.den.c a.den.xs := HA.2
  have Hb1 : LRd w w.heap.size b.num.A b.num.n b.num.c b.num.xs := HB.1
  have Hb2 : LRd w w.heap.size b.den.A b.den.n b.den.c b.den.xs := HB.2
  have Hc1 : LRd w w.heap.size c.num.A c.num.n c.num.c c.num.xs := HC.1
  have Hc2 : LRd w w.heap.size c.den.A c.den.n c.den.c c.den.xs := HC.2
  have E : Below w.heap.size w w := Below.refl _ _
  have hfd := field_code
  go_enter Try.func3, Try.ntmps3
  go_wp2_with fail
  obtain ⟨V0, hV0⟩ : ∃ V0 : World, V0 = (((w.alloc (.cells #[.bool a.num.neg, .slice a.num.A a.num.n a.num.c, .bool a.den.neg, .slice a.den.A a.den.n a.den.c] 26)).alloc (.cells #[.bool b.num.neg, .slice b.num.A b.num.n b.num.c, .bool b.den.neg, .slice b.den.A b.den.n b.den.c] 26)).alloc (.cells #[.bool c.num.neg, .slice c.num.A c.num.n c.num.c, .bool c.den.neg, .slice c.den.A c.den.n c.den.c] 26)) := ⟨_, rfl⟩
  have bV0 : Below w.heap.size w V0 := by rw [hV0]; (repeat (first | with_reducible exact Below.refl _ _ | with_reducible refine Below.drew ?_ | with_reducible refine below_drewN ?_ _ | with_reducible refine Below.setCell ?_ (by first | (simp; done) | (simp; omega) | omega) _ | with_reducible refine Below.alloc ?_ (by first | (simp; done) | (simp; omega) | omega) _))
  have zV0 : w.heap.size + 3 ≤ V0.heap.size := by rw [hV0]; simp
  have PA : Bk4 V0 (w.heap.size) (.bool a.num.neg) (.slice a.num.A a.num.n a.num.c) (.bool a.den.neg) (.slice a.den.A a.den.n a.den.c) := by rw [hV0]; exact (((Bk4.newAt _ _ (by first | omega | (simp; done) | (simp; omega)) _ _ _ _ _).alloc _).alloc _)
  have PB : Bk4 V0 (w.heap.size + 1) (.bool b.num.neg) (.slice b.num.A b.num.n b.num.c) (.bool b.den.neg) (.slice b.den.A b.den.n b.den.c) := by rw [hV0]; exact ((Bk4.newAt _ _ (by first | omega | (simp; done) | (simp; omega)) _ _ _ _ _).alloc _)
  have PC : Bk4 V0 (w.heap.size + 2) (.bool c.num.neg) (.slice c.num.A c.num.n c.num.c) (.bool c.den.neg) (.slice c.den.A c.den.n c.den.c) := by rw [hV0]; exact (Bk4.newAt _ _ (by first | omega | (simp; done) | (simp; omega)) _ _ _ _ _)
  rw [← hV0]
  clear hV0
  replace E : Below w.heap.size w V0 := E.trans (bV0.mono E.size)
  replace Ha1 : LRd V0 (w.heap.size) a.num.A a.num.n a.num.c a.num.xs := Ha1.below bV0 (by omega)
  replace Ha2 : LRd V0 (w.heap.size) a.den.A a.den.n a.den.c a.den.xs := Ha2.below bV0 (by omega)
  replace Hb1 : LRd V0 (w.heap.size) b.num.A b.num.n b.num.c b.num.xs := Hb1.below bV0 (by omega)
  replace Hb2 : LRd V0 (w.heap.size) b.den.A b.den.n b.den.c b.den.xs := Hb2.below bV0 (by omega)
  replace Hc1 : LRd V0 (w.heap.size) c.num.A c.num.n c.num.c c.num.xs := Hc1.below bV0 (by omega)
  replace Hc2 : LRd V0 (w.heap.size) c.den.A c.den.n c.den.c c.den.xs := Hc2.below bV0 (by omega)
  clear bV0
  (with_reducible refine (parts_any _).mono ?_)
  rintro e w1 ⟨rfl, hb1⟩
  have sw1 := hb1.size
  replace E : Below w.heap.size w w1 := E.trans (hb1.mono E.size)
  replace Ha1 : LRd w1 (w.heap.size) a.num.A a.num.n a.num.c a.num.xs := Ha1.below hb1 (by omega)
  replace Ha2 : LRd w1 (w.heap.size) a.den.A a.den.n a.den.c a.den.xs := Ha2.below hb1 (by omega)
  replace Hb1 : LRd w1 (w.heap.size) b.num.A b.num.n b.num.c b.num.xs := Hb1.below hb1 (by omega)
  replace Hb2 : LRd w1 (w.heap.size) b.den.A b.den.n b.den.c b.den.xs := Hb2.below hb1 (by omega)
  replace Hc1 : LRd w1 (w.heap.size) c.num.A c.num.n c.num.c c.num.xs := Hc1.below hb1 (by omega)
  replace Hc2 : LRd w1 (w.heap.size) c.den.A c.den.n c.den.c c.den.xs := Hc2.below hb1 (by omega)
  replace PA : Bk4 w1 (w.heap.size) (.bool a.num.neg) (.slice a.num.A a.num.n a.num.c) (.bool a.den.neg) (.slice a.den.A a.den.n a.den.c) := PA.below hb1 PA.lt
  replace PB : Bk4 w1 (w.heap.size + 1) (.bool b.num.neg) (.slice b.num.A b.num.n b.num.c) (.bool b.den.neg) (.slice b.den.A b.den.n b.den.c) := PB.below hb1 PB.lt
  replace PC : Bk4 w1 (w.heap.size + 2) (.bool c.num.neg) (.slice c.num.A c.num.n c.num.c) (.bool c.den.neg) (.slice c.den.A c.den.n c.den.c) := PC.below hb1 PC.lt
  clear hb1
  have RR := Lib.hid (rrow3 w1 w.heap.size a b c (rv_at Ha1 Ha2) (rv_at Hb1 Hb2) (rv_at Hc1 Hc2) (by omega))
  have t_PA0 : (w1.alloc (.cells #[.bool a.num.neg, .slice a.num.A a.num.n a.num.c, .bool a.den.neg, .slice a.den.A a.den.n a.den.c, .bool b.num.neg, .slice b.num.A b.num.n b.num.c, .bool b.den.neg, .slice b.den.A b.den.n b.den.c, .bool c.num.neg, .slice c.num.A c.num.n c.num.c, .bool c.den.neg, .slice c.den.A c.den.n c.den.c] 26)).cell? ⟨w.heap.size, 0, none⟩ = some ((.bool a.num.neg)) := (PA.alloc _).c0
  have t_PA1 : (w1.alloc (.cells #[.bool a.num.neg, .slice a.num.A a.num.n a.num.c, .bool a.den.neg, .slice a.den.A a.den.n a.den.c, .bool b.num.neg, .slice b.num.A b.num.n b.num.c, .bool b.den.neg, .slice b.den.A b.den.n b.den.c, .bool c.num.neg, .slice c.num.A c.num.n c.num.c, .bool c.den.neg, .slice c.den.A c.den.n c.den.c] 26)).cell? ⟨w.heap.size, 1, none⟩ = some ((.slice a.num.A a.num.n a.num.c)) := (PA.alloc _).c1
  have t_PA2 : (w1.alloc (.cells #[.bool a.num.neg, .slice a.num.A a.num.n a.num.c, .bool a.den.neg, .slice a.den.A a.den.n a.den.c, .bool b.num.neg, .slice b.num.A b.num.n b.num.c, .bool b.den.neg, .slice b.den.A b.den.n b.den.c, .bool c.num.neg, .slice c.num.A c.num.n c.num.c, .bool c.den.neg, .slice c.den.A c.den.n c.den.c] 26)).cell? ⟨w.heap.size, 2, none⟩ = some ((.bool a.den.neg)) := (PA.alloc _).c2
  have t_PA3 : (w1.alloc (.cells #[.bool a.num.neg, .slice a.num.A a.num.n a.num.c, .bool a.den.neg, .slice a.den.A a.den.n a.den.c, .bool b.num.neg, .slice b.num.A b.num.n b.num.c, .bool b.den.neg, .slice b.den.A b.den.n b.den.c, .bool c.num.neg, .slice c.num.A c.num.n c.num.c, .bool c.den.neg, .slice c.den.A c.den.n c.den.c] 26)).cell? ⟨w.heap.size, 3, none⟩ = some ((.slice a.den.A a.den.n a.den.c)) := (PA.alloc _).c3
  have t_PB0 : (w1.alloc (.cells #[.bool a.num.neg, .slice a.num.A a.num.n a.num.c, .bool a.den.neg, .slice a.den.A a.den.n a.den.c, .bool b.num.neg, .slice b.num.A b.num.n b.num.c, .bool b.den.neg, .slice b.den.A b.den.n b.den.c, .bool c.num.neg, .slice c.num.A c.num.n c.num.c, .bool c.den.neg, .slice c.den.A c.den.n c.den.c] 26)).cell? ⟨w.heap.size + 1, 0, none⟩ = some ((.bool b.num.neg)) := (PB.alloc _).c0
  have t_PB1 : (w1.alloc (.cells #[.bool a.num.neg, .slice a.num.A a.num.n a.num.c, .bool a.den.neg, .slice a.den.A a.den.n a.den.c, .bool b.num.neg, .slice b.num.A b.num.n b.num.c, .bool b.den.neg, .slice b.den.A b.den.n b.den.c, .bool c.num.neg, .slice c.num.A c.num.n c.num.c, .bool c.den.neg, .slice c.den.A c.den.n c.den.c] 26)).cell? ⟨w.heap.size + 1, 1, none⟩ = some ((.slice b.num.A b.num.n b.num.c)) := (PB.alloc _).c1
  have t_PB2 : (w1.alloc (.cells #[.bool a.num.neg, .slice a.num.A a.num.n a.num.c, .bool a.den.neg, .slice a.den.A a.den.n a.den.c, .bool b.num.neg, .slice b.num.A b.num.n b.num.c, .bool b.den.neg, .slice b.den.A b.den.n b.den.c, .bool c.num.neg, .slice c.num.A c.num.n c.num.c, .bool c.den.neg, .slice c.den.A c.den.n c.den.c] 26)).cell? ⟨w.heap.size + 1, 2, none⟩ = some ((.bool b.den.neg)) := (PB.alloc _).c2
  have t_PB3 : (w1.alloc (.cells #[.bool a.num.neg, .slice a.num.A a.num.n a.num.c, .bool a.den.neg, .slice a.den.A a.den.n a.den.c, .bool b.num.neg, .slice b.num.A b.num.n b.num.c, .bool b.den.neg, .slice b.den.A b.den.n b.den.c, .bool c.num.neg, .slice c.num.A c.num.n c.num.c, .bool c.den.neg, .slice c.den.A c.den.n c.den.c] 26)).cell? ⟨w.heap.size + 1, 3, none⟩ = some ((.slice b.den.A b.den.n b.den.c)) := (PB.alloc _).c3
  have t_PC0 : (w1.alloc (.cells #[.bool a.num.neg, .slice a.num.A a.num.n a.num.c, .bool a.den.neg, .slice a.den.A a.den.n a.den.c, .bool b.num.neg, .slice b.num.A b.num.n b.num.c, .bool b.den.neg, .slice b.den.A b.den.n b.den.c, .bool c.num.neg, .slice c.num.A c.num.n c.num.c, .bool c.den.neg, .slice c.den.A c.den.n c.den.c] 26)).cell? ⟨w.heap.size + 2, 0, none⟩ = some ((.bool c.num.neg)) := (PC.alloc _).c0
  have t_PC1 : (w1.alloc (.cells #[.bool a.num.neg, .slice a.num.A a.num.n a.num.c, .bool a.den.neg, .slice a.den.A a.den.n a.den.c, .bool b.num.neg, .slice b.num.A b.num.n b.num.c, .bool b.den.neg, .slice b.den.A b.den.n b.den.c, .bool c.num.neg, .slice c.num.A c.num.n c.num.c, .bool c.den.neg, .slice c.den.A c.den.n c.den.c] 26)).cell? ⟨w.heap.size + 2, 1, none⟩ = some ((.slice c.num.A c.num.n c.num.c)) := (PC.alloc _).c1
  have t_PC2 : (w1.alloc (.cells #[.bool a.num.neg, .slice a.num.A a.num.n a.num.c, .bool a.den.neg, .slice a.den.A a.den.n a.den.c, .bool b.num.neg, .slice b.num.A b.num.n b.num.c, .bool b.den.neg, .slice b.den.A b.den.n b.den.c, .bool c.num.neg, .slice c.num.A c.num.n c.num.c, .bool c.den.neg, .slice c.den.A c.den.n c.den.c] 26)).cell? ⟨w.heap.size + 2, 2, none⟩ = some ((.bool c.den.neg)) := (PC.alloc _).c2
  have t_PC3 : (w1.alloc (.cells #[.bool a.num.neg, .slice a.num.A a.num.n a.num.c, .bool a.den.neg, .slice a.den.A a.den.n a.den.c, .bool b.num.neg, .slice b.num.A b.num.n b.num.c, .bool b.den.neg, .slice b.den.A b.den.n b.den.c, .bool c.num.neg, .slice c.num.A c.num.n c.num.c, .bool c.den.neg, .slice c.den.A c.den.n c.den.c] 26)).cell? ⟨w.heap.size + 2, 3, none⟩ = some ((.slice c.den.A c.den.n c.den.c)) := (PC.alloc _).c3
  have p_PA0 : w1.cell? ⟨w.heap.size, 0, none⟩ = some ((.bool a.num.neg)) := PA.c0
  have p_PA1 : w1.cell? ⟨w.heap.size, 1, none⟩ = some ((.slice a.num.A a.num.n a.num.c)) := PA.c1
  have p_PA2 : w1.cell? ⟨w.heap.size, 2, none⟩ = some ((.bool a.den.neg)) := PA.c2
  have p_PA3 : w1.cell? ⟨w.heap.size, 3, none⟩ = some ((.slice a.den.A a.den.n a.den.c)) := PA.c3
  have p_PB0 : w1.cell? ⟨w.heap.size + 1, 0, none⟩ = some ((.bool b.num.neg)) := PB.c0
  have p_PB1 : w1.cell? ⟨w.heap.size + 1, 1, none⟩ = some ((.slice b.num.A b.num.n b.num.c)) := PB.c1
  have p_PB2 : w1.cell? ⟨w.heap.size + 1, 2, none⟩ = some ((.bool b.den.neg)) := PB.c2
  have p_PB3 : w1.cell? ⟨w.heap.size + 1, 3, none⟩ = some ((.slice b.den.A b.den.n b.den.c)) := PB.c3
  have p_PC0 : w1.cell? ⟨w.heap.size + 2, 0, none⟩ = some ((.bool c.num.neg)) := PC.c0
  have p_PC1 : w1.cell? ⟨w.heap.size + 2, 1, none⟩ = some ((.slice c.num.A c.num.n c.num.c)) := PC.c1
  have p_PC2 : w1.cell? ⟨w.heap.size + 2, 2, none⟩ = some ((.bool c.den.neg)) := PC.c2
  have p_PC3 : w1.cell? ⟨w.heap.size + 2, 3, none⟩ = some ((.slice c.den.A c.den.n c.den.c)) := PC.c3
  go_wp2_with fail
  clear t_PA0 t_PA1 t_PA2 t_PA3 t_PB0 t_PB1 t_PB2 t_PB3 t_PC0 t_PC1 t_PC2 t_PC3 p_PA0 p_PA1 p_PA2 p_PA3 p_PB0 p_PB1 p_PB2 p_PB3 p_PC0 p_PC1 p_PC2 p_PC3
  obtain ⟨V1, hV1⟩ : ∃ V1 : World, V1 = (w1.alloc (.cells #[.bool a.num.neg, .slice a.num.A a.num.n a.num.c, .bool a.den.neg, .slice a.den.A a.den.n a.den.c, .bool b.num.neg, .slice b.num.A b.num.n b.num.c, .bool b.den.neg, .slice b.den.A b.den.n b.den.c, .bool c.num.neg, .slice c.num.A c.num.n c.num.c, .bool c.den.neg, .slice c.den.A c.den.n c.den.c] 26)) := ⟨_, rfl⟩
  have bV1 : Below w1.heap.size w1 V1 := by rw [hV1]; (repeat (first | with_reducible exact Below.refl _ _ | with_reducible refine Below.drew ?_ | with_reducible refine below_drewN ?_ _ | with_reducible refine Below.setCell ?_ (by first | (simp; done) | (simp; omega) | omega) _ | with_reducible refine Below.alloc ?_ (by first | (simp; done) | (simp; omega) | omega) _))
  have zV1 : w1.heap.size + 1 ≤ V1.heap.size := by rw [hV1]; simp
  replace RR : Hid (RRow V1 w.heap.size w1.heap.size [a, b, c]) := by rw [hV1]; exact RR
  rw [← hV1]
  clear hV1
  replace E : Below w.heap.size w V1 := E.trans (bV1.mono E.size)
  replace Ha1 : LRd V1 (w.heap.size) a.num.A a.num.n a.num.c a.num.xs := Ha1.below bV1 (by omega)
  replace Ha2 : LRd V1 (w.heap.size) a.den.A a.den.n a.den.c a.den.xs := Ha2.below bV1 (by omega)
  replace Hb1 : LRd V1 (w.heap.size) b.num.A b.num.n b.num.c b.num.xs := Hb1.below bV1 (by omega)
  replace Hb2 : LRd V1 (w.heap.size) b.den.A b.den.n b.den.c b.den.xs := Hb2.below bV1 (by omega)
  replace Hc1 : LRd V1 (w.heap.size) c.num.A c.num.n c.num.c c.num.xs := Hc1.below bV1 (by omega)
  replace Hc2 : LRd V1 (w.heap.size) c.den.A c.den.n c.den.c c.den.xs := Hc2.below bV1 (by omega)
  replace PA : Bk4 V1 (w.heap.size) (.bool a.num.neg) (.slice a.num.A a.num.n a.num.c) (.bool a.den.neg) (.slice a.den.A a.den.n a.den.c) := PA.below bV1 PA.lt
  replace PB : Bk4 V1 (w.heap.size + 1) (.bool b.num.neg) (.slice b.num.A b.num.n b.num.c) (.bool b.den.neg) (.slice b.den.A b.den.n b.den.c) := PB.below bV1 PB.lt
  replace PC : Bk4 V1 (w.heap.size + 2) (.bool c.num.neg) (.slice c.num.A c.num.n c.num.c) (.bool c.den.neg) (.slice c.den.A c.den.n c.den.c) := PC.below bV1 PC.lt
  clear bV1
  (with_reducible refine (ratioFaults_any _ w.heap.size w1.heap.size 3 [a, b, c] RR.out rfl (by omega) (by omega)).mono ?_)
  rintro e w2 ⟨rfl, hb2⟩
  have sw2 := hb2.size
  replace E : Below w.heap.size w w2 := E.trans (hb2.mono E.size)
  replace Ha1 : LRd w2 (w.heap.size) a.num.A a.num.n a.num.c a.num.xs := Ha1.below hb2 (by omega)
  replace Ha2 : LRd w2 (w.heap.size) a.den.A a.den.n a.den.c a.den.xs := Ha2.below hb2 (by omega)
  replace Hb1 : LRd w2 (w.heap.size) b.num.A b.num.n b.num.c b.num.xs := Hb1.below hb2 (by omega)
  replace Hb2 : LRd w2 (w.heap.size) b.den.A b.den.n b.den.c b.den.xs := Hb2.below hb2 (by omega)
  replace Hc1 : LRd w2 (w.heap.size) c.num.A c.num.n c.num.c c.num.xs := Hc1.below hb2 (by omega)
  replace Hc2 : LRd w2 (w.heap.size) c.den.A c.den.n c.den.c c.den.xs := Hc2.below hb2 (by omega)
  replace PA : Bk4 w2 (w.heap.size) (.bool a.num.neg) (.slice a.num.A a.num.n a.num.c) (.bool a.den.neg) (.slice a.den.A a.den.n a.den.c) := PA.below hb2 PA.lt
  replace PB : Bk4 w2 (w.heap.size + 1) (.bool b.num.neg) (.slice b.num.A b.num.n b.num.c) (.bool b.den.neg) (.slice b.den.A b.den.n b.den.c) := PB.below hb2 PB.lt
  replace PC : Bk4 w2 (w.heap.size + 2) (.bool c.num.neg) (.slice c.num.A c.num.n c.num.c) (.bool c.den.neg) (.slice c.den.A c.den.n c.den.c) := PC.below hb2 PC.lt
  clear hb2
  rw [hf]
  clear RR
  unfold flt
  have RR := Lib.hid (rrow3 w2 w.heap.size a b c (rv_at Ha1 Ha2) (rv_at Hb1 Hb2) (rv_at Hc1 Hc2) (by omega))
  have t_PA0 : (w2.alloc (.cells #[.bool a.num.neg, .slice a.num.A a.num.n a.num.c, .bool a.den.neg, .slice a.den.A a.den.n a.den.c, .bool b.num.neg, .slice b.num.A b.num.n b.num.c, .bool b.den.neg, .slice b.den.A b.den.n b.den.c, .bool c.num.neg, .slice c.num.A c.num.n c.num.c, .bool c.den.neg, .slice c.den.A c.den.n c.den.c] 26)).cell? ⟨w.heap.size, 0, none⟩ = some ((.bool a.num.neg)) := (PA.alloc _).c0
  have t_PA1 : (w2.alloc (.cells #[.bool a.num.neg, .slice a.num.A a.num.n a.num.c, .bool a.den.neg, .slice a.den.A a.den.n a.den.c, .bool b.num.neg, .slice b.num.A b.num.n b.num.c, .bool b.den.neg, .slice b.den.A b.den.n b.den.c, .bool c.num.neg, .slice c.num.A c.num.n c.num.c, .bool c.den.neg, .slice c.den.A c.den.n c.den.c] 26)).cell? ⟨w.heap.size, 1, none⟩ = some ((.slice a.num.A a.num.n a.num.c)) := (PA.alloc _).c1
  have t_PA2 : (w2.alloc (.cells #[.bool a.num.neg, .slice a.num.A a.num.n a.num.c, .bool a.den.neg, .slice a.den.A a.den.n a.den.c, .bool b.num.neg, .slice b.num.A b.num.n b.num.c, .bool b.den.neg, .slice b.den.A b.den.n b.den.c, .bool c.num.neg, .slice c.num.A c.num.n c.num.c, .bool c.den.neg, .slice c.den.A c.den.n c.den.c] 26)).cell? ⟨w.heap.size, 2, none⟩ = some ((.bool a.den.neg)) := (PA.alloc _).c2
  have t_PA3 : (w2.alloc (.cells #[.bool a.num.neg, .slice a.num.A a.num.n a.num.c, .bool a.den.neg, .slice a.den.A a.den.n a.den.c, .bool b.num.neg, .slice b.num.A b.num.n b.num.c, .bool b.den.neg, .slice b.den.A b.den.n b.den.c, .bool c.num.neg, .slice c.num.A c.num.n c.num.c, .bool c.den.neg, .slice c.den.A c.den.n c.den.c] 26)).cell? ⟨w.heap.size, 3, none⟩ = some ((.slice a.den.A a.den.n a.den.c)) := (PA.alloc _).c3
  have t_PB0 : (w2.alloc (.cells #[.bool a.num.neg, .slice a.num.A a.num.n a.num.c, .bool a.den.neg, .slice a.den.A a.den.n a.den.c, .bool b.num.neg, .slice b.num.A b.num.n b.num.c, .bool b.den.neg, .slice b.den.A b.den.n b.den.c, .bool c.num.neg, .slice c.num.A c.num.n c.num.c, .bool c.den.neg, .slice c.den.A c.den.n c.den.c] 26)).cell? ⟨w.heap.size + 1, 0, none⟩ = some ((.bool b.num.neg)) := (PB.alloc _).c0
  have t_PB1 : (w2.alloc (.cells #[.bool a.num.neg, .slice a.num.A a.num.n a.num.c, .bool a.den.neg, .slice a.den.A a.den.n a.den.c, .bool b.num.neg, .slice b.num.A b.num.n b.num.c, .bool b.den.neg, .slice b.den.A b.den.n b.den.c, .bool c.num.neg, .slice c.num.A c.num.n c.num.c, .bool c.den.neg, .slice c.den.A c.den.n c.den.c] 26)).cell? ⟨w.heap.size + 1, 1, none⟩ = some ((.slice b.num.A b.num.n b.num.c)) := (PB.alloc _).c1
  have t_PB2 : (w2.alloc (.cells #[.bool a.num.neg, .slice a.num.A a.num.n a.num.c, .bool a.den.neg, .slice a.den.A a.den.n a.den.c, .bool b.num.neg, .slice b.num.A b.num.n b.num.c, .bool b.den.neg, .slice b.den.A b.den.n b.den.c, .bool c.num.neg, .slice c.num.A c.num.n c.num.c, .bool c.den.neg, .slice c.den.A c.den.n c.den.c] 26)).cell? ⟨w.heap.size + 1, 2, none⟩ = some ((.bool b.den.neg)) := (PB.alloc _).c2
  have t_PB3 : (w2.alloc (.cells #[.bool a.num.neg, .slice a.num.A a.num.n a.num.c, .bool a.den.neg, .slice a.den.A a.den.n a.den.c, .bool b.num.neg, .slice b.num.A b.num.n b.num.c, .bool b.den.neg, .slice b.den.A b.den.n b.den.c, .bool c.num.neg, .slice c.num.A c.num.n c.num.c, .bool c.den.neg, .slice c.den.A c.den.n c.den.c] 26)).cell? ⟨w.heap.size + 1, 3, none⟩ = some ((.slice b.den.A b.den.n b.den.c)) := (PB.alloc _).c3
  have t_PC0 : (w2.alloc (.cells #[.bool a.num.neg, .slice a.num.A a.num.n a.num.c, .bool a.den.neg, .slice a.den.A a.den.n a.den.c, .bool b.num.neg, .slice b.num.A b.num.n b.num.c, .bool b.den.neg, .slice b.den.A b.den.n b.den.c, .bool c.num.neg, .slice c.num.A c.num.n c.num.c, .bool c.den.neg, .slice c.den.A c.den.n c.den.c] 26)).cell? ⟨w.heap.size + 2, 0, none⟩ = some ((.bool c.num.neg)) := (PC.alloc _).c0
  have t_PC1 : (w2.alloc (.cells #[.bool a.num.neg, .slice a.num.A a.num.n a.num.c, .bool a.den.neg, .slice a.den.A a.den.n a.den.c, .bool b.num.neg, .slice b.num.A b.num.n b.num.c, .bool b.den.neg, .slice b.den.A b.den.n b.den.c, .bool c.num.neg, .slice c.num.A c.num.n c.num.c, .bool c.den.neg, .slice c.den.A c.den.n c.den.c] 26)).cell? ⟨w.heap.size + 2, 1, none⟩ = some ((.slice c.num.A c.num.n c.num.c)) := (PC.alloc _).c1
  have t_PC2 : (w2.alloc (.cells #[.bool a.num.neg, .slice a.num.A a.num.n a.num.c, .bool a.den.neg, .slice a.den.A a.den.n a.den.c, .bool b.num.neg, .slice b.num.A b.num.n b.num.c, .bool b.den.neg, .slice b.den.A b.den.n b.den.c, .bool c.num.neg, .slice c.num.A c.num.n c.num.c, .bool c.den.neg, .slice c.den.A c.den.n c.den.c] 26)).cell? ⟨w.heap.size + 2, 2, none⟩ = some ((.bool c.den.neg)) := (PC.alloc _).c2
  have t_PC3 : (w2.alloc (.cells #[.bool a.num.neg, .slice a.num.A a.num.n a.num.c, .bool a.den.neg, .slice a.den.A a.den.n a.den.c, .bool b.num.neg, .slice b.num.A b.num.n b.num.c, .bool b.den.neg, .slice b.den.A b.den.n b.den.c, .bool c.num.neg, .slice c.num.A c.num.n c.num.c, .bool c.den.neg, .slice c.den.A c.den.n c.den.c] 26)).cell? ⟨w.heap.size + 2, 3, none⟩ = some ((.slice c.den.A c.den.n c.den.c)) := (PC.alloc _).c3
  have p_PA0 : w2.cell? ⟨w.heap.size, 0, none⟩ = some ((.bool a.num.neg)) := PA.c0
  have p_PA1 : w2.cell? ⟨w.heap.size, 1, none⟩ = some ((.slice a.num.A a.num.n a.num.c)) := PA.c1
  have p_PA2 : w2.cell? ⟨w.heap.size, 2, none⟩ = some ((.bool a.den.neg)) := PA.c2
  have p_PA3 : w2.cell? ⟨w.heap.size, 3, none⟩ = some ((.slice a.den.A a.den.n a.den.c)) := PA.c3
  have p_PB0 : w2.cell? ⟨w.heap.size + 1, 0, none⟩ = some ((.bool b.num.neg)) := PB.c0
  have p_PB1 : w2.cell? ⟨w.heap.size + 1, 1, none⟩ = some ((.slice b.num.A b.num.n b.num.c)) := PB.c1
  have p_PB2 : w2.cell? ⟨w.heap.size + 1, 2, none⟩ = some ((.bool b.den.neg)) := PB.c2
  have p_PB3 : w2.cell? ⟨w.heap.size + 1, 3, none⟩ = some ((.slice b.den.A b.den.n b.den.c)) := PB.c3
  have p_PC0 : w2.cell? ⟨w.heap.size + 2, 0, none⟩ = some ((.bool c.num.neg)) := PC.c0
  have p_PC1 : w2.cell? ⟨w.heap.size + 2, 1, none⟩ = some ((.slice c.num.A c.num.n c.num.c)) := PC.c1
  have p_PC2 : w2.cell? ⟨w.heap.size + 2, 2, none⟩ = some ((.bool c.den.neg)) := PC.c2
  have p_PC3 : w2.cell? ⟨w.heap.size + 2, 3, none⟩ = some ((.slice c.den.A c.den.n c.den.c)) := PC.c3
  go_wp2_with fail
  clear t_PA0 t_PA1 t_PA2 t_PA3 t_PB0 t_PB1 t_PB2 t_PB3 t_PC0 t_PC1 t_PC2 t_PC3 p_PA0 p_PA1 p_PA2 p_PA3 p_PB0 p_PB1 p_PB2 p_PB3 p_PC0 p_PC1 p_PC2 p_PC3
  obtain ⟨V2, hV2⟩ : ∃ V2 : World, V2 = (w2.alloc (.cells #[.bool a.num.neg, .slice a.num.A a.num.n a.num.c, .bool a.den.neg, .slice a.den.A a.den.n a.den.c, .bool b.num.neg, .slice b.num.A b.num.n b.num.c, .bool b.den.neg, .slice b.den.A b.den.n b.den.c, .bool c.num.neg, .slice c.num.A c.num.n c.num.c, .bool c.den.neg, .slice c.den.A c.den.n c.den.c] 26)) := ⟨_, rfl⟩
  have bV2 : Below w2.heap.size w2 V2 := by rw [hV2]; (repeat (first | with_reducible exact Below.refl _ _ | with_reducible refine Below.drew ?_ | with_reducible refine below_drewN ?_ _ | with_reducible refine Below.setCell ?_ (by first | (simp; done) | (simp; omega) | omega) _ | with_reducible refine Below.alloc ?_ (by first | (simp; done) | (simp; omega) | omega) _))
  have zV2 : w2.heap.size + 1 ≤ V2.heap.size := by rw [hV2]; simp
  replace RR : RRow V2 w.heap.size w2.heap.size [a, b, c] := by rw [hV2]; exact RR.out
  rw [← hV2]
  clear hV2
  replace E : Below w.heap.size w V2 := E.trans (bV2.mono E.size)
  replace Ha1 : LRd V2 (w.heap.size) a.num.A a.num.n a.num.c a.num.xs := Ha1.below bV2 (by omega)
  replace Ha2 : LRd V2 (w.heap.size) a.den.A a.den.n a.den.c a.den.xs := Ha2.below bV2 (by omega)
  replace Hb1 : LRd V2 (w.heap.size) b.num.A b.num.n b.num.c b.num.xs := Hb1.below bV2 (by omega)
  replace Hb2 : LRd V2 (w.heap.size) b.den.A b.den.n b.den.c b.den.xs := Hb2.below bV2 (by omega)
  replace Hc1 : LRd V2 (w.heap.size) c.num.A c.num.n c.num.c c.num.xs := Hc1.below bV2 (by omega)
  replace Hc2 : LRd V2 (w.heap.size) c.den.A c.den.n c.den.c c.den.xs := Hc2.below bV2 (by omega)
  replace PA : Bk4 V2 (w.heap.size) (.bool a.num.neg) (.slice a.num.A a.num.n a.num.c) (.bool a.den.neg) (.slice a.den.A a.den.n a.den.c) := PA.below bV2 PA.lt
  replace PB : Bk4 V2 (w.heap.size + 1) (.bool b.num.neg) (.slice b.num.A b.num.n b.num.c) (.bool b.den.neg) (.slice b.den.A b.den.n b.den.c) := PB.below bV2 PB.lt
  replace PC : Bk4 V2 (w.heap.size + 2) (.bool c.num.neg) (.slice c.num.A c.num.n c.num.c) (.bool c.den.neg) (.slice c.den.A c.den.n c.den.c) := PC.below bV2 PC.lt
  clear bV2
  go_loopw [36] (fun i wr => RfRel V2 [a, b, c] i wr) (fun i _ => 3 - (intOf i).toNat)
  case atStart => exact ⟨0, by omega, rfl, Lib.hid (fun k h hk => absurd hk (by omega)), Below.refl _ _⟩
  case round =>
    obtain ⟨j, hj, rfl, hff, hbw⟩ := hrel
    have hz := hbw.size
    by_cases h1 : j < 3
    · have hjv : j < [a, b, c].length := h1
      have hr := RR.below hbw (by omega)
      obtain ⟨v, hv⟩ : ∃ v, v = [a, b, c][j] := ⟨_, rfl⟩
      have e0 := hr.c0 j hjv
      have e1 := hr.c1 j hjv
      have e2 := hr.c2 j hjv
      have e3 := hr.c3 j hjv
      rw [← hv] at e0 e1 e2 e3
      have HVV := Lib.hid hv
      have E3 := E.trans (hbw.mono E.size)
      clear hv hr RR
      by_cases h4 : v.num.n ≤ 12
      · have g1 : decide ((12 : Int) < (v.num.n : Int)) = false := decide_eq_false (by omega)
        by_cases h5 : v.den.n ≤ 12
        · have g2 : decide ((12 : Int) < (v.den.n : Int)) = false := decide_eq_false (by omega)
          have HN := Lib.hid (show ∀ k (h : k < [a, b, c].length), k < j + 1 → fitB [a, b, c][k] = true from fun k h hk => by
            rcases Nat.lt_or_ge k j with e | e
            · exact hff.out k h e
            · obtain rfl : k = j := by omega
              rw [← HVV.out]
              unfold fitB
              rw [decide_eq_true h4, decide_eq_true h5]
              rfl)
          clear h4 h5
          go_wp2_with fail
          go_roundw
          case rel => exact ⟨j + 1, by omega, by go_num, HN, hbw.alloc (by omega) _⟩
          case measure => first | (simp [intOf]; done) | (simp [intOf]; omega)
        · have g2 : decide ((12 : Int) < (v.den.n : Int)) = true := decide_eq_true (by omega)
          clear h4 h5
          go_wp2_with fail
          go_ret
          exact ⟨rfl, E3.alloc (by omega) _⟩
      · have g1 : decide ((12 : Int) < (v.num.n : Int)) = true := decide_eq_true (by omega)
        clear h4
        go_wp2_with fail
        go_ret
        exact ⟨rfl, E3.alloc (by omega) _⟩
    · obtain rfl : j = 3 := by omega
      have fa : fitB a = true := hff.out 0 (by show 0 < 3; omega) (by omega)
      have fb : fitB b = true := hff.out 1 (by show 1 < 3; omega) (by omega)
      have fc : fitB c = true := hff.out 2 (by show 2 < 3; omega) (by omega)
      have FF := Lib.hid (And.intro fa (And.intro fb fc))
      clear fa fb fc hff RR h1
      replace E : Below w.heap.size w wr := E.trans (hbw.mono E.size)
      replace Ha1 : LRd wr (w.heap.size) a.num.A a.num.n a.num.c a.num.xs := Ha1.below hbw (by omega)
      replace Ha2 : LRd wr (w.heap.size) a.den.A a.den.n a.den.c a.den.xs := Ha2.below hbw (by omega)
      replace Hb1 : LRd wr (w.heap.size) b.num.A b.num.n b.num.c b.num.xs := Hb1.below hbw (by omega)
      replace Hb2 : LRd wr (w.heap.size) b.den.A b.den.n b.den.c b.den.xs := Hb2.below hbw (by omega)
      replace Hc1 : LRd wr (w.heap.size) c.num.A c.num.n c.num.c c.num.xs := Hc1.below hbw (by omega)
      replace Hc2 : LRd wr (w.heap.size) c.den.A c.den.n c.den.c c.den.xs := Hc2.below hbw (by omega)
      replace PA : Bk4 wr (w.heap.size) (.bool a.num.neg) (.slice a.num.A a.num.n a.num.c) (.bool a.den.neg) (.slice a.den.A a.den.n a.den.c) := PA.below hbw PA.lt
      replace PB : Bk4 wr (w.heap.size + 1) (.bool b.num.neg) (.slice b.num.A b.num.n b.num.c) (.bool b.den.neg) (.slice b.den.A b.den.n b.den.c) := PB.below hbw PB.lt
      replace PC : Bk4 wr (w.heap.size + 2) (.bool c.num.neg) (.slice c.num.A c.num.n c.num.c) (.bool c.den.neg) (.slice c.den.A c.den.n c.den.c) := PC.below hbw PC.lt
      clear hbw
      obtain ⟨V9, hV9⟩ : ∃ y : World, y = wr := ⟨_, rfl⟩
      subst hV9
      have FA := fit_b FF.out.1
      have FB := fit_b FF.out.2.1
      have FC := fit_b FF.out.2.2
      have VA := Lib.hid (RV.val oa.out (rv_at Ha1 Ha2))
      have VB := Lib.hid (RV.val ob.out (rv_at Hb1 Hb2))
      have VC := Lib.hid (RV.val oc.out (rv_at Hc1 Hc2))
      have ta := Lib.hid (lt12 VA.out.num Ha1.len.out FA.1)
      have ta' := Lib.hid (lt12 VA.out.den Ha2.len.out FA.2)
      have tb := Lib.hid (lt12 VB.out.num Hb1.len.out FB.1)
      have tb' := Lib.hid (lt12 VB.out.den Hb2.len.out FB.2)
      have tc := Lib.hid (lt12 VC.out.num Hc1.len.out FC.1)
      have tc' := Lib.hid (lt12 VC.out.den Hc2.len.out FC.2)
      clear FA FB FC FF
      have t_PA0 : V9.cell? ⟨w.heap.size, 0, none⟩ = some ((.bool a.num.neg)) := PA.c0
      have t_PA1 : V9.cell? ⟨w.heap.size, 1, none⟩ = some ((.slice a.num.A a.num.n a.num.c)) := PA.c1
      have t_PA2 : V9.cell? ⟨w.heap.size, 2, none⟩ = some ((.bool a.den.neg)) := PA.c2
      have t_PA3 : V9.cell? ⟨w.heap.size, 3, none⟩ = some ((.slice a.den.A a.den.n a.den.c)) := PA.c3
      have t_PB0 : V9.cell? ⟨w.heap.size + 1, 0, none⟩ = some ((.bool b.num.neg)) := PB.c0
      have t_PB1 : V9.cell? ⟨w.heap.size + 1, 1, none⟩ = some ((.slice b.num.A b.num.n b.num.c)) := PB.c1
      have t_PB2 : V9.cell? ⟨w.heap.size + 1, 2, none⟩ = some ((.bool b.den.neg)) := PB.c2
      have t_PB3 : V9.cell? ⟨w.heap.size + 1, 3, none⟩ = some ((.slice b.den.A b.den.n b.den.c)) := PB.c3
      go_wp2_with fail
      clear t_PA0 t_PA1 t_PA2 t_PA3 t_PB0 t_PB1 t_PB2 t_PB3
      have c1 : (a.num.val * b.den.val + b.num.val * a.den.val).natAbs < Top128 := Nat.lt_of_lt_of_le (bd_up top12_2 5 (bd_add top12_2 (bd_mul ((by rw [Nat.pow_one]; exact ta.out)) ((by rw [Nat.pow_one]; exact tb'.out))) (bd_mul ((by rw [Nat.pow_one]; exact tb.out)) ((by rw [Nat.pow_one]; exact ta'.out)))) (by decide)) top12_5
      have c2 : (a.den.val * b.den.val).natAbs < Top128 := Nat.lt_of_lt_of_le (bd_up top12_2 5 (bd_mul ((by rw [Nat.pow_one]; exact ta'.out)) ((by rw [Nat.pow_one]; exact tb'.out))) (by decide)) top12_5
      (with_reducible refine (radd_x _ V9.heap.size a b (rv_at (Ha1.more (by omega)) (Ha2.more (by omega))) (rv_at (Hb1.more (by omega)) (Hb2.more (by omega))) (Nat.le_refl _) oa.out ob.out  c1 c2).mono ?_)
      rintro e w11 ⟨s, rfl, hs, os, xs, ps, ls, ms, hb11⟩
      have sw11 := hb11.size
      replace E : Below w.heap.size w w11 := E.trans (hb11.mono E.size)
      replace Ha1 : LRd w11 (w.heap.size) a.num.A a.num.n a.num.c a.num.xs := Ha1.below hb11 (by omega)
      replace Ha2 : LRd w11 (w.heap.size) a.den.A a.den.n a.den.c a.den.xs := Ha2.below hb11 (by omega)
      replace Hb1 : LRd w11 (w.heap.size) b.num.A b.num.n b.num.c b.num.xs := Hb1.below hb11 (by omega)
      replace Hb2 : LRd w11 (w.heap.size) b.den.A b.den.n b.den.c b.den.xs := Hb2.below hb11 (by omega)
      replace Hc1 : LRd w11 (w.heap.size) c.num.A c.num.n c.num.c c.num.xs := Hc1.below hb11 (by omega)
      replace Hc2 : LRd w11 (w.heap.size) c.den.A c.den.n c.den.c c.den.xs := Hc2.below hb11 (by omega)
      replace PA : Bk4 w11 (w.heap.size) (.bool a.num.neg) (.slice a.num.A a.num.n a.num.c) (.bool a.den.neg) (.slice a.den.A a.den.n a.den.c) := PA.below hb11 PA.lt
      replace PB : Bk4 w11 (w.heap.size + 1) (.bool b.num.neg) (.slice b.num.A b.num.n b.num.c) (.bool b.den.neg) (.slice b.den.A b.den.n b.den.c) := PB.below hb11 PB.lt
      replace PC : Bk4 w11 (w.heap.size + 2) (.bool c.num.neg) (.slice c.num.A c.num.n c.num.c) (.bool c.den.neg) (.slice c.den.A c.den.n c.den.c) := PC.below hb11 PC.lt
      clear hb11
      clear c1 c2
      have Os := Lib.hid os
      have Xs := Lib.hid xs
      have Ws := Lib.hid (And.intro ps (And.intro ls ms))
      have Gs := Lib.hid (rv_low os hs)
      have Ns := Lib.hid (RV.val os hs).num
      have Ds := Lib.hid (RV.val os hs).den
      have Hs1 : LRd w11 w11.heap.size s.num.A s.num.n s.num.c s.num.xs := hs.1
      have Hs2 : LRd w11 w11.heap.size s.den.A s.den.n s.den.c s.den.xs := hs.2
      clear hs os xs ps ls ms
      have s3 : Hid (s.num.val.natAbs < Top12 ^ 3) := Lib.hid (Nat.lt_of_le_of_lt Ws.out.2.1 (bd_add top12_2 (bd_mul ((by rw [Nat.pow_one]; exact ta.out)) ((by rw [Nat.pow_one]; exact tb'.out))) (bd_mul ((by rw [Nat.pow_one]; exact tb.out)) ((by rw [Nat.pow_one]; exact ta'.out)))))
      have s2 : Hid (s.den.val.natAbs < Top12 ^ 2) := Lib.hid (Nat.lt_of_le_of_lt Ws.out.2.2 (bd_mul ((by rw [Nat.pow_one]; exact ta'.out)) ((by rw [Nat.pow_one]; exact tb'.out))))
      have t_PB0 : ((w11.alloc (.cells #[.bool s.num.neg, .slice s.num.A s.num.n s.num.c, .bool s.den.neg, .slice s.den.A s.den.n s.den.c] 26)).alloc (.cells #[.int .i64 0, .int .i64 0] 29)).cell? ⟨w.heap.size + 1, 0, none⟩ = some ((.bool b.num.neg)) := ((PB.alloc _).alloc _).c0
      have t_PB1 : ((w11.alloc (.cells #[.bool s.num.neg, .slice s.num.A s.num.n s.num.c, .bool s.den.neg, .slice s.den.A s.den.n s.den.c] 26)).alloc (.cells #[.int .i64 0, .int .i64 0] 29)).cell? ⟨w.heap.size + 1, 1, none⟩ = some ((.slice b.num.A b.num.n b.num.c)) := ((PB.alloc _).alloc _).c1
      have t_PB2 : ((w11.alloc (.cells #[.bool s.num.neg, .slice s.num.A s.num.n s.num.c, .bool s.den.neg, .slice s.den.A s.den.n s.den.c] 26)).alloc (.cells #[.int .i64 0, .int .i64 0] 29)).cell? ⟨w.heap.size + 1, 2, none⟩ = some ((.bool b.den.neg)) := ((PB.alloc _).alloc _).c2
      have t_PB3 : ((w11.alloc (.cells #[.bool s.num.neg, .slice s.num.A s.num.n s.num.c, .bool s.den.neg, .slice s.den.A s.den.n s.den.c] 26)).alloc (.cells #[.int .i64 0, .int .i64 0] 29)).cell? ⟨w.heap.size + 1, 3, none⟩ = some ((.slice b.den.A b.den.n b.den.c)) := ((PB.alloc _).alloc _).c3
      go_wp2_with fail
      clear t_PB0 t_PB1 t_PB2 t_PB3
      obtain ⟨V4, hV4⟩ : ∃ V4 : World, V4 = ((w11.alloc (.cells #[.bool s.num.neg, .slice s.num.A s.num.n s.num.c, .bool s.den.neg, .slice s.den.A s.den.n s.den.c] 26)).alloc (.cells #[.int .i64 0, .int .i64 0] 29)) := ⟨_, rfl⟩
      have bV4 : Below w11.heap.size w11 V4 := by rw [hV4]; (repeat (first | with_reducible exact Below.refl _ _ | with_reducible refine Below.drew ?_ | with_reducible refine below_drewN ?_ _ | with_reducible refine Below.setCell ?_ (by first | (simp; done) | (simp; omega) | omega) _ | with_reducible refine Below.alloc ?_ (by first | (simp; done) | (simp; omega) | omega) _))
      have zV4 : w11.heap.size + 2 ≤ V4.heap.size := by rw [hV4]; simp
      have P9 : Bk4 V4 (w11.heap.size) (.bool s.num.neg) (.slice s.num.A s.num.n s.num.c) (.bool s.den.neg) (.slice s.den.A s.den.n s.den.c) := by rw [hV4]; exact ((Bk4.newAt _ _ (by first | omega | (simp; done) | (simp; omega)) _ _ _ _ _).alloc _)
      have F10 : Bk2 V4 (w11.heap.size + 1) (.int .i64 0) (.int .i64 0) := by rw [hV4]; exact (Bk2.newAt _ _ (by first | omega | (simp; done) | (simp; omega)) _ _ _)
      rw [← hV4]
      clear hV4
      replace E : Below w.heap.size w V4 := E.trans (bV4.mono E.size)
      replace Ha1 : LRd V4 (w.heap.size) a.num.A a.num.n a.num.c a.num.xs := Ha1.below bV4 (by omega)
      replace Ha2 : LRd V4 (w.heap.size) a.den.A a.den.n a.den.c a.den.xs := Ha2.below bV4 (by omega)
      replace Hb1 : LRd V4 (w.heap.size) b.num.A b.num.n b.num.c b.num.xs := Hb1.below bV4 (by omega)
      replace Hb2 : LRd V4 (w.heap.size) b.den.A b.den.n b.den.c b.den.xs := Hb2.below bV4 (by omega)
      replace Hc1 : LRd V4 (w.heap.size) c.num.A c.num.n c.num.c c.num.xs := Hc1.below bV4 (by omega)
      replace Hc2 : LRd V4 (w.heap.size) c.den.A c.den.n c.den.c c.den.xs := Hc2.below bV4 (by omega)
      replace PA : Bk4 V4 (w.heap.size) (.bool a.num.neg) (.slice a.num.A a.num.n a.num.c) (.bool a.den.neg) (.slice a.den.A a.den.n a.den.c) := PA.below bV4 PA.lt
      replace PB : Bk4 V4 (w.heap.size + 1) (.bool b.num.neg) (.slice b.num.A b.num.n b.num.c) (.bool b.den.neg) (.slice b.den.A b.den.n b.den.c) := PB.below bV4 PB.lt
      replace PC : Bk4 V4 (w.heap.size + 2) (.bool c.num.neg) (.slice c.num.A c.num.n c.num.c) (.bool c.den.neg) (.slice c.den.A c.den.n c.den.c) := PC.below bV4 PC.lt
      replace Hs1 : LRd V4 (w11.heap.size) s.num.A s.num.n s.num.c s.num.xs := Hs1.below bV4 (by omega)
      replace Hs2 : LRd V4 (w11.heap.size) s.den.A s.den.n s.den.c s.den.xs := Hs2.below bV4 (by omega)
      clear bV4
      have c1 : (s.num.val * b.den.val - b.num.val * s.den.val).natAbs < Top128 := Nat.lt_of_lt_of_le (bd_up top12_2 5 (bd_sub top12_2 (bd_mul (s3.out) ((by rw [Nat.pow_one]; exact tb'.out))) (bd_up top12_2 4 (bd_mul ((by rw [Nat.pow_one]; exact tb.out)) (s2.out)) (by decide))) (by decide)) top12_5
      have c2 : (s.den.val * b.den.val).natAbs < Top128 := Nat.lt_of_lt_of_le (bd_up top12_2 5 (bd_mul (s2.out) ((by rw [Nat.pow_one]; exact tb'.out))) (by decide)) top12_5
      (with_reducible refine (rsub_x _ V4.heap.size s b (rv_at (Hs1.more (by omega)) (Hs2.more (by omega))) (rv_at (Hb1.more (by omega)) (Hb2.more (by omega))) (Nat.le_refl _) Os.out ob.out  c1 c2).mono ?_)
      rintro e w12 ⟨d, rfl, hd, od, xd, pd, ld, md, hb12⟩
      have sw12 := hb12.size
      replace E : Below w.heap.size w w12 := E.trans (hb12.mono E.size)
      replace Ha1 : LRd w12 (w.heap.size) a.num.A a.num.n a.num.c a.num.xs := Ha1.below hb12 (by omega)
      replace Ha2 : LRd w12 (w.heap.size) a.den.A a.den.n a.den.c a.den.xs := Ha2.below hb12 (by omega)
      replace Hb1 : LRd w12 (w.heap.size) b.num.A b.num.n b.num.c b.num.xs := Hb1.below hb12 (by omega)
      replace Hb2 : LRd w12 (w.heap.size) b.den.A b.den.n b.den.c b.den.xs := Hb2.below hb12 (by omega)
      replace Hc1 : LRd w12 (w.heap.size) c.num.A c.num.n c.num.c c.num.xs := Hc1.below hb12 (by omega)
      replace Hc2 : LRd w12 (w.heap.size) c.den.A c.den.n c.den.c c.den.xs := Hc2.below hb12 (by omega)
      replace PA : Bk4 w12 (w.heap.size) (.bool a.num.neg) (.slice a.num.A a.num.n a.num.c) (.bool a.den.neg) (.slice a.den.A a.den.n a.den.c) := PA.below hb12 PA.lt
      replace PB : Bk4 w12 (w.heap.size + 1) (.bool b.num.neg) (.slice b.num.A b.num.n b.num.c) (.bool b.den.neg) (.slice b.den.A b.den.n b.den.c) := PB.below hb12 PB.lt
      replace PC : Bk4 w12 (w.heap.size + 2) (.bool c.num.neg) (.slice c.num.A c.num.n c.num.c) (.bool c.den.neg) (.slice c.den.A c.den.n c.den.c) := PC.below hb12 PC.lt
      replace Hs1 : LRd w12 (w11.heap.size) s.num.A s.num.n s.num.c s.num.xs := Hs1.below hb12 (by omega)
      replace Hs2 : LRd w12 (w11.heap.size) s.den.A s.den.n s.den.c s.den.xs := Hs2.below hb12 (by omega)
      replace P9 : Bk4 w12 (w11.heap.size) (.bool s.num.neg) (.slice s.num.A s.num.n s.num.c) (.bool s.den.neg) (.slice s.den.A s.den.n s.den.c) := P9.below hb12 P9.lt
      replace F10 : Bk2 w12 (w11.heap.size + 1) (.int .i64 0) (.int .i64 0) := F10.below hb12 F10.lt
      clear hb12
      clear c1 c2
      have Od := Lib.hid od
      have Xd := Lib.hid xd
      have Wd := Lib.hid (And.intro pd (And.intro ld md))
      have Gd := Lib.hid (rv_low od hd)
      have Nd := Lib.hid (RV.val od hd).num
      have Dd := Lib.hid (RV.val od hd).den
      have Hd1 : LRd w12 w12.heap.size d.num.A d.num.n d.num.c d.num.xs := hd.1
      have Hd2 : LRd w12 w12.heap.size d.den.A d.den.n d.den.c d.den.xs := hd.2
      clear hd od xd pd ld md
      have t_P90 : ((w12.alloc (.cells #[.bool d.num.neg, .slice d.num.A d.num.n d.num.c, .bool d.den.neg, .slice d.den.A d.den.n d.den.c] 26)).alloc (.cells #[.int .i64 0, .int .i64 0] 29)).cell? ⟨w11.heap.size, 0, none⟩ = some ((.bool s.num.neg)) := ((P9.alloc _).alloc _).c0
      have t_P91 : ((w12.alloc (.cells #[.bool d.num.neg, .slice d.num.A d.num.n d.num.c, .bool d.den.neg, .slice d.den.A d.den.n d.den.c] 26)).alloc (.cells #[.int .i64 0, .int .i64 0] 29)).cell? ⟨w11.heap.size, 1, none⟩ = some ((.slice s.num.A s.num.n s.num.c)) := ((P9.alloc _).alloc _).c1
      have t_P92 : ((w12.alloc (.cells #[.bool d.num.neg, .slice d.num.A d.num.n d.num.c, .bool d.den.neg, .slice d.den.A d.den.n d.den.c] 26)).alloc (.cells #[.int .i64 0, .int .i64 0] 29)).cell? ⟨w11.heap.size, 2, none⟩ = some ((.bool s.den.neg)) := ((P9.alloc _).alloc _).c2
      have t_P93 : ((w12.alloc (.cells #[.bool d.num.neg, .slice d.num.A d.num.n d.num.c, .bool d.den.neg, .slice d.den.A d.den.n d.den.c] 26)).alloc (.cells #[.int .i64 0, .int .i64 0] 29)).cell? ⟨w11.heap.size, 3, none⟩ = some ((.slice s.den.A s.den.n s.den.c)) := ((P9.alloc _).alloc _).c3
      have t_PC0 : ((w12.alloc (.cells #[.bool d.num.neg, .slice d.num.A d.num.n d.num.c, .bool d.den.neg, .slice d.den.A d.den.n d.den.c] 26)).alloc (.cells #[.int .i64 0, .int .i64 0] 29)).cell? ⟨w.heap.size + 2, 0, none⟩ = some ((.bool c.num.neg)) := ((PC.alloc _).alloc _).c0
      have t_PC1 : ((w12.alloc (.cells #[.bool d.num.neg, .slice d.num.A d.num.n d.num.c, .bool d.den.neg, .slice d.den.A d.den.n d.den.c] 26)).alloc (.cells #[.int .i64 0, .int .i64 0] 29)).cell? ⟨w.heap.size + 2, 1, none⟩ = some ((.slice c.num.A c.num.n c.num.c)) := ((PC.alloc _).alloc _).c1
      have t_PC2 : ((w12.alloc (.cells #[.bool d.num.neg, .slice d.num.A d.num.n d.num.c, .bool d.den.neg, .slice d.den.A d.den.n d.den.c] 26)).alloc (.cells #[.int .i64 0, .int .i64 0] 29)).cell? ⟨w.heap.size + 2, 2, none⟩ = some ((.bool c.den.neg)) := ((PC.alloc _).alloc _).c2
      have t_PC3 : ((w12.alloc (.cells #[.bool d.num.neg, .slice d.num.A d.num.n d.num.c, .bool d.den.neg, .slice d.den.A d.den.n d.den.c] 26)).alloc (.cells #[.int .i64 0, .int .i64 0] 29)).cell? ⟨w.heap.size + 2, 3, none⟩ = some ((.slice c.den.A c.den.n c.den.c)) := ((PC.alloc _).alloc _).c3
      go_wp2_with fail
      clear t_P90 t_P91 t_P92 t_P93 t_PC0 t_PC1 t_PC2 t_PC3
      obtain ⟨V5, hV5⟩ : ∃ V5 : World, V5 = ((w12.alloc (.cells #[.bool d.num.neg, .slice d.num.A d.num.n d.num.c, .bool d.den.neg, .slice d.den.A d.den.n d.den.c] 26)).alloc (.cells #[.int .i64 0, .int .i64 0] 29)) := ⟨_, rfl⟩
      have bV5 : Below w12.heap.size w12 V5 := by rw [hV5]; (repeat (first | with_reducible exact Below.refl _ _ | with_reducible refine Below.drew ?_ | with_reducible refine below_drewN ?_ _ | with_reducible refine Below.setCell ?_ (by first | (simp; done) | (simp; omega) | omega) _ | with_reducible refine Below.alloc ?_ (by first | (simp; done) | (simp; omega) | omega) _))
      have zV5 : w12.heap.size + 2 ≤ V5.heap.size := by rw [hV5]; simp
      have P11 : Bk4 V5 (w12.heap.size) (.bool d.num.neg) (.slice d.num.A d.num.n d.num.c) (.bool d.den.neg) (.slice d.den.A d.den.n d.den.c) := by rw [hV5]; exact ((Bk4.newAt _ _ (by first | omega | (simp; done) | (simp; omega)) _ _ _ _ _).alloc _)
      have F12 : Bk2 V5 (w12.heap.size + 1) (.int .i64 0) (.int .i64 0) := by rw [hV5]; exact (Bk2.newAt _ _ (by first | omega | (simp; done) | (simp; omega)) _ _ _)
      rw [← hV5]
      clear hV5
      replace E : Below w.heap.size w V5 := E.trans (bV5.mono E.size)
      replace Ha1 : LRd V5 (w.heap.size) a.num.A a.num.n a.num.c a.num.xs := Ha1.below bV5 (by omega)
      replace Ha2 : LRd V5 (w.heap.size) a.den.A a.den.n a.den.c a.den.xs := Ha2.below bV5 (by omega)
      replace Hb1 : LRd V5 (w.heap.size) b.num.A b.num.n b.num.c b.num.xs := Hb1.below bV5 (by omega)
      replace Hb2 : LRd V5 (w.heap.size) b.den.A b.den.n b.den.c b.den.xs := Hb2.below bV5 (by omega)
      replace Hc1 : LRd V5 (w.heap.size) c.num.A c.num.n c.num.c c.num.xs := Hc1.below bV5 (by omega)
      replace Hc2 : LRd V5 (w.heap.size) c.den.A c.den.n c.den.c c.den.xs := Hc2.below bV5 (by omega)
      replace PA : Bk4 V5 (w.heap.size) (.bool a.num.neg) (.slice a.num.A a.num.n a.num.c) (.bool a.den.neg) (.slice a.den.A a.den.n a.den.c) := PA.below bV5 PA.lt
      replace PB : Bk4 V5 (w.heap.size + 1) (.bool b.num.neg) (.slice b.num.A b.num.n b.num.c) (.bool b.den.neg) (.slice b.den.A b.den.n b.den.c) := PB.below bV5 PB.lt
      replace PC : Bk4 V5 (w.heap.size + 2) (.bool c.num.neg) (.slice c.num.A c.num.n c.num.c) (.bool c.den.neg) (.slice c.den.A c.den.n c.den.c) := PC.below bV5 PC.lt
      replace Hs1 : LRd V5 (w11.heap.size) s.num.A s.num.n s.num.c s.num.xs := Hs1.below bV5 (by omega)
      replace Hs2 : LRd V5 (w11.heap.size) s.den.A s.den.n s.den.c s.den.xs := Hs2.below bV5 (by omega)
      replace P9 : Bk4 V5 (w11.heap.size) (.bool s.num.neg) (.slice s.num.A s.num.n s.num.c) (.bool s.den.neg) (.slice s.den.A s.den.n s.den.c) := P9.below bV5 P9.lt
      replace F10 : Bk2 V5 (w11.heap.size + 1) (.int .i64 0) (.int .i64 0) := F10.below bV5 F10.lt
      replace Hd1 : LRd V5 (w12.heap.size) d.num.A d.num.n d.num.c d.num.xs := Hd1.below bV5 (by omega)
      replace Hd2 : LRd V5 (w12.heap.size) d.den.A d.den.n d.den.c d.den.xs := Hd2.below bV5 (by omega)
      clear bV5
      have c1 : (s.num.val * c.num.val).natAbs < Top128 := Nat.lt_of_lt_of_le (bd_up top12_2 5 (bd_mul (s3.out) ((by rw [Nat.pow_one]; exact tc.out))) (by decide)) top12_5
      have c2 : (s.den.val * c.den.val).natAbs < Top128 := Nat.lt_of_lt_of_le (bd_up top12_2 5 (bd_mul (s2.out) ((by rw [Nat.pow_one]; exact tc'.out))) (by decide)) top12_5
      (with_reducible refine (rmul_x _ V5.heap.size s c (rv_at (Hs1.more (by omega)) (Hs2.more (by omega))) (rv_at (Hc1.more (by omega)) (Hc2.more (by omega))) (Nat.le_refl _) Os.out oc.out  c1 c2).mono ?_)
      rintro e w13 ⟨p, rfl, hp, op, xp, pp, lp, mp, hb13⟩
      have sw13 := hb13.size
      replace E : Below w.heap.size w w13 := E.trans (hb13.mono E.size)
      replace Ha1 : LRd w13 (w.heap.size) a.num.A a.num.n a.num.c a.num.xs := Ha1.below hb13 (by omega)
      replace Ha2 : LRd w13 (w.heap.size) a.den.A a.den.n a.den.c a.den.xs := Ha2.below hb13 (by omega)
      replace Hb1 : LRd w13 (w.heap.size) b.num.A b.num.n b.num.c b.num.xs := Hb1.below hb13 (by omega)
      replace Hb2 : LRd w13 (w.heap.size) b.den.A b.den.n b.den.c b.den.xs := Hb2.below hb13 (by omega)
      replace Hc1 : LRd w13 (w.heap.size) c.num.A c.num.n c.num.c c.num.xs := Hc1.below hb13 (by omega)
      replace Hc2 : LRd w13 (w.heap.size) c.den.A c.den.n c.den.c c.den.xs := Hc2.below hb13 (by omega)
      replace PA : Bk4 w13 (w.heap.size) (.bool a.num.neg) (.slice a.num.A a.num.n a.num.c) (.bool a.den.neg) (.slice a.den.A a.den.n a.den.c) := PA.below hb13 PA.lt
      replace PB : Bk4 w13 (w.heap.size + 1) (.bool b.num.neg) (.slice b.num.A b.num.n b.num.c) (.bool b.den.neg) (.slice b.den.A b.den.n b.den.c) := PB.below hb13 PB.lt
      replace PC : Bk4 w13 (w.heap.size + 2) (.bool c.num.neg) (.slice c.num.A c.num.n c.num.c) (.bool c.den.neg) (.slice c.den.A c.den.n c.den.c) := PC.below hb13 PC.lt
      replace Hs1 : LRd w13 (w11.heap.size) s.num.A s.num.n s.num.c s.num.xs := Hs1.below hb13 (by omega)
      replace Hs2 : LRd w13 (w11.heap.size) s.den.A s.den.n s.den.c s.den.xs := Hs2.below hb13 (by omega)
      replace P9 : Bk4 w13 (w11.heap.size) (.bool s.num.neg) (.slice s.num.A s.num.n s.num.c) (.bool s.den.neg) (.slice s.den.A s.den.n s.den.c) := P9.below hb13 P9.lt
      replace F10 : Bk2 w13 (w11.heap.size + 1) (.int .i64 0) (.int .i64 0) := F10.below hb13 F10.lt
      replace Hd1 : LRd w13 (w12.heap.size) d.num.A d.num.n d.num.c d.num.xs := Hd1.below hb13 (by omega)
      replace Hd2 : LRd w13 (w12.heap.size) d.den.A d.den.n d.den.c d.den.xs := Hd2.below hb13 (by omega)
      replace P11 : Bk4 w13 (w12.heap.size) (.bool d.num.neg) (.slice d.num.A d.num.n d.num.c) (.bool d.den.neg) (.slice d.den.A d.den.n d.den.c) := P11.below hb13 P11.lt
      replace F12 : Bk2 w13 (w12.heap.size + 1) (.int .i64 0) (.int .i64 0) := F12.below hb13 F12.lt
      clear hb13
      clear c1 c2
      have Op := Lib.hid op
      have Xp := Lib.hid xp
      have Wp := Lib.hid (And.intro pp (And.intro lp mp))
      have Gp := Lib.hid (rv_low op hp)
      have Np := Lib.hid (RV.val op hp).num
      have Dp := Lib.hid (RV.val op hp).den
      have Hp1 : LRd w13 w13.heap.size p.num.A p.num.n p.num.c p.num.xs := hp.1
      have Hp2 : LRd w13 w13.heap.size p.den.A p.den.n p.den.c p.den.xs := hp.2
      clear hp op xp pp lp mp
      have t_PA0 : ((w13.alloc (.cells #[.bool p.num.neg, .slice p.num.A p.num.n p.num.c, .bool p.den.neg, .slice p.den.A p.den.n p.den.c] 26)).alloc (.cells #[.int .i64 0, .int .i64 0] 29)).cell? ⟨w.heap.size, 0, none⟩ = some ((.bool a.num.neg)) := ((PA.alloc _).alloc _).c0
      have t_PA1 : ((w13.alloc (.cells #[.bool p.num.neg, .slice p.num.A p.num.n p.num.c, .bool p.den.neg, .slice p.den.A p.den.n p.den.c] 26)).alloc (.cells #[.int .i64 0, .int .i64 0] 29)).cell? ⟨w.heap.size, 1, none⟩ = some ((.slice a.num.A a.num.n a.num.c)) := ((PA.alloc _).alloc _).c1
      have t_PA2 : ((w13.alloc (.cells #[.bool p.num.neg, .slice p.num.A p.num.n p.num.c, .bool p.den.neg, .slice p.den.A p.den.n p.den.c] 26)).alloc (.cells #[.int .i64 0, .int .i64 0] 29)).cell? ⟨w.heap.size, 2, none⟩ = some ((.bool a.den.neg)) := ((PA.alloc _).alloc _).c2
      have t_PA3 : ((w13.alloc (.cells #[.bool p.num.neg, .slice p.num.A p.num.n p.num.c, .bool p.den.neg, .slice p.den.A p.den.n p.den.c] 26)).alloc (.cells #[.int .i64 0, .int .i64 0] 29)).cell? ⟨w.heap.size, 3, none⟩ = some ((.slice a.den.A a.den.n a.den.c)) := ((PA.alloc _).alloc _).c3
      have t_PC0 : ((w13.alloc (.cells #[.bool p.num.neg, .slice p.num.A p.num.n p.num.c, .bool p.den.neg, .slice p.den.A p.den.n p.den.c] 26)).alloc (.cells #[.int .i64 0, .int .i64 0] 29)).cell? ⟨w.heap.size + 2, 0, none⟩ = some ((.bool c.num.neg)) := ((PC.alloc _).alloc _).c0
      have t_PC1 : ((w13.alloc (.cells #[.bool p.num.neg, .slice p.num.A p.num.n p.num.c, .bool p.den.neg, .slice p.den.A p.den.n p.den.c] 26)).alloc (.cells #[.int .i64 0, .int .i64 0] 29)).cell? ⟨w.heap.size + 2, 1, none⟩ = some ((.slice c.num.A c.num.n c.num.c)) := ((PC.alloc _).alloc _).c1
      have t_PC2 : ((w13.alloc (.cells #[.bool p.num.neg, .slice p.num.A p.num.n p.num.c, .bool p.den.neg, .slice p.den.A p.den.n p.den.c] 26)).alloc (.cells #[.int .i64 0, .int .i64 0] 29)).cell? ⟨w.heap.size + 2, 2, none⟩ = some ((.bool c.den.neg)) := ((PC.alloc _).alloc _).c2
      have t_PC3 : ((w13.alloc (.cells #[.bool p.num.neg, .slice p.num.A p.num.n p.num.c, .bool p.den.neg, .slice p.den.A p.den.n p.den.c] 26)).alloc (.cells #[.int .i64 0, .int .i64 0] 29)).cell? ⟨w.heap.size + 2, 3, none⟩ = some ((.slice c.den.A c.den.n c.den.c)) := ((PC.alloc _).alloc _).c3
      go_wp2_with fail
      clear t_PA0 t_PA1 t_PA2 t_PA3 t_PC0 t_PC1 t_PC2 t_PC3
      obtain ⟨V6, hV6⟩ : ∃ V6 : World, V6 = ((w13.alloc (.cells #[.bool p.num.neg, .slice p.num.A p.num.n p.num.c, .bool p.den.neg, .slice p.den.A p.den.n p.den.c] 26)).alloc (.cells #[.int .i64 0, .int .i64 0] 29)) := ⟨_, rfl⟩
      have bV6 : Below w13.heap.size w13 V6 := by rw [hV6]; (repeat (first | with_reducible exact Below.refl _ _ | with_reducible refine Below.drew ?_ | with_reducible refine below_drewN ?_ _ | with_reducible refine Below.setCell ?_ (by first | (simp; done) | (simp; omega) | omega) _ | with_reducible refine Below.alloc ?_ (by first | (simp; done) | (simp; omega) | omega) _))
      have zV6 : w13.heap.size + 2 ≤ V6.heap.size := by rw [hV6]; simp
      have P13 : Bk4 V6 (w13.heap.size) (.bool p.num.neg) (.slice p.num.A p.num.n p.num.c) (.bool p.den.neg) (.slice p.den.A p.den.n p.den.c) := by rw [hV6]; exact ((Bk4.newAt _ _ (by first | omega | (simp; done) | (simp; omega)) _ _ _ _ _).alloc _)
      have F14 : Bk2 V6 (w13.heap.size + 1) (.int .i64 0) (.int .i64 0) := by rw [hV6]; exact (Bk2.newAt _ _ (by first | omega | (simp; done) | (simp; omega)) _ _ _)
      rw [← hV6]
      clear hV6
      replace E : Below w.heap.size w V6 := E.trans (bV6.mono E.size)
      replace Ha1 : LRd V6 (w.heap.size) a.num.A a.num.n a.num.c a.num.xs := Ha1.below bV6 (by omega)
      replace Ha2 : LRd V6 (w.heap.size) a.den.A a.den.n a.den.c a.den.xs := Ha2.below bV6 (by omega)
      replace Hb1 : LRd V6 (w.heap.size) b.num.A b.num.n b.num.c b.num.xs := Hb1.below bV6 (by omega)
      replace Hb2 : LRd V6 (w.heap.size) b.den.A b.den.n b.den.c b.den.xs := Hb2.below bV6 (by omega)
      replace Hc1 : LRd V6 (w.heap.size) c.num.A c.num.n c.num.c c.num.xs := Hc1.below bV6 (by omega)
      replace Hc2 : LRd V6 (w.heap.size) c.den.A c.den.n c.den.c c.den.xs := Hc2.below bV6 (by omega)
      replace PA : Bk4 V6 (w.heap.size) (.bool a.num.neg) (.slice a.num.A a.num.n a.num.c) (.bool a.den.neg) (.slice a.den.A a.den.n a.den.c) := PA.below bV6 PA.lt
      replace PB : Bk4 V6 (w.heap.size + 1) (.bool b.num.neg) (.slice b.num.A b.num.n b.num.c) (.bool b.den.neg) (.slice b.den.A b.den.n b.den.c) := PB.below bV6 PB.lt
      replace PC : Bk4 V6 (w.heap.size + 2) (.bool c.num.neg) (.slice c.num.A c.num.n c.num.c) (.bool c.den.neg) (.slice c.den.A c.den.n c.den.c) := PC.below bV6 PC.lt
      replace Hs1 : LRd V6 (w11.heap.size) s.num.A s.num.n s.num.c s.num.xs := Hs1.below bV6 (by omega)
      replace Hs2 : LRd V6 (w11.heap.size) s.den.A s.den.n s.den.c s.den.xs := Hs2.below bV6 (by omega)
      replace P9 : Bk4 V6 (w11.heap.size) (.bool s.num.neg) (.slice s.num.A s.num.n s.num.c) (.bool s.den.neg) (.slice s.den.A s.den.n s.den.c) := P9.below bV6 P9.lt
      replace F10 : Bk2 V6 (w11.heap.size + 1) (.int .i64 0) (.int .i64 0) := F10.below bV6 F10.lt
      replace Hd1 : LRd V6 (w12.heap.size) d.num.A d.num.n d.num.c d.num.xs := Hd1.below bV6 (by omega)
      replace Hd2 : LRd V6 (w12.heap.size) d.den.A d.den.n d.den.c d.den.xs := Hd2.below bV6 (by omega)
      replace P11 : Bk4 V6 (w12.heap.size) (.bool d.num.neg) (.slice d.num.A d.num.n d.num.c) (.bool d.den.neg) (.slice d.den.A d.den.n d.den.c) := P11.below bV6 P11.lt
      replace F12 : Bk2 V6 (w12.heap.size + 1) (.int .i64 0) (.int .i64 0) := F12.below bV6 F12.lt
      replace Hp1 : LRd V6 (w13.heap.size) p.num.A p.num.n p.num.c p.num.xs := Hp1.below bV6 (by omega)
      replace Hp2 : LRd V6 (w13.heap.size) p.den.A p.den.n p.den.c p.den.xs := Hp2.below bV6 (by omega)
      clear bV6
      have c1 : (a.num.val * c.num.val).natAbs < Top128 := Nat.lt_of_lt_of_le (bd_up top12_2 5 (bd_mul ((by rw [Nat.pow_one]; exact ta.out)) ((by rw [Nat.pow_one]; exact tc.out))) (by decide)) top12_5
      have c2 : (a.den.val * c.den.val).natAbs < Top128 := Nat.lt_of_lt_of_le (bd_up top12_2 5 (bd_mul ((by rw [Nat.pow_one]; exact ta'.out)) ((by rw [Nat.pow_one]; exact tc'.out))) (by decide)) top12_5
      (with_reducible refine (rmul_x _ V6.heap.size a c (rv_at (Ha1.more (by omega)) (Ha2.more (by omega))) (rv_at (Hc1.more (by omega)) (Hc2.more (by omega))) (Nat.le_refl _) oa.out oc.out  c1 c2).mono ?_)
      rintro e w14 ⟨x, rfl, hx, ox, xx, px, lx, mx, hb14⟩
      have sw14 := hb14.size
      replace E : Below w.heap.size w w14 := E.trans (hb14.mono E.size)
      replace Ha1 : LRd w14 (w.heap.size) a.num.A a.num.n a.num.c a.num.xs := Ha1.below hb14 (by omega)
      replace Ha2 : LRd w14 (w.heap.size) a.den.A a.den.n a.den.c a.den.xs := Ha2.below hb14 (by omega)
      replace Hb1 : LRd w14 (w.heap.size) b.num.A b.num.n b.num.c b.num.xs := Hb1.below hb14 (by omega)
      replace Hb2 : LRd w14 (w.heap.size) b.den.A b.den.n b.den.c b.den.xs := Hb2.below hb14 (by omega)
      replace Hc1 : LRd w14 (w.heap.size) c.num.A c.num.n c.num.c c.num.xs := Hc1.below hb14 (by omega)
      replace Hc2 : LRd w14 (w.heap.size) c.den.A c.den.n c.den.c c.den.xs := Hc2.below hb14 (by omega)
      replace PA : Bk4 w14 (w.heap.size) (.bool a.num.neg) (.slice a.num.A a.num.n a.num.c) (.bool a.den.neg) (.slice a.den.A a.den.n a.den.c) := PA.below hb14 PA.lt
      replace PB : Bk4 w14 (w.heap.size + 1) (.bool b.num.neg) (.slice b.num.A b.num.n b.num.c) (.bool b.den.neg) (.slice b.den.A b.den.n b.den.c) := PB.below hb14 PB.lt
      replace PC : Bk4 w14 (w.heap.size + 2) (.bool c.num.neg) (.slice c.num.A c.num.n c.num.c) (.bool c.den.neg) (.slice c.den.A c.den.n c.den.c) := PC.below hb14 PC.lt
      replace Hs1 : LRd w14 (w11.heap.size) s.num.A s.num.n s.num.c s.num.xs := Hs1.below hb14 (by omega)
      replace Hs2 : LRd w14 (w11.heap.size) s.den.A s.den.n s.den.c s.den.xs := Hs2.below hb14 (by omega)
      replace P9 : Bk4 w14 (w11.heap.size) (.bool s.num.neg) (.slice s.num.A s.num.n s.num.c) (.bool s.den.neg) (.slice s.den.A s.den.n s.den.c) := P9.below hb14 P9.lt
      replace F10 : Bk2 w14 (w11.heap.size + 1) (.int .i64 0) (.int .i64 0) := F10.below hb14 F10.lt
      replace Hd1 : LRd w14 (w12.heap.size) d.num.A d.num.n d.num.c d.num.xs := Hd1.below hb14 (by omega)
      replace Hd2 : LRd w14 (w12.heap.size) d.den.A d.den.n d.den.c d.den.xs := Hd2.below hb14 (by omega)
      replace P11 : Bk4 w14 (w12.heap.size) (.bool d.num.neg) (.slice d.num.A d.num.n d.num.c) (.bool d.den.neg) (.slice d.den.A d.den.n d.den.c) := P11.below hb14 P11.lt
      replace F12 : Bk2 w14 (w12.heap.size + 1) (.int .i64 0) (.int .i64 0) := F12.below hb14 F12.lt
      replace Hp1 : LRd w14 (w13.heap.size) p.num.A p.num.n p.num.c p.num.xs := Hp1.below hb14 (by omega)
      replace Hp2 : LRd w14 (w13.heap.size) p.den.A p.den.n p.den.c p.den.xs := Hp2.below hb14 (by omega)
      replace P13 : Bk4 w14 (w13.heap.size) (.bool p.num.neg) (.slice p.num.A p.num.n p.num.c) (.bool p.den.neg) (.slice p.den.A p.den.n p.den.c) := P13.below hb14 P13.lt
      replace F14 : Bk2 w14 (w13.heap.size + 1) (.int .i64 0) (.int .i64 0) := F14.below hb14 F14.lt
      clear hb14
      clear c1 c2
      have Ox := Lib.hid ox
      have Xx := Lib.hid xx
      have Wx := Lib.hid (And.intro px (And.intro lx mx))
      have Gx := Lib.hid (rv_low ox hx)
      have Nx := Lib.hid (RV.val ox hx).num
      have Dx := Lib.hid (RV.val ox hx).den
      have Hx1 : LRd w14 w14.heap.size x.num.A x.num.n x.num.c x.num.xs := hx.1
      have Hx2 : LRd w14 w14.heap.size x.den.A x.den.n x.den.c x.den.xs := hx.2
      clear hx ox xx px lx mx
      have x1 : Hid (x.num.val.natAbs < Top12 ^ 2) := Lib.hid (Nat.lt_of_le_of_lt Wx.out.2.1 (bd_mul ((by rw [Nat.pow_one]; exact ta.out)) ((by rw [Nat.pow_one]; exact tc.out))))
      have x2 : Hid (x.den.val.natAbs < Top12 ^ 2) := Lib.hid (Nat.lt_of_le_of_lt Wx.out.2.2 (bd_mul ((by rw [Nat.pow_one]; exact ta'.out)) ((by rw [Nat.pow_one]; exact tc'.out))))
      have t_PB0 : ((w14.alloc (.cells #[.bool x.num.neg, .slice x.num.A x.num.n x.num.c, .bool x.den.neg, .slice x.den.A x.den.n x.den.c] 26)).alloc (.cells #[.int .i64 0, .int .i64 0] 29)).cell? ⟨w.heap.size + 1, 0, none⟩ = some ((.bool b.num.neg)) := ((PB.alloc _).alloc _).c0
      have t_PB1 : ((w14.alloc (.cells #[.bool x.num.neg, .slice x.num.A x.num.n x.num.c, .bool x.den.neg, .slice x.den.A x.den.n x.den.c] 26)).alloc (.cells #[.int .i64 0, .int .i64 0] 29)).cell? ⟨w.heap.size + 1, 1, none⟩ = some ((.slice b.num.A b.num.n b.num.c)) := ((PB.alloc _).alloc _).c1
      have t_PB2 : ((w14.alloc (.cells #[.bool x.num.neg, .slice x.num.A x.num.n x.num.c, .bool x.den.neg, .slice x.den.A x.den.n x.den.c] 26)).alloc (.cells #[.int .i64 0, .int .i64 0] 29)).cell? ⟨w.heap.size + 1, 2, none⟩ = some ((.bool b.den.neg)) := ((PB.alloc _).alloc _).c2
      have t_PB3 : ((w14.alloc (.cells #[.bool x.num.neg, .slice x.num.A x.num.n x.num.c, .bool x.den.neg, .slice x.den.A x.den.n x.den.c] 26)).alloc (.cells #[.int .i64 0, .int .i64 0] 29)).cell? ⟨w.heap.size + 1, 3, none⟩ = some ((.slice b.den.A b.den.n b.den.c)) := ((PB.alloc _).alloc _).c3
      have t_PC0 : ((w14.alloc (.cells #[.bool x.num.neg, .slice x.num.A x.num.n x.num.c, .bool x.den.neg, .slice x.den.A x.den.n x.den.c] 26)).alloc (.cells #[.int .i64 0, .int .i64 0] 29)).cell? ⟨w.heap.size + 2, 0, none⟩ = some ((.bool c.num.neg)) := ((PC.alloc _).alloc _).c0
      have t_PC1 : ((w14.alloc (.cells #[.bool x.num.neg, .slice x.num.A x.num.n x.num.c, .bool x.den.neg, .slice x.den.A x.den.n x.den.c] 26)).alloc (.cells #[.int .i64 0, .int .i64 0] 29)).cell? ⟨w.heap.size + 2, 1, none⟩ = some ((.slice c.num.A c.num.n c.num.c)) := ((PC.alloc _).alloc _).c1
      have t_PC2 : ((w14.alloc (.cells #[.bool x.num.neg, .slice x.num.A x.num.n x.num.c, .bool x.den.neg, .slice x.den.A x.den.n x.den.c] 26)).alloc (.cells #[.int .i64 0, .int .i64 0] 29)).cell? ⟨w.heap.size + 2, 2, none⟩ = some ((.bool c.den.neg)) := ((PC.alloc _).alloc _).c2
      have t_PC3 : ((w14.alloc (.cells #[.bool x.num.neg, .slice x.num.A x.num.n x.num.c, .bool x.den.neg, .slice x.den.A x.den.n x.den.c] 26)).alloc (.cells #[.int .i64 0, .int .i64 0] 29)).cell? ⟨w.heap.size + 2, 3, none⟩ = some ((.slice c.den.A c.den.n c.den.c)) := ((PC.alloc _).alloc _).c3
      go_wp2_with fail
      clear t_PB0 t_PB1 t_PB2 t_PB3 t_PC0 t_PC1 t_PC2 t_PC3
      obtain ⟨V7, hV7⟩ : ∃ V7 : World, V7 = ((w14.alloc (.cells #[.bool x.num.neg, .slice x.num.A x.num.n x.num.c, .bool x.den.neg, .slice x.den.A x.den.n x.den.c] 26)).alloc (.cells #[.int .i64 0, .int .i64 0] 29)) := ⟨_, rfl⟩
      have bV7 : Below w14.heap.size w14 V7 := by rw [hV7]; (repeat (first | with_reducible exact Below.refl _ _ | with_reducible refine Below.drew ?_ | with_reducible refine below_drewN ?_ _ | with_reducible refine Below.setCell ?_ (by first | (simp; done) | (simp; omega) | omega) _ | with_reducible refine Below.alloc ?_ (by first | (simp; done) | (simp; omega) | omega) _))
      have zV7 : w14.heap.size + 2 ≤ V7.heap.size := by rw [hV7]; simp
      have P15 : Bk4 V7 (w14.heap.size) (.bool x.num.neg) (.slice x.num.A x.num.n x.num.c) (.bool x.den.neg) (.slice x.den.A x.den.n x.den.c) := by rw [hV7]; exact ((Bk4.newAt _ _ (by first | omega | (simp; done) | (simp; omega)) _ _ _ _ _).alloc _)
      have F16 : Bk2 V7 (w14.heap.size + 1) (.int .i64 0) (.int .i64 0) := by rw [hV7]; exact (Bk2.newAt _ _ (by first | omega | (simp; done) | (simp; omega)) _ _ _)
      rw [← hV7]
      clear hV7
      replace E : Below w.heap.size w V7 := E.trans (bV7.mono E.size)
      replace Ha1 : LRd V7 (w.heap.size) a.num.A a.num.n a.num.c a.num.xs := Ha1.below bV7 (by omega)
      replace Ha2 : LRd V7 (w.heap.size) a.den.A a.den.n a.den.c a.den.xs := Ha2.below bV7 (by omega)
      replace Hb1 : LRd V7 (w.heap.size) b.num.A b.num.n b.num.c b.num.xs := Hb1.below bV7 (by omega)
      replace Hb2 : LRd V7 (w.heap.size) b.den.A b.den.n b.den.c b.den.xs := Hb2.below bV7 (by omega)
      replace Hc1 : LRd V7 (w.heap.size) c.num.A c.num.n c.num.c c.num.xs := Hc1.below bV7 (by omega)
      replace Hc2 : LRd V7 (w.heap.size) c.den.A c.den.n c.den.c c.den.xs := Hc2.below bV7 (by omega)
      replace PA : Bk4 V7 (w.heap.size) (.bool a.num.neg) (.slice a.num.A a.num.n a.num.c) (.bool a.den.neg) (.slice a.den.A a.den.n a.den.c) := PA.below bV7 PA.lt
      replace PB : Bk4 V7 (w.heap.size + 1) (.bool b.num.neg) (.slice b.num.A b.num.n b.num.c) (.bool b.den.neg) (.slice b.den.A b.den.n b.den.c) := PB.below bV7 PB.lt
      replace PC : Bk4 V7 (w.heap.size + 2) (.bool c.num.neg) (.slice c.num.A c.num.n c.num.c) (.bool c.den.neg) (.slice c.den.A c.den.n c.den.c) := PC.below bV7 PC.lt
      replace Hs1 : LRd V7 (w11.heap.size) s.num.A s.num.n s.num.c s.num.xs := Hs1.below bV7 (by omega)
      replace Hs2 : LRd V7 (w11.heap.size) s.den.A s.den.n s.den.c s.den.xs := Hs2.below bV7 (by omega)
      replace P9 : Bk4 V7 (w11.heap.size) (.bool s.num.neg) (.slice s.num.A s.num.n s.num.c) (.bool s.den.neg) (.slice s.den.A s.den.n s.den.c) := P9.below bV7 P9.lt
      replace F10 : Bk2 V7 (w11.heap.size + 1) (.int .i64 0) (.int .i64 0) := F10.below bV7 F10.lt
      replace Hd1 : LRd V7 (w12.heap.size) d.num.A d.num.n d.num.c d.num.xs := Hd1.below bV7 (by omega)
      replace Hd2 : LRd V7 (w12.heap.size) d.den.A d.den.n d.den.c d.den.xs := Hd2.below bV7 (by omega)
      replace P11 : Bk4 V7 (w12.heap.size) (.bool d.num.neg) (.slice d.num.A d.num.n d.num.c) (.bool d.den.neg) (.slice d.den.A d.den.n d.den.c) := P11.below bV7 P11.lt
      replace F12 : Bk2 V7 (w12.heap.size + 1) (.int .i64 0) (.int .i64 0) := F12.below bV7 F12.lt
      replace Hp1 : LRd V7 (w13.heap.size) p.num.A p.num.n p.num.c p.num.xs := Hp1.below bV7 (by omega)
      replace Hp2 : LRd V7 (w13.heap.size) p.den.A p.den.n p.den.c p.den.xs := Hp2.below bV7 (by omega)
      replace P13 : Bk4 V7 (w13.heap.size) (.bool p.num.neg) (.slice p.num.A p.num.n p.num.c) (.bool p.den.neg) (.slice p.den.A p.den.n p.den.c) := P13.below bV7 P13.lt
      replace F14 : Bk2 V7 (w13.heap.size + 1) (.int .i64 0) (.int .i64 0) := F14.below bV7 F14.lt
      replace Hx1 : LRd V7 (w14.heap.size) x.num.A x.num.n x.num.c x.num.xs := Hx1.below bV7 (by omega)
      replace Hx2 : LRd V7 (w14.heap.size) x.den.A x.den.n x.den.c x.den.xs := Hx2.below bV7 (by omega)
      clear bV7
      have c1 : (b.num.val * c.num.val).natAbs < Top128 := Nat.lt_of_lt_of_le (bd_up top12_2 5 (bd_mul ((by rw [Nat.pow_one]; exact tb.out)) ((by rw [Nat.pow_one]; exact tc.out))) (by decide)) top12_5
      have c2 : (b.den.val * c.den.val).natAbs < Top128 := Nat.lt_of_lt_of_le (bd_up top12_2 5 (bd_mul ((by rw [Nat.pow_one]; exact tb'.out)) ((by rw [Nat.pow_one]; exact tc'.out))) (by decide)) top12_5
      (with_reducible refine (rmul_x _ V7.heap.size b c (rv_at (Hb1.more (by omega)) (Hb2.more (by omega))) (rv_at (Hc1.more (by omega)) (Hc2.more (by omega))) (Nat.le_refl _) ob.out oc.out  c1 c2).mono ?_)
      rintro e w15 ⟨y, rfl, hy, oy, xy, py, ly, my, hb15⟩
      have sw15 := hb15.size
      replace E : Below w.heap.size w w15 := E.trans (hb15.mono E.size)
      replace Ha1 : LRd w15 (w.heap.size) a.num.A a.num.n a.num.c a.num.xs := Ha1.below hb15 (by omega)
      replace Ha2 : LRd w15 (w.heap.size) a.den.A a.den.n a.den.c a.den.xs := Ha2.below hb15 (by omega)
      replace Hb1 : LRd w15 (w.heap.size) b.num.A b.num.n b.num.c b.num.xs := Hb1.below hb15 (by omega)
      replace Hb2 : LRd w15 (w.heap.size) b.den.A b.den.n b.den.c b.den.xs := Hb2.below hb15 (by omega)
      replace Hc1 : LRd w15 (w.heap.size) c.num.A c.num.n c.num.c c.num.xs := Hc1.below hb15 (by omega)
      replace Hc2 : LRd w15 (w.heap.size) c.den.A c.den.n c.den.c c.den.xs := Hc2.below hb15 (by omega)
      replace PA : Bk4 w15 (w.heap.size) (.bool a.num.neg) (.slice a.num.A a.num.n a.num.c) (.bool a.den.neg) (.slice a.den.A a.den.n a.den.c) := PA.below hb15 PA.lt
      replace PB : Bk4 w15 (w.heap.size + 1) (.bool b.num.neg) (.slice b.num.A b.num.n b.num.c) (.bool b.den.neg) (.slice b.den.A b.den.n b.den.c) := PB.below hb15 PB.lt
      replace PC : Bk4 w15 (w.heap.size + 2) (.bool c.num.neg) (.slice c.num.A c.num.n c.num.c) (.bool c.den.neg) (.slice c.den.A c.den.n c.den.c) := PC.below hb15 PC.lt
      replace Hs1 : LRd w15 (w11.heap.size) s.num.A s.num.n s.num.c s.num.xs := Hs1.below hb15 (by omega)
      replace Hs2 : LRd w15 (w11.heap.size) s.den.A s.den.n s.den.c s.den.xs := Hs2.below hb15 (by omega)
      replace P9 : Bk4 w15 (w11.heap.size) (.bool s.num.neg) (.slice s.num.A s.num.n s.num.c) (.bool s.den.neg) (.slice s.den.A s.den.n s.den.c) := P9.below hb15 P9.lt
      replace F10 : Bk2 w15 (w11.heap.size + 1) (.int .i64 0) (.int .i64 0) := F10.below hb15 F10.lt
      replace Hd1 : LRd w15 (w12.heap.size) d.num.A d.num.n d.num.c d.num.xs := Hd1.below hb15 (by omega)
      replace Hd2 : LRd w15 (w12.heap.size) d.den.A d.den.n d.den.c d.den.xs := Hd2.below hb15 (by omega)
      replace P11 : Bk4 w15 (w12.heap.size) (.bool d.num.neg) (.slice d.num.A d.num.n d.num.c) (.bool d.den.neg) (.slice d.den.A d.den.n d.den.c) := P11.below hb15 P11.lt
      replace F12 : Bk2 w15 (w12.heap.size + 1) (.int .i64 0) (.int .i64 0) := F12.below hb15 F12.lt
      replace Hp1 : LRd w15 (w13.heap.size) p.num.A p.num.n p.num.c p.num.xs := Hp1.below hb15 (by omega)
      replace Hp2 : LRd w15 (w13.heap.size) p.den.A p.den.n p.den.c p.den.xs := Hp2.below hb15 (by omega)
      replace P13 : Bk4 w15 (w13.heap.size) (.bool p.num.neg) (.slice p.num.A p.num.n p.num.c) (.bool p.den.neg) (.slice p.den.A p.den.n p.den.c) := P13.below hb15 P13.lt
      replace F14 : Bk2 w15 (w13.heap.size + 1) (.int .i64 0) (.int .i64 0) := F14.below hb15 F14.lt
      replace Hx1 : LRd w15 (w14.heap.size) x.num.A x.num.n x.num.c x.num.xs := Hx1.below hb15 (by omega)
      replace Hx2 : LRd w15 (w14.heap.size) x.den.A x.den.n x.den.c x.den.xs := Hx2.below hb15 (by omega)
      replace P15 : Bk4 w15 (w14.heap.size) (.bool x.num.neg) (.slice x.num.A x.num.n x.num.c) (.bool x.den.neg) (.slice x.den.A x.den.n x.den.c) := P15.below hb15 P15.lt
      replace F16 : Bk2 w15 (w14.heap.size + 1) (.int .i64 0) (.int .i64 0) := F16.below hb15 F16.lt
      clear hb15
      clear c1 c2
      have Oy := Lib.hid oy
      have Xy := Lib.hid xy
      have Wy := Lib.hid (And.intro py (And.intro ly my))
      have Gy := Lib.hid (rv_low oy hy)
      have Ny := Lib.hid (RV.val oy hy).num
      have Dy := Lib.hid (RV.val oy hy).den
      have Hy1 : LRd w15 w15.heap.size y.num.A y.num.n y.num.c y.num.xs := hy.1
      have Hy2 : LRd w15 w15.heap.size y.den.A y.den.n y.den.c y.den.xs := hy.2
      clear hy oy xy py ly my
      have y1 : Hid (y.num.val.natAbs < Top12 ^ 2) := Lib.hid (Nat.lt_of_le_of_lt Wy.out.2.1 (bd_mul ((by rw [Nat.pow_one]; exact tb.out)) ((by rw [Nat.pow_one]; exact tc.out))))
      have y2 : Hid (y.den.val.natAbs < Top12 ^ 2) := Lib.hid (Nat.lt_of_le_of_lt Wy.out.2.2 (bd_mul ((by rw [Nat.pow_one]; exact tb'.out)) ((by rw [Nat.pow_one]; exact tc'.out))))
      have t_P150 : ((w15.alloc (.cells #[.bool y.num.neg, .slice y.num.A y.num.n y.num.c, .bool y.den.neg, .slice y.den.A y.den.n y.den.c] 26)).alloc (.cells #[.int .i64 0, .int .i64 0] 29)).cell? ⟨w14.heap.size, 0, none⟩ = some ((.bool x.num.neg)) := ((P15.alloc _).alloc _).c0
      have t_P151 : ((w15.alloc (.cells #[.bool y.num.neg, .slice y.num.A y.num.n y.num.c, .bool y.den.neg, .slice y.den.A y.den.n y.den.c] 26)).alloc (.cells #[.int .i64 0, .int .i64 0] 29)).cell? ⟨w14.heap.size, 1, none⟩ = some ((.slice x.num.A x.num.n x.num.c)) := ((P15.alloc _).alloc _).c1
      have t_P152 : ((w15.alloc (.cells #[.bool y.num.neg, .slice y.num.A y.num.n y.num.c, .bool y.den.neg, .slice y.den.A y.den.n y.den.c] 26)).alloc (.cells #[.int .i64 0, .int .i64 0] 29)).cell? ⟨w14.heap.size, 2, none⟩ = some ((.bool x.den.neg)) := ((P15.alloc _).alloc _).c2
      have t_P153 : ((w15.alloc (.cells #[.bool y.num.neg, .slice y.num.A y.num.n y.num.c, .bool y.den.neg, .slice y.den.A y.den.n y.den.c] 26)).alloc (.cells #[.int .i64 0, .int .i64 0] 29)).cell? ⟨w14.heap.size, 3, none⟩ = some ((.slice x.den.A x.den.n x.den.c)) := ((P15.alloc _).alloc _).c3
      go_wp2_with fail
      clear t_P150 t_P151 t_P152 t_P153
      obtain ⟨V8, hV8⟩ : ∃ V8 : World, V8 = ((w15.alloc (.cells #[.bool y.num.neg, .slice y.num.A y.num.n y.num.c, .bool y.den.neg, .slice y.den.A y.den.n y.den.c] 26)).alloc (.cells #[.int .i64 0, .int .i64 0] 29)) := ⟨_, rfl⟩
      have bV8 : Below w15.heap.size w15 V8 := by rw [hV8]; (repeat (first | with_reducible exact Below.refl _ _ | with_reducible refine Below.drew ?_ | with_reducible refine below_drewN ?_ _ | with_reducible refine Below.setCell ?_ (by first | (simp; done) | (simp; omega) | omega) _ | with_reducible refine Below.alloc ?_ (by first | (simp; done) | (simp; omega) | omega) _))
      have zV8 : w15.heap.size + 2 ≤ V8.heap.size := by rw [hV8]; simp
      have P17 : Bk4 V8 (w15.heap.size) (.bool y.num.neg) (.slice y.num.A y.num.n y.num.c) (.bool y.den.neg) (.slice y.den.A y.den.n y.den.c) := by rw [hV8]; exact ((Bk4.newAt _ _ (by first | omega | (simp; done) | (simp; omega)) _ _ _ _ _).alloc _)
      have F18 : Bk2 V8 (w15.heap.size + 1) (.int .i64 0) (.int .i64 0) := by rw [hV8]; exact (Bk2.newAt _ _ (by first | omega | (simp; done) | (simp; omega)) _ _ _)
      rw [← hV8]
      clear hV8
      replace E : Below w.heap.size w V8 := E.trans (bV8.mono E.size)
      replace Ha1 : LRd V8 (w.heap.size) a.num.A a.num.n a.num.c a.num.xs := Ha1.below bV8 (by omega)
      replace Ha2 : LRd V8 (w.heap.size) a.den.A a.den.n a.den.c a.den.xs := Ha2.below bV8 (by omega)
      replace Hb1 : LRd V8 (w.heap.size) b.num.A b.num.n b.num.c b.num.xs := Hb1.below bV8 (by omega)
      replace Hb2 : LRd V8 (w.heap.size) b.den.A b.den.n b.den.c b.den.xs := Hb2.below bV8 (by omega)
      replace Hc1 : LRd V8 (w.heap.size) c.num.A c.num.n c.num.c c.num.xs := Hc1.below bV8 (by omega)
      replace Hc2 : LRd V8 (w.heap.size) c.den.A c.den.n c.den.c c.den.xs := Hc2.below bV8 (by omega)
      replace PA : Bk4 V8 (w.heap.size) (.bool a.num.neg) (.slice a.num.A a.num.n a.num.c) (.bool a.den.neg) (.slice a.den.A a.den.n a.den.c) := PA.below bV8 PA.lt
      replace PB : Bk4 V8 (w.heap.size + 1) (.bool b.num.neg) (.slice b.num.A b.num.n b.num.c) (.bool b.den.neg) (.slice b.den.A b.den.n b.den.c) := PB.below bV8 PB.lt
      replace PC : Bk4 V8 (w.heap.size + 2) (.bool c.num.neg) (.slice c.num.A c.num.n c.num.c) (.bool c.den.neg) (.slice c.den.A c.den.n c.den.c) := PC.below bV8 PC.lt
      replace Hs1 : LRd V8 (w11.heap.size) s.num.A s.num.n s.num.c s.num.xs := Hs1.below bV8 (by omega)
      replace Hs2 : LRd V8 (w11.heap.size) s.den.A s.den.n s.den.c s.den.xs := Hs2.below bV8 (by omega)
      replace P9 : Bk4 V8 (w11.heap.size) (.bool s.num.neg) (.slice s.num.A s.num.n s.num.c) (.bool s.den.neg) (.slice s.den.A s.den.n s.den.c) := P9.below bV8 P9.lt
      replace F10 : Bk2 V8 (w11.heap.size + 1) (.int .i64 0) (.int .i64 0) := F10.below bV8 F10.lt
      replace Hd1 : LRd V8 (w12.heap.size) d.num.A d.num.n d.num.c d.num.xs := Hd1.below bV8 (by omega)
      replace Hd2 : LRd V8 (w12.heap.size) d.den.A d.den.n d.den.c d.den.xs := Hd2.below bV8 (by omega)
      replace P11 : Bk4 V8 (w12.heap.size) (.bool d.num.neg) (.slice d.num.A d.num.n d.num.c) (.bool d.den.neg) (.slice d.den.A d.den.n d.den.c) := P11.below bV8 P11.lt
      replace F12 : Bk2 V8 (w12.heap.size + 1) (.int .i64 0) (.int .i64 0) := F12.below bV8 F12.lt
      replace Hp1 : LRd V8 (w13.heap.size) p.num.A p.num.n p.num.c p.num.xs := Hp1.below bV8 (by omega)
      replace Hp2 : LRd V8 (w13.heap.size) p.den.A p.den.n p.den.c p.den.xs := Hp2.below bV8 (by omega)
      replace P13 : Bk4 V8 (w13.heap.size) (.bool p.num.neg) (.slice p.num.A p.num.n p.num.c) (.bool p.den.neg) (.slice p.den.A p.den.n p.den.c) := P13.below bV8 P13.lt
      replace F14 : Bk2 V8 (w13.heap.size + 1) (.int .i64 0) (.int .i64 0) := F14.below bV8 F14.lt
      replace Hx1 : LRd V8 (w14.heap.size) x.num.A x.num.n x.num.c x.num.xs := Hx1.below bV8 (by omega)
      replace Hx2 : LRd V8 (w14.heap.size) x.den.A x.den.n x.den.c x.den.xs := Hx2.below bV8 (by omega)
      replace P15 : Bk4 V8 (w14.heap.size) (.bool x.num.neg) (.slice x.num.A x.num.n x.num.c) (.bool x.den.neg) (.slice x.den.A x.den.n x.den.c) := P15.below bV8 P15.lt
      replace F16 : Bk2 V8 (w14.heap.size + 1) (.int .i64 0) (.int .i64 0) := F16.below bV8 F16.lt
      replace Hy1 : LRd V8 (w15.heap.size) y.num.A y.num.n y.num.c y.num.xs := Hy1.below bV8 (by omega)
      replace Hy2 : LRd V8 (w15.heap.size) y.den.A y.den.n y.den.c y.den.xs := Hy2.below bV8 (by omega)
      clear bV8
      have c1 : (x.num.val * y.den.val + y.num.val * x.den.val).natAbs < Top128 := Nat.lt_of_lt_of_le (bd_up top12_2 5 (bd_add top12_2 (bd_mul (x1.out) (y2.out)) (bd_mul (y1.out) (x2.out))) (by decide)) top12_5
      have c2 : (x.den.val * y.den.val).natAbs < Top128 := Nat.lt_of_lt_of_le (bd_up top12_2 5 (bd_mul (x2.out) (y2.out)) (by decide)) top12_5
      (with_reducible refine (radd_x _ V8.heap.size x y (rv_at (Hx1.more (by omega)) (Hx2.more (by omega))) (rv_at (Hy1.more (by omega)) (Hy2.more (by omega))) (Nat.le_refl _) Ox.out Oy.out  c1 c2).mono ?_)
      rintro e w16 ⟨z, rfl, hz, oz, xz, pz, lz, mz, hb16⟩
      have sw16 := hb16.size
      replace E : Below w.heap.size w w16 := E.trans (hb16.mono E.size)
      replace Ha1 : LRd w16 (w.heap.size) a.num.A a.num.n a.num.c a.num.xs := Ha1.below hb16 (by omega)
      replace Ha2 : LRd w16 (w.heap.size) a.den.A a.den.n a.den.c a.den.xs := Ha2.below hb16 (by omega)
      replace Hb1 : LRd w16 (w.heap.size) b.num.A b.num.n b.num.c b.num.xs := Hb1.below hb16 (by omega)
      replace Hb2 : LRd w16 (w.heap.size) b.den.A b.den.n b.den.c b.den.xs := Hb2.below hb16 (by omega)
      replace Hc1 : LRd w16 (w.heap.size) c.num.A c.num.n c.num.c c.num.xs := Hc1.below hb16 (by omega)
      replace Hc2 : LRd w16 (w.heap.size) c.den.A c.den.n c.den.c c.den.xs := Hc2.below hb16 (by omega)
      replace PA : Bk4 w16 (w.heap.size) (.bool a.num.neg) (.slice a.num.A a.num.n a.num.c) (.bool a.den.neg) (.slice a.den.A a.den.n a.den.c) := PA.below hb16 PA.lt
      replace PB : Bk4 w16 (w.heap.size + 1) (.bool b.num.neg) (.slice b.num.A b.num.n b.num.c) (.bool b.den.neg) (.slice b.den.A b.den.n b.den.c) := PB.below hb16 PB.lt
      replace PC : Bk4 w16 (w.heap.size + 2) (.bool c.num.neg) (.slice c.num.A c.num.n c.num.c) (.bool c.den.neg) (.slice c.den.A c.den.n c.den.c) := PC.below hb16 PC.lt
      replace Hs1 : LRd w16 (w11.heap.size) s.num.A s.num.n s.num.c s.num.xs := Hs1.below hb16 (by omega)
      replace Hs2 : LRd w16 (w11.heap.size) s.den.A s.den.n s.den.c s.den.xs := Hs2.below hb16 (by omega)
      replace P9 : Bk4 w16 (w11.heap.size) (.bool s.num.neg) (.slice s.num.A s.num.n s.num.c) (.bool s.den.neg) (.slice s.den.A s.den.n s.den.c) := P9.below hb16 P9.lt
      replace F10 : Bk2 w16 (w11.heap.size + 1) (.int .i64 0) (.int .i64 0) := F10.below hb16 F10.lt
      replace Hd1 : LRd w16 (w12.heap.size) d.num.A d.num.n d.num.c d.num.xs := Hd1.below hb16 (by omega)
      replace Hd2 : LRd w16 (w12.heap.size) d.den.A d.den.n d.den.c d.den.xs := Hd2.below hb16 (by omega)
      replace P11 : Bk4 w16 (w12.heap.size) (.bool d.num.neg) (.slice d.num.A d.num.n d.num.c) (.bool d.den.neg) (.slice d.den.A d.den.n d.den.c) := P11.below hb16 P11.lt
      replace F12 : Bk2 w16 (w12.heap.size + 1) (.int .i64 0) (.int .i64 0) := F12.below hb16 F12.lt
      replace Hp1 : LRd w16 (w13.heap.size) p.num.A p.num.n p.num.c p.num.xs := Hp1.below hb16 (by omega)
      replace Hp2 : LRd w16 (w13.heap.size) p.den.A p.den.n p.den.c p.den.xs := Hp2.below hb16 (by omega)
      replace P13 : Bk4 w16 (w13.heap.size) (.bool p.num.neg) (.slice p.num.A p.num.n p.num.c) (.bool p.den.neg) (.slice p.den.A p.den.n p.den.c) := P13.below hb16 P13.lt
      replace F14 : Bk2 w16 (w13.heap.size + 1) (.int .i64 0) (.int .i64 0) := F14.below hb16 F14.lt
      replace Hx1 : LRd w16 (w14.heap.size) x.num.A x.num.n x.num.c x.num.xs := Hx1.below hb16 (by omega)
      replace Hx2 : LRd w16 (w14.heap.size) x.den.A x.den.n x.den.c x.den.xs := Hx2.below hb16 (by omega)
      replace P15 : Bk4 w16 (w14.heap.size) (.bool x.num.neg) (.slice x.num.A x.num.n x.num.c) (.bool x.den.neg) (.slice x.den.A x.den.n x.den.c) := P15.below hb16 P15.lt
      replace F16 : Bk2 w16 (w14.heap.size + 1) (.int .i64 0) (.int .i64 0) := F16.below hb16 F16.lt
      replace Hy1 : LRd w16 (w15.heap.size) y.num.A y.num.n y.num.c y.num.xs := Hy1.below hb16 (by omega)
      replace Hy2 : LRd w16 (w15.heap.size) y.den.A y.den.n y.den.c y.den.xs := Hy2.below hb16 (by omega)
      replace P17 : Bk4 w16 (w15.heap.size) (.bool y.num.neg) (.slice y.num.A y.num.n y.num.c) (.bool y.den.neg) (.slice y.den.A y.den.n y.den.c) := P17.below hb16 P17.lt
      replace F18 : Bk2 w16 (w15.heap.size + 1) (.int .i64 0) (.int .i64 0) := F18.below hb16 F18.lt
      clear hb16
      clear c1 c2
      have Oz := Lib.hid oz
      have Xz := Lib.hid xz
      have Wz := Lib.hid (And.intro pz (And.intro lz mz))
      have Gz := Lib.hid (rv_low oz hz)
      have Nz := Lib.hid (RV.val oz hz).num
      have Dz := Lib.hid (RV.val oz hz).den
      have Hz1 : LRd w16 w16.heap.size z.num.A z.num.n z.num.c z.num.xs := hz.1
      have Hz2 : LRd w16 w16.heap.size z.den.A z.den.n z.den.c z.den.xs := hz.2
      clear hz oz xz pz lz mz
      go_upto_region 17 with fail
      obtain ⟨V9, hV9⟩ : ∃ V9 : World, V9 = ((w16.alloc (.cells #[.bool z.num.neg, .slice z.num.A z.num.n z.num.c, .bool z.den.neg, .slice z.den.A z.den.n z.den.c] 26)).alloc (.cells #[.int .i64 0, .int .i64 0] 29)) := ⟨_, rfl⟩
      have bV9 : Below w16.heap.size w16 V9 := by rw [hV9]; (repeat (first | with_reducible exact Below.refl _ _ | with_reducible refine Below.drew ?_ | with_reducible refine below_drewN ?_ _ | with_reducible refine Below.setCell ?_ (by first | (simp; done) | (simp; omega) | omega) _ | with_reducible refine Below.alloc ?_ (by first | (simp; done) | (simp; omega) | omega) _))
      have zV9 : w16.heap.size + 2 ≤ V9.heap.size := by rw [hV9]; simp
      have P19 : Bk4 V9 (w16.heap.size) (.bool z.num.neg) (.slice z.num.A z.num.n z.num.c) (.bool z.den.neg) (.slice z.den.A z.den.n z.den.c) := by rw [hV9]; exact ((Bk4.newAt _ _ (by first | omega | (simp; done) | (simp; omega)) _ _ _ _ _).alloc _)
      have F20 : Bk2 V9 (w16.heap.size + 1) (.int .i64 0) (.int .i64 0) := by rw [hV9]; exact (Bk2.newAt _ _ (by first | omega | (simp; done) | (simp; omega)) _ _ _)
      rw [← hV9]
      clear hV9
      replace E : Below w.heap.size w V9 := E.trans (bV9.mono E.size)
      replace Ha1 : LRd V9 (w.heap.size) a.num.A a.num.n a.num.c a.num.xs := Ha1.below bV9 (by omega)
      replace Ha2 : LRd V9 (w.heap.size) a.den.A a.den.n a.den.c a.den.xs := Ha2.below bV9 (by omega)
      replace Hb1 : LRd V9 (w.heap.size) b.num.A b.num.n b.num.c b.num.xs := Hb1.below bV9 (by omega)
      replace Hb2 : LRd V9 (w.heap.size) b.den.A b.den.n b.den.c b.den.xs := Hb2.below bV9 (by omega)
      replace Hc1 : LRd V9 (w.heap.size) c.num.A c.num.n c.num.c c.num.xs := Hc1.below bV9 (by omega)
      replace Hc2 : LRd V9 (w.heap.size) c.den.A c.den.n c.den.c c.den.xs := Hc2.below bV9 (by omega)
      replace PA : Bk4 V9 (w.heap.size) (.bool a.num.neg) (.slice a.num.A a.num.n a.num.c) (.bool a.den.neg) (.slice a.den.A a.den.n a.den.c) := PA.below bV9 PA.lt
      replace PB : Bk4 V9 (w.heap.size + 1) (.bool b.num.neg) (.slice b.num.A b.num.n b.num.c) (.bool b.den.neg) (.slice b.den.A b.den.n b.den.c) := PB.below bV9 PB.lt
      replace PC : Bk4 V9 (w.heap.size + 2) (.bool c.num.neg) (.slice c.num.A c.num.n c.num.c) (.bool c.den.neg) (.slice c.den.A c.den.n c.den.c) := PC.below bV9 PC.lt
      replace Hs1 : LRd V9 (w11.heap.size) s.num.A s.num.n s.num.c s.num.xs := Hs1.below bV9 (by omega)
      replace Hs2 : LRd V9 (w11.heap.size) s.den.A s.den.n s.den.c s.den.xs := Hs2.below bV9 (by omega)
      replace P9 : Bk4 V9 (w11.heap.size) (.bool s.num.neg) (.slice s.num.A s.num.n s.num.c) (.bool s.den.neg) (.slice s.den.A s.den.n s.den.c) := P9.below bV9 P9.lt
      replace F10 : Bk2 V9 (w11.heap.size + 1) (.int .i64 0) (.int .i64 0) := F10.below bV9 F10.lt
      replace Hd1 : LRd V9 (w12.heap.size) d.num.A d.num.n d.num.c d.num.xs := Hd1.below bV9 (by omega)
      replace Hd2 : LRd V9 (w12.heap.size) d.den.A d.den.n d.den.c d.den.xs := Hd2.below bV9 (by omega)
      replace P11 : Bk4 V9 (w12.heap.size) (.bool d.num.neg) (.slice d.num.A d.num.n d.num.c) (.bool d.den.neg) (.slice d.den.A d.den.n d.den.c) := P11.below bV9 P11.lt
      replace F12 : Bk2 V9 (w12.heap.size + 1) (.int .i64 0) (.int .i64 0) := F12.below bV9 F12.lt
      replace Hp1 : LRd V9 (w13.heap.size) p.num.A p.num.n p.num.c p.num.xs := Hp1.below bV9 (by omega)
      replace Hp2 : LRd V9 (w13.heap.size) p.den.A p.den.n p.den.c p.den.xs := Hp2.below bV9 (by omega)
      replace P13 : Bk4 V9 (w13.heap.size) (.bool p.num.neg) (.slice p.num.A p.num.n p.num.c) (.bool p.den.neg) (.slice p.den.A p.den.n p.den.c) := P13.below bV9 P13.lt
      replace F14 : Bk2 V9 (w13.heap.size + 1) (.int .i64 0) (.int .i64 0) := F14.below bV9 F14.lt
      replace Hx1 : LRd V9 (w14.heap.size) x.num.A x.num.n x.num.c x.num.xs := Hx1.below bV9 (by omega)
      replace Hx2 : LRd V9 (w14.heap.size) x.den.A x.den.n x.den.c x.den.xs := Hx2.below bV9 (by omega)
      replace P15 : Bk4 V9 (w14.heap.size) (.bool x.num.neg) (.slice x.num.A x.num.n x.num.c) (.bool x.den.neg) (.slice x.den.A x.den.n x.den.c) := P15.below bV9 P15.lt
      replace F16 : Bk2 V9 (w14.heap.size + 1) (.int .i64 0) (.int .i64 0) := F16.below bV9 F16.lt
      replace Hy1 : LRd V9 (w15.heap.size) y.num.A y.num.n y.num.c y.num.xs := Hy1.below bV9 (by omega)
      replace Hy2 : LRd V9 (w15.heap.size) y.den.A y.den.n y.den.c y.den.xs := Hy2.below bV9 (by omega)
      replace P17 : Bk4 V9 (w15.heap.size) (.bool y.num.neg) (.slice y.num.A y.num.n y.num.c) (.bool y.den.neg) (.slice y.den.A y.den.n y.den.c) := P17.below bV9 P17.lt
      replace F18 : Bk2 V9 (w15.heap.size + 1) (.int .i64 0) (.int .i64 0) := F18.below bV9 F18.lt
      replace Hz1 : LRd V9 (w16.heap.size) z.num.A z.num.n z.num.c z.num.xs := Hz1.below bV9 (by omega)
      replace Hz2 : LRd V9 (w16.heap.size) z.den.A z.den.n z.den.c z.den.xs := Hz2.below bV9 (by omega)
      clear bV9
      clear Hs1 Hs2 Hy1 Hy2 P9 P17
      have UD := Lib.hid (low_uniq (field1 VA.out.pos VB.out.pos Ws.out.1 Xs.out Xd.out) Wd.out.1 VA.out.pos Gd.out VA.out.low)
      have UP := Lib.hid (low_uniq (field2 VA.out.pos VB.out.pos VC.out.pos Ws.out.1 Wx.out.1 Wy.out.1 Xs.out Xp.out Xx.out Xy.out Xz.out) Wp.out.1 Wz.out.1 Gp.out Gz.out)
      have ND := Lib.hid (show IRep d.num.neg d.num.xs a.num.val by rw [← UD.out.1]; exact Nd.out)
      have DD := Lib.hid (show IRep d.den.neg d.den.xs a.den.val by rw [← UD.out.2]; exact Dd.out)
      have NP := Lib.hid (show IRep p.num.neg p.num.xs z.num.val by rw [← UP.out.1]; exact Np.out)
      have DP := Lib.hid (show IRep p.den.neg p.den.xs z.den.val by rw [← UP.out.2]; exact Dp.out)
      have bz := Lib.hid (RV.val Oz.out (rv_at Hz1 Hz2))
      have bza := Lib.hid (And.intro bz.out.bn bz.out.bd)
      have baa := Lib.hid (And.intro VA.out.bn VA.out.bd)
      have lt_PA := PA.lt
      have lt_F10 := F10.lt
      have lt_P11 := P11.lt
      have lt_F12 := F12.lt
      have lt_P13 := P13.lt
      have lt_F14 := F14.lt
      have lt_F16 := F16.lt
      have lt_F18 := F18.lt
      have lt_P19 := P19.lt
      have lt_F20 := F20.lt
      have HS := Lib.hid (fun (u : World) (hu : Below (V9.heap.size) V9 u) => (⟨(hu.cell (p := ⟨w.heap.size, 0, none⟩) (by show w.heap.size < _; omega)).trans PA.c0, (hu.cell (p := ⟨w.heap.size, 1, none⟩) (by show w.heap.size < _; omega)).trans PA.c1, (hu.cell (p := ⟨w.heap.size, 2, none⟩) (by show w.heap.size < _; omega)).trans PA.c2, (hu.cell (p := ⟨w.heap.size, 3, none⟩) (by show w.heap.size < _; omega)).trans PA.c3, (hu.cell (p := ⟨w11.heap.size + 1, 0, none⟩) (by show w11.heap.size + 1 < _; omega)).trans F10.c0, (hu.cell (p := ⟨w11.heap.size + 1, 1, none⟩) (by show w11.heap.size + 1 < _; omega)).trans F10.c1, (hu.cell (p := ⟨w12.heap.size, 0, none⟩) (by show w12.heap.size < _; omega)).trans P11.c0, (hu.cell (p := ⟨w12.heap.size, 1, none⟩) (by show w12.heap.size < _; omega)).trans P11.c1, (hu.cell (p := ⟨w12.heap.size, 2, none⟩) (by show w12.heap.size < _; omega)).trans P11.c2, (hu.cell (p := ⟨w12.heap.size, 3, none⟩) (by show w12.heap.size < _; omega)).trans P11.c3, (hu.cell (p := ⟨w12.heap.size + 1, 0, none⟩) (by show w12.heap.size + 1 < _; omega)).trans F12.c0, (hu.cell (p := ⟨w12.heap.size + 1, 1, none⟩) (by show w12.heap.size + 1 < _; omega)).trans F12.c1, (hu.cell (p := ⟨w13.heap.size, 0, none⟩) (by show w13.heap.size < _; omega)).trans P13.c0, (hu.cell (p := ⟨w13.heap.size, 1, none⟩) (by show w13.heap.size < _; omega)).trans P13.c1, (hu.cell (p := ⟨w13.heap.size, 2, none⟩) (by show w13.heap.size < _; omega)).trans P13.c2, (hu.cell (p := ⟨w13.heap.size, 3, none⟩) (by show w13.heap.size < _; omega)).trans P13.c3, (hu.cell (p := ⟨w13.heap.size + 1, 0, none⟩) (by show w13.heap.size + 1 < _; omega)).trans F14.c0, (hu.cell (p := ⟨w13.heap.size + 1, 1, none⟩) (by show w13.heap.size + 1 < _; omega)).trans F14.c1, (hu.cell (p := ⟨w14.heap.size + 1, 0, none⟩) (by show w14.heap.size + 1 < _; omega)).trans F16.c0, (hu.cell (p := ⟨w14.heap.size + 1, 1, none⟩) (by show w14.heap.size + 1 < _; omega)).trans F16.c1, (hu.cell (p := ⟨w15.heap.size + 1, 0, none⟩) (by show w15.heap.size + 1 < _; omega)).trans F18.c0, (hu.cell (p := ⟨w15.heap.size + 1, 1, none⟩) (by show w15.heap.size + 1 < _; omega)).trans F18.c1, (hu.cell (p := ⟨w16.heap.size, 0, none⟩) (by show w16.heap.size < _; omega)).trans P19.c0, (hu.cell (p := ⟨w16.heap.size, 1, none⟩) (by show w16.heap.size < _; omega)).trans P19.c1, (hu.cell (p := ⟨w16.heap.size, 2, none⟩) (by show w16.heap.size < _; omega)).trans P19.c2, (hu.cell (p := ⟨w16.heap.size, 3, none⟩) (by show w16.heap.size < _; omega)).trans P19.c3, (hu.cell (p := ⟨w16.heap.size + 1, 0, none⟩) (by show w16.heap.size + 1 < _; omega)).trans F20.c0, (hu.cell (p := ⟨w16.heap.size + 1, 1, none⟩) (by show w16.heap.size + 1 < _; omega)).trans F20.c1⟩ : u.cell? ⟨w.heap.size, 0, none⟩ = some (.bool a.num.neg) ∧ u.cell? ⟨w.heap.size, 1, none⟩ = some (.slice a.num.A a.num.n a.num.c) ∧ u.cell? ⟨w.heap.size, 2, none⟩ = some (.bool a.den.neg) ∧ u.cell? ⟨w.heap.size, 3, none⟩ = some (.slice a.den.A a.den.n a.den.c) ∧ u.cell? ⟨w11.heap.size + 1, 0, none⟩ = some (.int .i64 0) ∧ u.cell? ⟨w11.heap.size + 1, 1, none⟩ = some (.int .i64 0) ∧ u.cell? ⟨w12.heap.size, 0, none⟩ = some (.bool d.num.neg) ∧ u.cell? ⟨w12.heap.size, 1, none⟩ = some (.slice d.num.A d.num.n d.num.c) ∧ u.cell? ⟨w12.heap.size, 2, none⟩ = some (.bool d.den.neg) ∧ u.cell? ⟨w12.heap.size, 3, none⟩ = some (.slice d.den.A d.den.n d.den.c) ∧ u.cell? ⟨w12.heap.size + 1, 0, none⟩ = some (.int .i64 0) ∧ u.cell? ⟨w12.heap.size + 1, 1, none⟩ = some (.int .i64 0) ∧ u.cell? ⟨w13.heap.size, 0, none⟩ = some (.bool p.num.neg) ∧ u.cell? ⟨w13.heap.size, 1, none⟩ = some (.slice p.num.A p.num.n p.num.c) ∧ u.cell? ⟨w13.heap.size, 2, none⟩ = some (.bool p.den.neg) ∧ u.cell? ⟨w13.heap.size, 3, none⟩ = some (.slice p.den.A p.den.n p.den.c) ∧ u.cell? ⟨w13.heap.size + 1, 0, none⟩ = some (.int .i64 0) ∧ u.cell? ⟨w13.heap.size + 1, 1, none⟩ = some (.int .i64 0) ∧ u.cell? ⟨w14.heap.size + 1, 0, none⟩ = some (.int .i64 0) ∧ u.cell? ⟨w14.heap.size + 1, 1, none⟩ = some (.int .i64 0) ∧ u.cell? ⟨w15.heap.size + 1, 0, none⟩ = some (.int .i64 0) ∧ u.cell? ⟨w15.heap.size + 1, 1, none⟩ = some (.int .i64 0) ∧ u.cell? ⟨w16.heap.size, 0, none⟩ = some (.bool z.num.neg) ∧ u.cell? ⟨w16.heap.size, 1, none⟩ = some (.slice z.num.A z.num.n z.num.c) ∧ u.cell? ⟨w16.heap.size, 2, none⟩ = some (.bool z.den.neg) ∧ u.cell? ⟨w16.heap.size, 3, none⟩ = some (.slice z.den.A z.den.n z.den.c) ∧ u.cell? ⟨w16.heap.size + 1, 0, none⟩ = some (.int .i64 0) ∧ u.cell? ⟨w16.heap.size + 1, 1, none⟩ = some (.int .i64 0)))
      have G0 : Below V9.heap.size V9 V9.drew := Below.drew (Below.refl _ _)
      have g0s := G0.size
      have G0m : Below (V9.heap.size) V9 V9.drew := G0.mono (by omega)
      go_region_held3 (fun u => u.cell? ⟨w.heap.size, 0, none⟩ = some (.bool a.num.neg) ∧ u.cell? ⟨w.heap.size, 1, none⟩ = some (.slice a.num.A a.num.n a.num.c) ∧ u.cell? ⟨w.heap.size, 2, none⟩ = some (.bool a.den.neg) ∧ u.cell? ⟨w.heap.size, 3, none⟩ = some (.slice a.den.A a.den.n a.den.c) ∧ u.cell? ⟨w11.heap.size + 1, 0, none⟩ = some (.int .i64 0) ∧ u.cell? ⟨w11.heap.size + 1, 1, none⟩ = some (.int .i64 0) ∧ u.cell? ⟨w12.heap.size, 0, none⟩ = some (.bool d.num.neg) ∧ u.cell? ⟨w12.heap.size, 1, none⟩ = some (.slice d.num.A d.num.n d.num.c) ∧ u.cell? ⟨w12.heap.size, 2, none⟩ = some (.bool d.den.neg) ∧ u.cell? ⟨w12.heap.size, 3, none⟩ = some (.slice d.den.A d.den.n d.den.c) ∧ u.cell? ⟨w12.heap.size + 1, 0, none⟩ = some (.int .i64 0) ∧ u.cell? ⟨w12.heap.size + 1, 1, none⟩ = some (.int .i64 0) ∧ u.cell? ⟨w13.heap.size, 0, none⟩ = some (.bool p.num.neg) ∧ u.cell? ⟨w13.heap.size, 1, none⟩ = some (.slice p.num.A p.num.n p.num.c) ∧ u.cell? ⟨w13.heap.size, 2, none⟩ = some (.bool p.den.neg) ∧ u.cell? ⟨w13.heap.size, 3, none⟩ = some (.slice p.den.A p.den.n p.den.c) ∧ u.cell? ⟨w13.heap.size + 1, 0, none⟩ = some (.int .i64 0) ∧ u.cell? ⟨w13.heap.size + 1, 1, none⟩ = some (.int .i64 0) ∧ u.cell? ⟨w14.heap.size + 1, 0, none⟩ = some (.int .i64 0) ∧ u.cell? ⟨w14.heap.size + 1, 1, none⟩ = some (.int .i64 0) ∧ u.cell? ⟨w15.heap.size + 1, 0, none⟩ = some (.int .i64 0) ∧ u.cell? ⟨w15.heap.size + 1, 1, none⟩ = some (.int .i64 0) ∧ u.cell? ⟨w16.heap.size, 0, none⟩ = some (.bool z.num.neg) ∧ u.cell? ⟨w16.heap.size, 1, none⟩ = some (.slice z.num.A z.num.n z.num.c) ∧ u.cell? ⟨w16.heap.size, 2, none⟩ = some (.bool z.den.neg) ∧ u.cell? ⟨w16.heap.size, 3, none⟩ = some (.slice z.den.A z.den.n z.den.c) ∧ u.cell? ⟨w16.heap.size + 1, 0, none⟩ = some (.int .i64 0) ∧ u.cell? ⟨w16.heap.size + 1, 1, none⟩ = some (.int .i64 0)) (first | (refine HS.out _ ?_; (repeat (first | with_reducible exact G0m | with_reducible exact BN.mono (by omega) | with_reducible exact B4.mono (by omega) | with_reducible exact B3.mono (by omega) | with_reducible exact B2.mono (by omega) | with_reducible exact B1.mono (by omega) | with_reducible exact Below.refl _ _ | with_reducible refine Below.drew ?_ | with_reducible refine below_drewN ?_ _ | with_reducible refine Below.setCell ?_ (by first | (simp; done) | (simp; omega) | omega) _)); done) | fail)
        (first
          | (go_at_call 12; (with_reducible refine (ratioOf_any _ V9.heap.size a (rv_at ((Ha1.below G0 (by omega)).more (by omega)) ((Ha2.below G0 (by omega)).more (by omega))) (by have := G0.size; omega) oa.out).mono ?_); rintro e u1 ⟨n1, A1, k1, e1, z1, v1, D1, l1, d1, y1, t1, rfl, hd1, hg1, hr1, hs1, hv1, hw1, hb1⟩; have B1 : Below V9.heap.size V9 u1 := bnext G0 hb1; have R1 := Lib.hid hr1; have S1 := Lib.hid hs1; have T1 := Lib.hid hv1; have U1 := Lib.hid (show sval false t1 = a.den.val from hw1); clear hr1 hs1 hv1 hw1; have b1s := B1.size)
          | (go_at_call 11; (with_reducible refine (sameRatio_any _ u1.heap.size d n1 A1 D1 k1 e1 l1 d1 v1 t1 a.num.val a.den.val z1 y1 (rv_at ((Hd1.below B1 (by omega)).more (by omega)) ((Hd2.below B1 (by omega)).more (by omega))) hd1 hg1 (Nat.le_refl _) ND DD R1 S1 T1 U1 (ref_len R1.out T1.out hd1.len.out baa.out.1) (ref_len (m := false) S1.out U1.out hg1.len.out baa.out.2)).mono ?_); rintro e u2 ⟨rfl, hb2⟩; have B2 : Below V9.heap.size V9 u2 := bnext B1 hb2; have b2s := B2.size)
          | (go_at_call 13; (with_reducible refine (rok_any _ V9.heap.size z (rv_at ((Hz1.below B2 (by omega)).more (by omega)) ((Hz2.below B2 (by omega)).more (by omega))) (by omega)).mono ?_); rintro e u3 ⟨rfl, hb3⟩; have B3 : Below V9.heap.size V9 u3 := bnext B2 hb3; rw [Oz.out]; have b3s := B3.size)
          | (go_at_call 12; (with_reducible refine (ratioOf_any _ V9.heap.size z (rv_at ((Hz1.below B3 (by omega)).more (by omega)) ((Hz2.below B3 (by omega)).more (by omega))) (by have := B3.size; omega) Oz.out).mono ?_); rintro e u4 ⟨n4, A4, k4, e4, z4, v4, D4, l4, d4, y4, t4, rfl, hd4, hg4, hr4, hs4, hv4, hw4, hb4⟩; have B4 : Below V9.heap.size V9 u4 := bnext B3 hb4; have R4 := Lib.hid hr4; have S4 := Lib.hid hs4; have T4 := Lib.hid hv4; have U4 := Lib.hid (show sval false t4 = z.den.val from hw4); clear hr4 hs4 hv4 hw4; have b4s := B4.size)
          | (go_at_call 11; (with_reducible refine (sameRatio_any _ u4.heap.size p n4 A4 D4 k4 e4 l4 d4 v4 t4 z.num.val z.den.val z4 y4 (rv_at ((Hp1.below B4 (by omega)).more (by omega)) ((Hp2.below B4 (by omega)).more (by omega))) hd4 hg4 (Nat.le_refl _) NP DP R4 S4 T4 U4 (ref_len R4.out T4.out hd4.len.out bza.out.1) (ref_len (m := false) S4.out U4.out hg4.len.out bza.out.2)).mono ?_); rintro e u5 ⟨rfl, hb5⟩; have BN : Below V9.heap.size V9 u5 := bnext B4 hb5; have b5s := BN.size)
          | fail)
      clear HS G0 g0s G0m
      replace E : Below w.heap.size w u5 := E.trans (BN.mono E.size)
      replace Ha1 : LRd u5 (w.heap.size) a.num.A a.num.n a.num.c a.num.xs := Ha1.below BN (by omega)
      replace Ha2 : LRd u5 (w.heap.size) a.den.A a.den.n a.den.c a.den.xs := Ha2.below BN (by omega)
      replace Hb1 : LRd u5 (w.heap.size) b.num.A b.num.n b.num.c b.num.xs := Hb1.below BN (by omega)
      replace Hb2 : LRd u5 (w.heap.size) b.den.A b.den.n b.den.c b.den.xs := Hb2.below BN (by omega)
      replace Hc1 : LRd u5 (w.heap.size) c.num.A c.num.n c.num.c c.num.xs := Hc1.below BN (by omega)
      replace Hc2 : LRd u5 (w.heap.size) c.den.A c.den.n c.den.c c.den.xs := Hc2.below BN (by omega)
      replace PA : Bk4 u5 (w.heap.size) (.bool a.num.neg) (.slice a.num.A a.num.n a.num.c) (.bool a.den.neg) (.slice a.den.A a.den.n a.den.c) := PA.below BN PA.lt
      replace PB : Bk4 u5 (w.heap.size + 1) (.bool b.num.neg) (.slice b.num.A b.num.n b.num.c) (.bool b.den.neg) (.slice b.den.A b.den.n b.den.c) := PB.below BN PB.lt
      replace PC : Bk4 u5 (w.heap.size + 2) (.bool c.num.neg) (.slice c.num.A c.num.n c.num.c) (.bool c.den.neg) (.slice c.den.A c.den.n c.den.c) := PC.below BN PC.lt
      replace F10 : Bk2 u5 (w11.heap.size + 1) (.int .i64 0) (.int .i64 0) := F10.below BN F10.lt
      replace Hd1 : LRd u5 (w12.heap.size) d.num.A d.num.n d.num.c d.num.xs := Hd1.below BN (by omega)
      replace Hd2 : LRd u5 (w12.heap.size) d.den.A d.den.n d.den.c d.den.xs := Hd2.below BN (by omega)
      replace P11 : Bk4 u5 (w12.heap.size) (.bool d.num.neg) (.slice d.num.A d.num.n d.num.c) (.bool d.den.neg) (.slice d.den.A d.den.n d.den.c) := P11.below BN P11.lt
      replace F12 : Bk2 u5 (w12.heap.size + 1) (.int .i64 0) (.int .i64 0) := F12.below BN F12.lt
      replace Hp1 : LRd u5 (w13.heap.size) p.num.A p.num.n p.num.c p.num.xs := Hp1.below BN (by omega)
      replace Hp2 : LRd u5 (w13.heap.size) p.den.A p.den.n p.den.c p.den.xs := Hp2.below BN (by omega)
      replace P13 : Bk4 u5 (w13.heap.size) (.bool p.num.neg) (.slice p.num.A p.num.n p.num.c) (.bool p.den.neg) (.slice p.den.A p.den.n p.den.c) := P13.below BN P13.lt
      replace F14 : Bk2 u5 (w13.heap.size + 1) (.int .i64 0) (.int .i64 0) := F14.below BN F14.lt
      replace Hx1 : LRd u5 (w14.heap.size) x.num.A x.num.n x.num.c x.num.xs := Hx1.below BN (by omega)
      replace Hx2 : LRd u5 (w14.heap.size) x.den.A x.den.n x.den.c x.den.xs := Hx2.below BN (by omega)
      replace P15 : Bk4 u5 (w14.heap.size) (.bool x.num.neg) (.slice x.num.A x.num.n x.num.c) (.bool x.den.neg) (.slice x.den.A x.den.n x.den.c) := P15.below BN P15.lt
      replace F16 : Bk2 u5 (w14.heap.size + 1) (.int .i64 0) (.int .i64 0) := F16.below BN F16.lt
      replace F18 : Bk2 u5 (w15.heap.size + 1) (.int .i64 0) (.int .i64 0) := F18.below BN F18.lt
      replace Hz1 : LRd u5 (w16.heap.size) z.num.A z.num.n z.num.c z.num.xs := Hz1.below BN (by omega)
      replace Hz2 : LRd u5 (w16.heap.size) z.den.A z.den.n z.den.c z.den.xs := Hz2.below BN (by omega)
      replace P19 : Bk4 u5 (w16.heap.size) (.bool z.num.neg) (.slice z.num.A z.num.n z.num.c) (.bool z.den.neg) (.slice z.den.A z.den.n z.den.c) := P19.below BN P19.lt
      replace F20 : Bk2 u5 (w16.heap.size + 1) (.int .i64 0) (.int .i64 0) := F20.below BN F20.lt
      clear Hd1 Hd2 Hp1 Hp2 P11 F12 P13 F14 F16 F18 P19 F20 Hz1 Hz2
      have t_PC0 : u5.cell? ⟨w.heap.size + 2, 0, none⟩ = some ((.bool c.num.neg)) := PC.c0
      have t_PC1 : u5.cell? ⟨w.heap.size + 2, 1, none⟩ = some ((.slice c.num.A c.num.n c.num.c)) := PC.c1
      have t_PC2 : u5.cell? ⟨w.heap.size + 2, 2, none⟩ = some ((.bool c.den.neg)) := PC.c2
      have t_PC3 : u5.cell? ⟨w.heap.size + 2, 3, none⟩ = some ((.slice c.den.A c.den.n c.den.c)) := PC.c3
      go_wp2_with fail
      clear t_PC0 t_PC1 t_PC2 t_PC3
      (with_reducible refine (noInt_any _ c.num.neg c.num.A c.num.n c.num.c (by have := Hc1.cap; omega)).mono ?_)
      rintro e w20 ⟨rfl, hb20⟩
      have sw20 := hb20.size
      replace E : Below w.heap.size w w20 := E.trans (hb20.mono E.size)
      replace Ha1 : LRd w20 (w.heap.size) a.num.A a.num.n a.num.c a.num.xs := Ha1.below hb20 (by omega)
      replace Ha2 : LRd w20 (w.heap.size) a.den.A a.den.n a.den.c a.den.xs := Ha2.below hb20 (by omega)
      replace Hb1 : LRd w20 (w.heap.size) b.num.A b.num.n b.num.c b.num.xs := Hb1.below hb20 (by omega)
      replace Hb2 : LRd w20 (w.heap.size) b.den.A b.den.n b.den.c b.den.xs := Hb2.below hb20 (by omega)
      replace Hc1 : LRd w20 (w.heap.size) c.num.A c.num.n c.num.c c.num.xs := Hc1.below hb20 (by omega)
      replace Hc2 : LRd w20 (w.heap.size) c.den.A c.den.n c.den.c c.den.xs := Hc2.below hb20 (by omega)
      replace PA : Bk4 w20 (w.heap.size) (.bool a.num.neg) (.slice a.num.A a.num.n a.num.c) (.bool a.den.neg) (.slice a.den.A a.den.n a.den.c) := PA.below hb20 PA.lt
      replace PB : Bk4 w20 (w.heap.size + 1) (.bool b.num.neg) (.slice b.num.A b.num.n b.num.c) (.bool b.den.neg) (.slice b.den.A b.den.n b.den.c) := PB.below hb20 PB.lt
      replace PC : Bk4 w20 (w.heap.size + 2) (.bool c.num.neg) (.slice c.num.A c.num.n c.num.c) (.bool c.den.neg) (.slice c.den.A c.den.n c.den.c) := PC.below hb20 PC.lt
      replace F10 : Bk2 w20 (w11.heap.size + 1) (.int .i64 0) (.int .i64 0) := F10.below hb20 F10.lt
      replace Hx1 : LRd w20 (w14.heap.size) x.num.A x.num.n x.num.c x.num.xs := Hx1.below hb20 (by omega)
      replace Hx2 : LRd w20 (w14.heap.size) x.den.A x.den.n x.den.c x.den.xs := Hx2.below hb20 (by omega)
      replace P15 : Bk4 w20 (w14.heap.size) (.bool x.num.neg) (.slice x.num.A x.num.n x.num.c) (.bool x.den.neg) (.slice x.den.A x.den.n x.den.c) := P15.below hb20 P15.lt
      clear hb20
      by_cases hcz : c.num.val = 0
      · have hz0 : (!c.num.neg && decide (c.num.n = 0)) = true := by
          have h1 := (IRep.len0 VC.out.num).2 hcz
          have h2 := Hc1.len.out
          rw [VC.out.num.sgn, hcz, decide_eq_true (show c.num.n = 0 by omega)]
          rfl
        rw [hz0]
        clear hz0 hcz
        go_wp2_with fail
        go_ret
        exact ⟨rfl, E⟩
      · have hz0 : (!c.num.neg && decide (c.num.n = 0)) = false := by
          have h1 : c.num.xs.length ≠ 0 := fun h => hcz ((IRep.len0 VC.out.num).1 h)
          have h2 := Hc1.len.out
          rw [decide_eq_false (show ¬ c.num.n = 0 by omega), Bool.and_false]
        rw [hz0]
        have hcn := Lib.hid hcz
        clear hz0 hcz
        have t_P150 : w20.cell? ⟨w14.heap.size, 0, none⟩ = some ((.bool x.num.neg)) := P15.c0
        have t_P151 : w20.cell? ⟨w14.heap.size, 1, none⟩ = some ((.slice x.num.A x.num.n x.num.c)) := P15.c1
        have t_P152 : w20.cell? ⟨w14.heap.size, 2, none⟩ = some ((.bool x.den.neg)) := P15.c2
        have t_P153 : w20.cell? ⟨w14.heap.size, 3, none⟩ = some ((.slice x.den.A x.den.n x.den.c)) := P15.c3
        have t_PC0 : w20.cell? ⟨w.heap.size + 2, 0, none⟩ = some ((.bool c.num.neg)) := PC.c0
        have t_PC1 : w20.cell? ⟨w.heap.size + 2, 1, none⟩ = some ((.slice c.num.A c.num.n c.num.c)) := PC.c1
        have t_PC2 : w20.cell? ⟨w.heap.size + 2, 2, none⟩ = some ((.bool c.den.neg)) := PC.c2
        have t_PC3 : w20.cell? ⟨w.heap.size + 2, 3, none⟩ = some ((.slice c.den.A c.den.n c.den.c)) := PC.c3
        go_wp2_with fail
        clear t_P150 t_P151 t_P152 t_P153 t_PC0 t_PC1 t_PC2 t_PC3
        have c1 : (x.num.val * c.den.val).natAbs < Top128 := Nat.lt_of_lt_of_le (bd_up top12_2 5 (bd_mul (x1.out) ((by rw [Nat.pow_one]; exact tc'.out))) (by decide)) top12_5
        have c2 : (x.den.val * c.num.val).natAbs < Top128 := Nat.lt_of_lt_of_le (bd_up top12_2 5 (bd_mul (x2.out) ((by rw [Nat.pow_one]; exact tc.out))) (by decide)) top12_5
        (with_reducible refine (rdiv_x _ w20.heap.size x c (rv_at (Hx1.more (by omega)) (Hx2.more (by omega))) (rv_at (Hc1.more (by omega)) (Hc2.more (by omega))) (Nat.le_refl _) Ox.out oc.out hcn.out c1 c2).mono ?_)
        rintro e w21 ⟨q, rfl, hq, oq, xq, pq, lq, mq, hb21⟩
        have sw21 := hb21.size
        replace E : Below w.heap.size w w21 := E.trans (hb21.mono E.size)
        replace Ha1 : LRd w21 (w.heap.size) a.num.A a.num.n a.num.c a.num.xs := Ha1.below hb21 (by omega)
        replace Ha2 : LRd w21 (w.heap.size) a.den.A a.den.n a.den.c a.den.xs := Ha2.below hb21 (by omega)
        replace Hb1 : LRd w21 (w.heap.size) b.num.A b.num.n b.num.c b.num.xs := Hb1.below hb21 (by omega)
        replace Hb2 : LRd w21 (w.heap.size) b.den.A b.den.n b.den.c b.den.xs := Hb2.below hb21 (by omega)
        replace Hc1 : LRd w21 (w.heap.size) c.num.A c.num.n c.num.c c.num.xs := Hc1.below hb21 (by omega)
        replace Hc2 : LRd w21 (w.heap.size) c.den.A c.den.n c.den.c c.den.xs := Hc2.below hb21 (by omega)
        replace PA : Bk4 w21 (w.heap.size) (.bool a.num.neg) (.slice a.num.A a.num.n a.num.c) (.bool a.den.neg) (.slice a.den.A a.den.n a.den.c) := PA.below hb21 PA.lt
        replace PB : Bk4 w21 (w.heap.size + 1) (.bool b.num.neg) (.slice b.num.A b.num.n b.num.c) (.bool b.den.neg) (.slice b.den.A b.den.n b.den.c) := PB.below hb21 PB.lt
        replace PC : Bk4 w21 (w.heap.size + 2) (.bool c.num.neg) (.slice c.num.A c.num.n c.num.c) (.bool c.den.neg) (.slice c.den.A c.den.n c.den.c) := PC.below hb21 PC.lt
        replace F10 : Bk2 w21 (w11.heap.size + 1) (.int .i64 0) (.int .i64 0) := F10.below hb21 F10.lt
        replace Hx1 : LRd w21 (w14.heap.size) x.num.A x.num.n x.num.c x.num.xs := Hx1.below hb21 (by omega)
        replace Hx2 : LRd w21 (w14.heap.size) x.den.A x.den.n x.den.c x.den.xs := Hx2.below hb21 (by omega)
        replace P15 : Bk4 w21 (w14.heap.size) (.bool x.num.neg) (.slice x.num.A x.num.n x.num.c) (.bool x.den.neg) (.slice x.den.A x.den.n x.den.c) := P15.below hb21 P15.lt
        clear hb21
        clear c1 c2
        have Oq := Lib.hid oq
        have Xq := Lib.hid xq
        have Wq := Lib.hid (And.intro pq (And.intro lq mq))
        have Gq := Lib.hid (rv_low oq hq)
        have Nq := Lib.hid (RV.val oq hq).num
        have Dq := Lib.hid (RV.val oq hq).den
        have Hq1 : LRd w21 w21.heap.size q.num.A q.num.n q.num.c q.num.xs := hq.1
        have Hq2 : LRd w21 w21.heap.size q.den.A q.den.n q.den.c q.den.xs := hq.2
        clear hq oq xq pq lq mq
        have y_F100 : w21.cell? ⟨w11.heap.size + 1, 0, none⟩ = some ((.int .i64 0)) := F10.c0
        have z_F100 : w21.frozen? ⟨w11.heap.size + 1, 0, none⟩ = false := F10.z0
        have y_F101 : w21.cell? ⟨w11.heap.size + 1, 1, none⟩ = some ((.int .i64 0)) := F10.c1
        have z_F101 : w21.frozen? ⟨w11.heap.size + 1, 1, none⟩ = false := F10.z1
        have lt_F10 := F10.lt
        go_upto_region 22 with fail
        clear y_F100 z_F100 y_F101 z_F101 lt_F10
        obtain ⟨U12F10, hU12F10⟩ : ∃ U12F10 : World, U12F10 = ((w21.setCell ⟨w11.heap.size + 1, 0, none⟩ (.int .i64 0)).setCell ⟨w11.heap.size + 1, 1, none⟩ (.int .i64 0)) := ⟨_, rfl⟩
        have zU12F10 : U12F10.heap.size = w21.heap.size := by rw [hU12F10]; simp [World.setCell]
        replace E : Below w.heap.size w U12F10 := by rw [hU12F10]; exact ((E.setCell (by first | (simp; done) | (simp; omega)) _).setCell (by first | (simp; done) | (simp; omega)) _)
        replace Ha1 : LRd U12F10 (w.heap.size) a.num.A a.num.n a.num.c a.num.xs := by rw [hU12F10]; first | exact Ha1.setB F10 (by simp) (by simp) _ _ | exact Ha1.setFarL (by omega) _ _
        replace Ha2 : LRd U12F10 (w.heap.size) a.den.A a.den.n a.den.c a.den.xs := by rw [hU12F10]; first | exact Ha2.setB F10 (by simp) (by simp) _ _ | exact Ha2.setFarL (by omega) _ _
        replace Hb1 : LRd U12F10 (w.heap.size) b.num.A b.num.n b.num.c b.num.xs := by rw [hU12F10]; first | exact Hb1.setB F10 (by simp) (by simp) _ _ | exact Hb1.setFarL (by omega) _ _
        replace Hb2 : LRd U12F10 (w.heap.size) b.den.A b.den.n b.den.c b.den.xs := by rw [hU12F10]; first | exact Hb2.setB F10 (by simp) (by simp) _ _ | exact Hb2.setFarL (by omega) _ _
        replace Hc1 : LRd U12F10 (w.heap.size) c.num.A c.num.n c.num.c c.num.xs := by rw [hU12F10]; first | exact Hc1.setB F10 (by simp) (by simp) _ _ | exact Hc1.setFarL (by omega) _ _
        replace Hc2 : LRd U12F10 (w.heap.size) c.den.A c.den.n c.den.c c.den.xs := by rw [hU12F10]; first | exact Hc2.setB F10 (by simp) (by simp) _ _ | exact Hc2.setFarL (by omega) _ _
        replace PA : Bk4 U12F10 (w.heap.size) (.bool a.num.neg) (.slice a.num.A a.num.n a.num.c) (.bool a.den.neg) (.slice a.den.A a.den.n a.den.c) := by rw [hU12F10]; exact PA.far2 (by omega) _ _
        replace PB : Bk4 U12F10 (w.heap.size + 1) (.bool b.num.neg) (.slice b.num.A b.num.n b.num.c) (.bool b.den.neg) (.slice b.den.A b.den.n b.den.c) := by rw [hU12F10]; exact PB.far2 (by omega) _ _
        replace PC : Bk4 U12F10 (w.heap.size + 2) (.bool c.num.neg) (.slice c.num.A c.num.n c.num.c) (.bool c.den.neg) (.slice c.den.A c.den.n c.den.c) := by rw [hU12F10]; exact PC.far2 (by omega) _ _
        replace Hx1 : LRd U12F10 (w14.heap.size) x.num.A x.num.n x.num.c x.num.xs := by rw [hU12F10]; first | exact Hx1.setB F10 (by simp) (by simp) _ _ | exact Hx1.setFarL (by omega) _ _
        replace Hx2 : LRd U12F10 (w14.heap.size) x.den.A x.den.n x.den.c x.den.xs := by rw [hU12F10]; first | exact Hx2.setB F10 (by simp) (by simp) _ _ | exact Hx2.setFarL (by omega) _ _
        replace P15 : Bk4 U12F10 (w14.heap.size) (.bool x.num.neg) (.slice x.num.A x.num.n x.num.c) (.bool x.den.neg) (.slice x.den.A x.den.n x.den.c) := by rw [hU12F10]; exact P15.far2 (by omega) _ _
        replace Hq1 : LRd U12F10 (w21.heap.size) q.num.A q.num.n q.num.c q.num.xs := by rw [hU12F10]; first | exact Hq1.setB F10 (by simp) (by simp) _ _ | exact Hq1.setFarL (by omega) _ _
        replace Hq2 : LRd U12F10 (w21.heap.size) q.den.A q.den.n q.den.c q.den.xs := by rw [hU12F10]; first | exact Hq2.setB F10 (by simp) (by simp) _ _ | exact Hq2.setFarL (by omega) _ _
        replace F10 : Bk2 U12F10 (w11.heap.size + 1) (.int .i64 0) (.int .i64 0) := by rw [hU12F10]; exact F10.set _ _
        rw [← hU12F10]
        clear hU12F10
        have zU12F10' := Nat.le_of_eq zU12F10
        replace zU12F10 := Nat.le_of_eq zU12F10.symm
        obtain ⟨V12, hV12⟩ : ∃ V12 : World, V12 = (U12F10.alloc (.cells #[.bool q.num.neg, .slice q.num.A q.num.n q.num.c, .bool q.den.neg, .slice q.den.A q.den.n q.den.c] 26)) := ⟨_, rfl⟩
        have bV12 : Below U12F10.heap.size U12F10 V12 := by rw [hV12]; (repeat (first | with_reducible exact Below.refl _ _ | with_reducible refine Below.drew ?_ | with_reducible refine below_drewN ?_ _ | with_reducible refine Below.setCell ?_ (by first | (simp; done) | (simp; omega) | omega) _ | with_reducible refine Below.alloc ?_ (by first | (simp; done) | (simp; omega) | omega) _))
        have zV12 : U12F10.heap.size + 1 ≤ V12.heap.size := by rw [hV12]; simp
        have P21 : Bk4 V12 (w21.heap.size) (.bool q.num.neg) (.slice q.num.A q.num.n q.num.c) (.bool q.den.neg) (.slice q.den.A q.den.n q.den.c) := by rw [hV12]; exact (Bk4.newAt _ _ (by first | omega | (simp; done) | (simp; omega)) _ _ _ _ _)
        rw [← hV12]
        clear hV12
        replace E : Below w.heap.size w V12 := E.trans (bV12.mono E.size)
        replace Ha1 : LRd V12 (w.heap.size) a.num.A a.num.n a.num.c a.num.xs := Ha1.below bV12 (by omega)
        replace Ha2 : LRd V12 (w.heap.size) a.den.A a.den.n a.den.c a.den.xs := Ha2.below bV12 (by omega)
        replace Hb1 : LRd V12 (w.heap.size) b.num.A b.num.n b.num.c b.num.xs := Hb1.below bV12 (by omega)
        replace Hb2 : LRd V12 (w.heap.size) b.den.A b.den.n b.den.c b.den.xs := Hb2.below bV12 (by omega)
        replace Hc1 : LRd V12 (w.heap.size) c.num.A c.num.n c.num.c c.num.xs := Hc1.below bV12 (by omega)
        replace Hc2 : LRd V12 (w.heap.size) c.den.A c.den.n c.den.c c.den.xs := Hc2.below bV12 (by omega)
        replace PA : Bk4 V12 (w.heap.size) (.bool a.num.neg) (.slice a.num.A a.num.n a.num.c) (.bool a.den.neg) (.slice a.den.A a.den.n a.den.c) := PA.below bV12 PA.lt
        replace PB : Bk4 V12 (w.heap.size + 1) (.bool b.num.neg) (.slice b.num.A b.num.n b.num.c) (.bool b.den.neg) (.slice b.den.A b.den.n b.den.c) := PB.below bV12 PB.lt
        replace PC : Bk4 V12 (w.heap.size + 2) (.bool c.num.neg) (.slice c.num.A c.num.n c.num.c) (.bool c.den.neg) (.slice c.den.A c.den.n c.den.c) := PC.below bV12 PC.lt
        replace F10 : Bk2 V12 (w11.heap.size + 1) (.int .i64 0) (.int .i64 0) := F10.below bV12 F10.lt
        replace Hx1 : LRd V12 (w14.heap.size) x.num.A x.num.n x.num.c x.num.xs := Hx1.below bV12 (by omega)
        replace Hx2 : LRd V12 (w14.heap.size) x.den.A x.den.n x.den.c x.den.xs := Hx2.below bV12 (by omega)
        replace P15 : Bk4 V12 (w14.heap.size) (.bool x.num.neg) (.slice x.num.A x.num.n x.num.c) (.bool x.den.neg) (.slice x.den.A x.den.n x.den.c) := P15.below bV12 P15.lt
        replace Hq1 : LRd V12 (w21.heap.size) q.num.A q.num.n q.num.c q.num.xs := Hq1.below bV12 (by omega)
        replace Hq2 : LRd V12 (w21.heap.size) q.den.A q.den.n q.den.c q.den.xs := Hq2.below bV12 (by omega)
        clear bV12
        have UQ := Lib.hid (low_uniq (field3 VA.out.pos VC.out.pos Wx.out.1 hcn.out Xx.out Xq.out) Wq.out.1 VA.out.pos Gq.out VA.out.low)
        have NQ := Lib.hid (show IRep q.num.neg q.num.xs a.num.val by rw [← UQ.out.1]; exact Nq.out)
        have DQ := Lib.hid (show IRep q.den.neg q.den.xs a.den.val by rw [← UQ.out.2]; exact Dq.out)
        have lt_PA := PA.lt
        have lt_F10 := F10.lt
        have lt_P21 := P21.lt
        have HS := Lib.hid (fun (u : World) (hu : Below (V12.heap.size) V12 u) => (⟨(hu.cell (p := ⟨w.heap.size, 0, none⟩) (by show w.heap.size < _; omega)).trans PA.c0, (hu.cell (p := ⟨w.heap.size, 1, none⟩) (by show w.heap.size < _; omega)).trans PA.c1, (hu.cell (p := ⟨w.heap.size, 2, none⟩) (by show w.heap.size < _; omega)).trans PA.c2, (hu.cell (p := ⟨w.heap.size, 3, none⟩) (by show w.heap.size < _; omega)).trans PA.c3, (hu.cell (p := ⟨w11.heap.size + 1, 0, none⟩) (by show w11.heap.size + 1 < _; omega)).trans F10.c0, (hu.cell (p := ⟨w11.heap.size + 1, 1, none⟩) (by show w11.heap.size + 1 < _; omega)).trans F10.c1, (hu.cell (p := ⟨w21.heap.size, 0, none⟩) (by show w21.heap.size < _; omega)).trans P21.c0, (hu.cell (p := ⟨w21.heap.size, 1, none⟩) (by show w21.heap.size < _; omega)).trans P21.c1, (hu.cell (p := ⟨w21.heap.size, 2, none⟩) (by show w21.heap.size < _; omega)).trans P21.c2, (hu.cell (p := ⟨w21.heap.size, 3, none⟩) (by show w21.heap.size < _; omega)).trans P21.c3⟩ : u.cell? ⟨w.heap.size, 0, none⟩ = some (.bool a.num.neg) ∧ u.cell? ⟨w.heap.size, 1, none⟩ = some (.slice a.num.A a.num.n a.num.c) ∧ u.cell? ⟨w.heap.size, 2, none⟩ = some (.bool a.den.neg) ∧ u.cell? ⟨w.heap.size, 3, none⟩ = some (.slice a.den.A a.den.n a.den.c) ∧ u.cell? ⟨w11.heap.size + 1, 0, none⟩ = some (.int .i64 0) ∧ u.cell? ⟨w11.heap.size + 1, 1, none⟩ = some (.int .i64 0) ∧ u.cell? ⟨w21.heap.size, 0, none⟩ = some (.bool q.num.neg) ∧ u.cell? ⟨w21.heap.size, 1, none⟩ = some (.slice q.num.A q.num.n q.num.c) ∧ u.cell? ⟨w21.heap.size, 2, none⟩ = some (.bool q.den.neg) ∧ u.cell? ⟨w21.heap.size, 3, none⟩ = some (.slice q.den.A q.den.n q.den.c)))
        have G0 : Below V12.heap.size V12 V12.drew := Below.drew (Below.refl _ _)
        have g0s := G0.size
        have G0m : Below (V12.heap.size) V12 V12.drew := G0.mono (by omega)
        go_region_held3 (fun u => u.cell? ⟨w.heap.size, 0, none⟩ = some (.bool a.num.neg) ∧ u.cell? ⟨w.heap.size, 1, none⟩ = some (.slice a.num.A a.num.n a.num.c) ∧ u.cell? ⟨w.heap.size, 2, none⟩ = some (.bool a.den.neg) ∧ u.cell? ⟨w.heap.size, 3, none⟩ = some (.slice a.den.A a.den.n a.den.c) ∧ u.cell? ⟨w11.heap.size + 1, 0, none⟩ = some (.int .i64 0) ∧ u.cell? ⟨w11.heap.size + 1, 1, none⟩ = some (.int .i64 0) ∧ u.cell? ⟨w21.heap.size, 0, none⟩ = some (.bool q.num.neg) ∧ u.cell? ⟨w21.heap.size, 1, none⟩ = some (.slice q.num.A q.num.n q.num.c) ∧ u.cell? ⟨w21.heap.size, 2, none⟩ = some (.bool q.den.neg) ∧ u.cell? ⟨w21.heap.size, 3, none⟩ = some (.slice q.den.A q.den.n q.den.c)) (first | (refine HS.out _ ?_; (repeat (first | with_reducible exact G0m | with_reducible exact BN.mono (by omega) | with_reducible exact B1.mono (by omega) | with_reducible exact Below.refl _ _ | with_reducible refine Below.drew ?_ | with_reducible refine below_drewN ?_ _ | with_reducible refine Below.setCell ?_ (by first | (simp; done) | (simp; omega) | omega) _)); done) | fail)
          (first
            | (go_at_call 12; (with_reducible refine (ratioOf_any _ V12.heap.size a (rv_at ((Ha1.below G0 (by omega)).more (by omega)) ((Ha2.below G0 (by omega)).more (by omega))) (by have := G0.size; omega) oa.out).mono ?_); rintro e u1 ⟨n1, A1, k1, e1, z1, v1, D1, l1, d1, y1, t1, rfl, hd1, hg1, hr1, hs1, hv1, hw1, hb1⟩; have B1 : Below V12.heap.size V12 u1 := bnext G0 hb1; have R1 := Lib.hid hr1; have S1 := Lib.hid hs1; have T1 := Lib.hid hv1; have U1 := Lib.hid (show sval false t1 = a.den.val from hw1); clear hr1 hs1 hv1 hw1; have b1s := B1.size)
            | (go_at_call 11; (with_reducible refine (sameRatio_any _ u1.heap.size q n1 A1 D1 k1 e1 l1 d1 v1 t1 a.num.val a.den.val z1 y1 (rv_at ((Hq1.below B1 (by omega)).more (by omega)) ((Hq2.below B1 (by omega)).more (by omega))) hd1 hg1 (Nat.le_refl _) NQ DQ R1 S1 T1 U1 (ref_len R1.out T1.out hd1.len.out baa.out.1) (ref_len (m := false) S1.out U1.out hg1.len.out baa.out.2)).mono ?_); rintro e u2 ⟨rfl, hb2⟩; have BN : Below V12.heap.size V12 u2 := bnext B1 hb2; have b2s := BN.size)
            | fail)
        all_goals (go_wp2_with fail)
        all_goals go_ret
        all_goals exact ⟨rfl, E.trans (BN.mono E.size)⟩
theorem field_any (w : World) (a b c : RV) (HA : a.at w w.heap.size) (HB : b.at w w.heap.size) (HC : c.at w w.heap.size) :
    Calls Try.prog 3 #[a.v, b.v, c.v] w (fun e w' => e = .returned (.bool true) ∧ Below w.heap.size w w') := by
  rcases rthree a b c with ⟨h1, h2, h3, h4⟩ | ⟨f2, h⟩
  · exact field_ok w a b c HA HB HC (Lib.hid h1) (Lib.hid h2) (Lib.hid h3) h4
  · exact field_bad w a b c HA HB HC f2 h
end Go.Proofs.Ytdhdkknaagadaaa
