/- gives of results that may be too large; cross products of the reference's results. -/
import Derived.Test.YtflmcgoijofpdaaGreatAx
import Derived.Test.YtflmcgoijofpdaaGreatAAr1
namespace Go.Proofs.YtflmcgoijofpdaaGreat
open Go.RowKit
set_option maxHeartbeats 400000
set_option maxRecDepth 100000
set_option linter.unusedSimpArgs false
set_option linter.unusedVariables false

set_option maxHeartbeats 4000000 in
theorem gives_z (w : World) (B : Nat) (r : RV) (f1 f2 z1 z2 : Int) (q : QV) (y1 : Int) (y2 : Nat) (H : r.at w B) (HQ : q.at w B) (hB : B ≤ w.heap.size) (hZ : Hid (ZRes r f1 f2 z1 z2)) (hq : Hid (q.is y1 y2)) (hl : Hid (y1 * z2 = z1 * (y2 : Int) ∧ 0 < y2 ∧ Nat.gcd y1.natAbs y2 = 1)) (hz : z2 ≠ 0) :
    Calls Tryz.prog 17 #[r.v, flt f1 f2, q.v, flt 0 0] w (fun e w' => e = .returned (.bool true) ∧ Below w.heap.size w w') := by
  obtain ⟨n, d, h1, hd, hg, hc⟩ := hZ.out
  obtain ⟨l1, l2, l3⟩ := hl.out
  obtain ⟨v, R1, S1, R2⟩ := hq.out
  obtain ⟨en, ed⟩ := low_same h1 hd hg l1 l2 l3 hz
  have c1 := HQ.1.cap
  have c2 := HQ.2.cap
  rcases hc with ⟨t1, t2, rfl, rfl, I, J⟩ | ⟨t1, rfl, rfl, I, J⟩
  · have k1 : q.n ≤ 256 := repD_len128 R1 (by rw [← sval_abs q.m v, S1, ← en]; exact t1) HQ.1.len.out
    have k2 : q.k ≤ 256 := repD_len128 R2 (by omega) HQ.2.len.out
    exact gives_ok w B r q v y2 n d H HQ hB (Lib.hid I) (Lib.hid J) (Lib.hid R1) (Lib.hid R2) (Lib.hid (by rw [S1, en])) (Lib.hid (by rw [ed]; rfl)) k1 k2
  · have h3 := H.1.len.out
    have h4 := H.2.len.out
    have g1 := (IRep.len0 I).2 rfl
    have g2 := (IRep.len0 J).2 rfl
    have s1 := I.sgn
    have s2 := J.sgn
    obtain ⟨⟨m, A, k, c, xs⟩, ⟨m', D, l, d', ys⟩⟩ := r
    obtain rfl : m = false := s1
    obtain rfl : m' = false := s2
    obtain rfl : k = 0 := by have h5 : xs.length = k := h3; have h6 : xs.length = 0 := g1; omega
    obtain rfl : l = 0 := by have h5 : ys.length = l := h4; have h6 : ys.length = 0 := g2; omega
    refine gives_large w A D c d' q (by omega) (by omega) ?_
    rcases t1 with t | t
    · have k1 : 256 < q.n := repD_big R1 (by rw [← sval_abs q.m v, S1, ← en]; exact t) HQ.1.len.out
      rw [decide_eq_false (show ¬ q.n ≤ 256 by omega)]
      rfl
    · have k2 : 256 < q.k := repD_big R2 (by omega) HQ.2.len.out
      rw [decide_eq_false (show ¬ q.k ≤ 256 by omega), Bool.and_false]
theorem QV.at.below {u u' : World} {q : QV} (H : q.at u u.heap.size) (b : Below u.heap.size u u') : q.at u' u'.heap.size := ⟨DRd.more (DRd.below H.1 b (Nat.le_refl _)) b.size, DRd.more (DRd.below H.2 b (Nat.le_refl _)) b.size⟩
end Go.Proofs.YtflmcgoijofpdaaGreat
