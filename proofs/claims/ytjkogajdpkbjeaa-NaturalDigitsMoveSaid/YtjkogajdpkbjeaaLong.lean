/- divideLong. -/
import Derived.Test.YtjkogajdpkbjeaaLongNum
import Derived.Test.YtjkogajdpkbjeaaGuess
import Derived.Test.YtjkogajdpkbjeaaSubMul
import Derived.Test.YtjkogajdpkbjeaaAddBack
import Derived.Test.YtjkogajdpkbjeaaShl
import Derived.Test.YtjkogajdpkbjeaaShr
import Derived.Deep.QuietTactic
import Derived.BigQuiet
namespace Go.Proofs.Ytjkogajdpkbjeaa
open Go.RowKit
set_option maxHeartbeats 400000
set_option maxRecDepth 100000
set_option linter.unusedSimpArgs false
set_option linter.unusedVariables false

theorem shl0_any (w : World) (B : Nat) (A : Option Addr) (n c p : Nat) (q : Int) (xs : List Nat) (h : LRd w B A n c xs) (hB : B ≤ w.heap.size) (hn : n ≤ 1000000000) (hp : p < 32) (hq : q = p) :
    Calls Try.prog 54 #[.slice A n c, .int .i64 q] w (ShlPost (n + 1) 0 p xs w) := by
  have := shiftLeft_any w B A n c 0 p xs h hB hn (by omega) hp
  rw [show 32 * ((0 : Nat) : Int) + p = q by omega] at this
  exact this
theorem shr0_any (w : World) (B : Nat) (A : Option Addr) (n c p : Nat) (q : Int) (xs : List Nat) (h : LRd w B A n c xs) (hB : B ≤ w.heap.size) (hn : n ≤ 1000000000) (hp : p < 32) (hq : q = p) :
    Calls Try.prog 53 #[.slice A n c, .int .i64 q] w (ShrPost n 0 p xs w) := by
  have := shiftRight_any w B A n c 0 p xs h hB hn (by omega) hp
  rw [show 32 * ((0 : Nat) : Int) + p = q by omega] at this
  exact this

/-- What a division gives: quotient and rest, in memory of their own. -/
def GivesQR (w : World) (p q : Nat) (e : Ending) (w' : World) : Prop :=
  ∃ A k c zs A2 k2 c2 zs2, e = .returned (.tuple #[.slice A k c, .slice A2 k2 c2]) ∧ LRd w' w'.heap.size A k c zs ∧ Rep 4294967296 zs p ∧ LRd w' w'.heap.size A2 k2 c2 zs2 ∧ Rep 4294967296 zs2 q ∧ Below w.heap.size w w'
/-- The divisor, shifted. -/
structure DsorIs (m p : Nat) (ys ds : List Nat) : Prop where
  val : S 4294967296 (fun t => ds.getD t 0) (m + 2) = vb 4294967296 ys * 2 ^ p
  low : S 4294967296 (fun t => ds.getD t 0) (m + 2) < 4294967296 ^ (m + 2)
  top : 2147483648 ≤ nth ds (m + 1)
theorem dsor_of {m : Nat} {ys ds : List Nat} (hy : Lim ys) (hl : ys.length = m + 2) (ht : ys.getD (m + 1) 0 ≠ 0) (hd : Lim ds) (hdl : ds.length = m + 3) (hv : vb 4294967296 ds = vb 4294967296 ys * (2 ^ (32 - Lib.bitLen (ys.getD (m + 1) 0)) * 4294967296 ^ 0)) :
    DsorIs m (32 - Lib.bitLen (ys.getD (m + 1) 0)) ys ds := by
  obtain ⟨h1, h2⟩ := lz_range ht (Dig.at_ hy (by decide) (m + 1))
  rw [Nat.pow_zero, Nat.mul_one] at hv
  have e : vb 4294967296 ys = S 4294967296 (fun t => ys.getD t 0) (m + 1) + ys.getD (m + 1) 0 * 4294967296 ^ (m + 1) := by unfold vb; rw [hl, S_succ]
  have hs : S 4294967296 (fun t => ys.getD t 0) (m + 1) < 4294967296 ^ (m + 1) := S_lt (by decide) (fun j _ => Dig.at_ hy (by decide) j)
  have ed : vb 4294967296 ds = S 4294967296 (fun t => ds.getD t 0) (m + 2) + ds.getD (m + 2) 0 * (4294967296 * 4294967296 ^ (m + 1)) := by unfold vb; rw [hdl, S_succ _ _ (m + 2), Nat.pow_succ _ (m + 1), Nat.mul_comm (4294967296 ^ (m + 1))]
  have es : S 4294967296 (fun t => ds.getD t 0) (m + 2) = S 4294967296 (fun t => ds.getD t 0) (m + 1) + ds.getD (m + 1) 0 * 4294967296 ^ (m + 1) := S_succ _ _ _
  have hs2 : S 4294967296 (fun t => ds.getD t 0) (m + 1) < 4294967296 ^ (m + 1) := S_lt (by decide) (fun j _ => Dig.at_ hd (by decide) j)
  rw [ed, e] at hv
  obtain ⟨_, k2, k3, k4⟩ := dsor_num (Nat.pow_pos (by decide)) hv hs h2 (Nat.two_pow_pos _) es hs2 h1
  refine ⟨by rw [k2, e], by rw [Nat.pow_succ, Nat.mul_comm]; exact k3, ?_⟩
  unfold nth
  omega

theorem long_start {N m : Nat} {xs ys cs2 ds : List Nat} (hx : Lim xs) (hxl : xs.length = N) (hy : Lim ys) (hyl : ys.length = m + 2) (hmn : m + 2 ≤ N) (hv : vb 4294967296 cs2 = vb 4294967296 xs * (2 ^ (32 - Lib.bitLen (ys.getD (m + 1) 0)) * 4294967296 ^ 0)) (hc : Lim cs2) (hcl : cs2.length = N + 1)
    (hd : DsorIs m (32 - Lib.bitLen (ys.getD (m + 1) 0)) ys ds) (ht : ys.getD (m + 1) 0 ≠ 0) :
    DlIs 4294967296 (m + 2) N (vb 4294967296 xs * 2 ^ (32 - Lib.bitLen (ys.getD (m + 1) 0))) (S 4294967296 (fun t => ds.getD t 0) (m + 2)) (N - (m + 2) + 1) cs2 (List.replicate (N - (m + 2) + 1) 0) := by
  rw [Nat.pow_zero, Nat.mul_one] at hv
  refine dl_start (by decide) hmn hcl hc (fun j => replicate_getD _ _) hv ?_
  rw [hd.val]
  have h1 : vb 4294967296 xs < 4294967296 ^ N := by rw [← hxl]; exact vb_lt (by decide) hx
  have h2 : 4294967296 ^ (m + 1) ≤ vb 4294967296 ys := by
    unfold vb; rw [hyl, S_succ]
    have : 1 * 4294967296 ^ (m + 1) ≤ ys.getD (m + 1) 0 * 4294967296 ^ (m + 1) := Nat.mul_le_mul_right _ (Nat.one_le_iff_ne_zero.2 ht)
    omega
  have h3 : 4294967296 ^ (m + 1) * 4294967296 ^ (N - (m + 2) + 1) ≤ vb 4294967296 ys * 4294967296 ^ (N - (m + 2) + 1) := Nat.mul_le_mul_right _ h2
  rw [← Nat.pow_add, show m + 1 + (N - (m + 2) + 1) = N by omega] at h3
  have h4 := Nat.mul_lt_mul_of_pos_right (show vb 4294967296 xs < vb 4294967296 ys * 4294967296 ^ (N - (m + 2) + 1) by omega) (Nat.two_pow_pos (32 - Lib.bitLen (ys.getD (m + 1) 0)))
  rw [Nat.mul_assoc, Nat.mul_comm (4294967296 ^ (N - (m + 2) + 1)), ← Nat.mul_assoc] at h4
  exact h4

theorem win_ext {i n : Nat} {cs : List Nat} : S 4294967296 (fun t => ((cs.drop i).take n).getD t 0) n = S 4294967296 (fun t => cs.getD (i + t) 0) n :=
  S_ext (fun j hj => by rw [getD_take, if_pos hj, getD_drop])
theorem take_ext {n : Nat} {cs : List Nat} : S 4294967296 (fun t => (cs.take n).getD t 0) n = S 4294967296 (fun t => cs.getD t 0) n :=
  S_ext (fun j hj => by rw [getD_take, if_pos hj])
theorem nth_take {n j : Nat} {cs : List Nat} (h : j < n) : nth (cs.take n) j = nth cs j := by unfold nth; rw [getD_take, if_pos h]

theorem long_right {m N R j : Nat} {g : Int} {cs2 cs4 cs3 ds : List Nat} (hmn : m + 2 ≤ N) (hql : cs3.length = N - (m + 2) + 1) (hj : j + 1 ≤ N - (m + 2) + 1) (hlow : S 4294967296 (fun t => ds.getD t 0) (m + 2) ≤ 4294967296 ^ (m + 2))
    (out : ∀ i, i < j ∨ j + (m + 2) + 1 ≤ i → cs4.getD i 0 = cs2.getD i 0) (h : DlIs 4294967296 (m + 2) N R (S 4294967296 (fun t => ds.getD t 0) (m + 2)) (j + 1) cs2 cs3)
    (hv : S 4294967296 (fun i => cs4.getD (j + i) 0) (m + 2 + 1) + g.toNat * S 4294967296 (fun t => (ds.take (m + 2)).getD t 0) (m + 2) = S 4294967296 (fun i => cs2.getD (j + i) 0) (m + 2 + 1) + 0 * 4294967296 ^ (m + 2 + 1))
    (p3 : S 4294967296 (fun i => cs2.getD (j + i) 0) (m + 3) < (g.toNat + 1) * S 4294967296 (fun t => ds.getD t 0) (m + 2)) :
    DlIs 4294967296 (m + 2) N R (S 4294967296 (fun t => ds.getD t 0) (m + 2)) j cs4 (cs3.set j g.toNat) := by
  rw [take_ext] at hv
  obtain ⟨e1, e2⟩ := dl_right hv p3
  exact dl_core hql (by omega) hlow out h e1 e2
theorem long_gpos {m j : Nat} {g : Int} {cs2 cs4 ds : List Nat} (hc : Lim cs4)
    (hv : S 4294967296 (fun i => cs4.getD (j + i) 0) (m + 2 + 1) + g.toNat * S 4294967296 (fun t => (ds.take (m + 2)).getD t 0) (m + 2) = S 4294967296 (fun i => cs2.getD (j + i) 0) (m + 2 + 1) + 1 * 4294967296 ^ (m + 2 + 1)) : 0 < g := by
  have h1 : S 4294967296 (fun i => cs4.getD (j + i) 0) (m + 2 + 1) < 4294967296 ^ (m + 2 + 1) := S_lt (by decide) (fun i _ => Dig.at_ hc (by decide) _)
  rcases Nat.eq_zero_or_pos g.toNat with e | e
  · exfalso
    rw [e, Nat.zero_mul, Nat.one_mul] at hv
    omega
  · omega
theorem long_wrong {m N R j : Nat} {g : Int} {cs2 cs4 cs5 cs3 ds : List Nat} (hmn : m + 2 ≤ N) (hql : cs3.length = N - (m + 2) + 1) (hj : j + 1 ≤ N - (m + 2) + 1) (hlow : S 4294967296 (fun t => ds.getD t 0) (m + 2) ≤ 4294967296 ^ (m + 2)) (hc4 : Lim cs4) (hc5 : Lim cs5)
    (out : ∀ i, i < j ∨ j + (m + 2) + 1 ≤ i → cs4.getD i 0 = cs2.getD i 0) (out5 : ∀ i, i < j ∨ j + (m + 2) + 1 ≤ i → cs5.getD i 0 = cs4.getD i 0) (h : DlIs 4294967296 (m + 2) N R (S 4294967296 (fun t => ds.getD t 0) (m + 2)) (j + 1) cs2 cs3)
    (hv : S 4294967296 (fun i => cs4.getD (j + i) 0) (m + 2 + 1) + g.toNat * S 4294967296 (fun t => (ds.take (m + 2)).getD t 0) (m + 2) = S 4294967296 (fun i => cs2.getD (j + i) 0) (m + 2 + 1) + 1 * 4294967296 ^ (m + 2 + 1))
    (p4 : g.toNat * S 4294967296 (fun t => ds.getD t 0) (m + 2) ≤ S 4294967296 (fun i => cs2.getD (j + i) 0) (m + 3) + S 4294967296 (fun t => ds.getD t 0) (m + 2))
    (hv5 : S 4294967296 (fun i => cs5.getD (j + i) 0) (m + 2 + 1) % 4294967296 ^ (m + 2 + 1) = (S 4294967296 (fun i => cs4.getD (j + i) 0) (m + 2 + 1) + S 4294967296 (fun t => (ds.take (m + 2)).getD t 0) (m + 2)) % 4294967296 ^ (m + 2 + 1)) :
    DlIs 4294967296 (m + 2) N R (S 4294967296 (fun t => ds.getD t 0) (m + 2)) j cs5 (cs3.set j (g - 1).toNat) := by
  rw [take_ext] at hv hv5
  have h1 : S 4294967296 (fun i => cs4.getD (j + i) 0) (m + 2 + 1) < 4294967296 ^ (m + 2 + 1) := S_lt (by decide) (fun i _ => Dig.at_ hc4 (by decide) _)
  have h2 : S 4294967296 (fun i => cs5.getD (j + i) 0) (m + 2 + 1) < 4294967296 ^ (m + 2 + 1) := S_lt (by decide) (fun i _ => Dig.at_ hc5 (by decide) _)
  obtain ⟨e1, e2, e3⟩ := dl_wrong (by decide) hv h1 h2 hlow p4 hv5
  rw [show (g - 1).toNat = g.toNat - 1 by omega]
  exact dl_core hql (by omega) hlow (fun i hi => (out5 i hi).trans (out i hi)) h e1 e2

def DlRel (m N R D g1 g2 g3 : Nat) (ds : List Nat) (w : World) (i : Value) (wr : World) : Prop :=
  ∃ (k : Nat) (cs2 cs3 : List Nat), k ≤ N - (m + 2) + 1 ∧ i = .int .i64 ((k : Int) - 1) ∧ R32 wr g1 ds ∧ R32 wr g2 cs2 ∧ R32 wr g3 cs3 ∧ Lim cs2 ∧ Lim cs3 ∧ Hid (cs2.length = N + 1) ∧ Hid (cs3.length = N - (m + 2) + 1) ∧ Below w.heap.size w wr ∧
    Hid (DlIs 4294967296 (m + 2) N R D k cs2 cs3)
set_option maxHeartbeats 1000000 in
theorem divideLong_any (w : World) (B : Nat) (A D : Option Addr) (N m c d : Nat) (xs ys : List Nat) (h : LRd w B A N c xs) (k : LRd w B D (m + 2) d ys) (hB : B ≤ w.heap.size) (hN : N ≤ 1000000) (hmn : m + 2 ≤ N) (ht : ys.getD (m + 1) 0 ≠ 0) :
    Calls Try.prog 66 #[.slice A N c, .slice D (m + 2) d] w (GivesQR w (vb 4294967296 xs / vb 4294967296 ys) (vb 4294967296 xs % vb 4294967296 ys)) := by
  have hcap := h.cap
  have hcap2 := k.cap
  have y1 := nth_nn ys (m + 1)
  have y2 := k.lim.nth (m + 1)
  have hbl := bitLen_32 (nth ys (m + 1)) ⟨y1, y2⟩
  have hbt : Lib.bitLen (nth ys (m + 1)).toNat = Lib.bitLen (ys.getD (m + 1) 0) := by unfold nth; rfl
  have hbp : 1 ≤ Lib.bitLen (nth ys (m + 1)).toNat := by rw [hbt]; exact bitLen_pos ht (by have := Dig.at_ k.lim (by decide) (m + 1); omega)
  obtain ⟨b', off', rfl, hb', hc'⟩ := k.rd (by omega)
  have g1 := hc' (m + 1) (by omega)
  have HT := Lib.hid hbt
  clear hc' hbt
  have em : ((N - (m + 2) + 1 : Nat) : Int) = (N : Int) - ((m : Int) + 2) + 1 := by omega
  have hmk := mk32 (N - (m + 2) + 1) (by omega)
  rw [em] at hmk
  clear em
  go_enter Try.func66, Try.ntmps66
  go_wp2_with (go_at_call 69; refine (lz32_any _ _ ⟨y1, y2⟩).mono ?_; rintro e w' ⟨rfl, rfl⟩)
  refine (shl0_any w B _ (m + 2) d (32 - Lib.bitLen (nth ys (m + 1)).toNat) _ ys k hB (by omega) (by omega) (by omega)).mono ?_
  rintro e w1 ⟨ds, rfl, hD1, hdl, hdL, hb1, hdv⟩
  have hz1 := hD1.lt
  go_wp2_with fail
  refine (shl0_any w1 B _ N c (32 - Lib.bitLen (nth ys (m + 1)).toNat) _ xs (h.below hb1 hB) (by omega) (by omega) (by omega) (by omega)).mono ?_
  rintro e w2 ⟨cs2, rfl, hC2, hcl, hcL, hb2, hcv⟩
  have hD2 := hD1.below hb2 hz1
  have hz2 := hC2.lt
  have hQ0 := R32.new w2 (N - (m + 2) + 1)
  have hD3 := hD2.below (bl1 w2 (.cells (List.replicate (N - (m + 2) + 1) (Value.int .u32 0)).toArray 58)) (by omega)
  have hC3 := hC2.below (bl1 w2 (.cells (List.replicate (N - (m + 2) + 1) (Value.int .u32 0)).toArray 58)) hz2
  have HDI := Lib.hid (dsor_of k.lim k.len.out ht hdL hdl.out (by rw [← HT.out]; exact hdv))
  have HDLO := Lib.hid (Nat.le_of_lt HDI.out.low)
  have hST := Lib.hid (long_start h.lim h.len.out k.lim k.len.out hmn (by rw [← HT.out]; exact hcv) hcL hcl.out HDI.out ht)
  have htop := HDI.out.top
  have hdt := nth_take (cs := ds) (show m + 1 < m + 2 by omega)
  rw [← hdt] at htop
  clear hdt
  go_wp2_with fail
  go_loopw [11] (DlRel m N (vb 4294967296 xs * 2 ^ (32 - Lib.bitLen (ys.getD (m + 1) 0))) (S 4294967296 (fun t => ds.getD t 0) (m + 2)) w.heap.size w1.heap.size w2.heap.size ds w) (fun i _ => (intOf i + 1).toNat)
  case atStart => exact ⟨N - (m + 2) + 1, cs2, List.replicate (N - (m + 2) + 1) 0, Nat.le_refl _, (by congr 1; omega), hD3, hC3, hQ0, hcL, Lim.zeros _, hcl, (by show _ = _; simp), (hb1.trans (hb2.mono (by omega))).alloc (by omega) _, hST.out⟩
  case round =>
    clear hD1 hC2 hD2 hQ0 hD3 hC3 hST hcv hdv hcl hcL hmk
    obtain ⟨q, cs2, cs3, hq, rfl, hD, hC, hQ, hCL, hQL, hcl, hql, hbw, HI⟩ := hrel
    by_cases h0 : q = 0
    · subst h0
      have hE := Lib.hid (dl_end (Nat.two_pow_pos _) hmn hql.out hcl.out HDI.out.val HI.out)
      have hlt2 := hC.lt
      have hlt3 := hQ.lt
      go_wp2_with fail
      refine (trim_any _ _ _ _ _ _ (hQ.lrdAll hQL hlt3 hql (by omega))).mono ?_
      rintro e w' ⟨t, rfl, ht1, rfl⟩
      go_wp2_with fail
      refine (shr0_any wr wr.heap.size _ (N + 1) _ (32 - Lib.bitLen (nth ys (m + 1)).toNat) _ cs2 (hC.lrdAll hCL hlt2 hcl (by omega)) (Nat.le_refl _) (by omega) (by omega) (by omega)).mono ?_
      rintro e w6 ⟨rs, rfl, hS6, hsl, hsL, hb6, hsv⟩
      have hQ6 := hQ.below hb6 hlt3
      have hlt6 := hS6.lt
      have hlt7 := hQ6.lt
      go_wp2_with fail
      refine (trim_any _ _ _ _ _ _ (hS6.lrdAll hsL hlt6 hsl (by omega))).mono ?_
      rintro e w' ⟨t2, rfl, ht2, rfl⟩
      go_wp2_with fail
      go_ret2
      have e2 : vb 4294967296 rs = vb 4294967296 xs % vb 4294967296 ys := by
        rw [hsv, Nat.pow_zero, Nat.mul_one, HT.out]; exact hE.out.2
      have r1 := trimmed ht1 hql.out hQL
      have r2 := trimmed ht2 hsl.out hsL
      rw [hE.out.1] at r1
      rw [e2] at r2
      have l1 := ht1.le
      have l2 := ht2.le
      exact ⟨_, t, _, _, _, t2, _, _, rfl, hQ6.lrd0 hQL hlt7 (by have := hql.out; omega) (by omega), r1, hS6.lrd0 hsL hlt6 (by have := hsl.out; omega) (by omega), r2, hbw.trans (hb6.mono (by omega))⟩
    · obtain ⟨j, rfl⟩ : ∃ j, q = j + 1 := ⟨q - 1, by omega⟩
      have ej : ((j + 1 : Nat) : Int) - 1 = (j : Int) := by omega
      rw [ej]
      clear ej h0
      have hlt1 := hD.lt
      have hlt2 := hC.lt
      have hlt3 := hQ.lt
      have HW := Lib.hid (dl_window (b := 4294967296) (by decide) (Dig.at_ hCL (by decide) j) HI.out.2.1)
      have hpart := hC.lrd hCL (B := wr.heap.size) (o := j) (n := m + 3) (c := N + 1 - j) hlt2 (by have := hcl.out; omega) (by omega)
      have hdsr := hD.lrd0 hdL (B := wr.heap.size) (n := m + 2) (c := m + 2 + 1) hlt1 (by have := hdl.out; omega) (by omega)
      go_wp2_with fail
      rw [show j + (m + 2) + 1 - j = m + 3 by omega]
      refine (guessLimb_any wr _ _ _ m _ _ _ _ hpart hdsr htop (by rw [win_ext, take_ext]; exact HW.out)).mono ?_
      rw [win_ext, take_ext]
      rintro e w3 ⟨g, rfl, p1, p2, p3, p4, t, rfl⟩
      have P3 := Lib.hid p3
      have P4 := Lib.hid p4
      clear p3 p4 HW hpart hdsr
      have hdsr2 := (hD.drewN t).lrd0 hdL (B := w1.heap.size) (n := m + 2) (c := m + 2 + 1) (by omega) (by have := hdl.out; omega) (by omega)
      go_wp2_with fail
      refine (subtractMultiple_any (wr.drewN t) w1.heap.size w1.heap.size j _ (m + 2) _ _ cs2 _ g (hC.drewN t) hCL hdsr2 (Nat.le_refl _) (by have := hcl.out; omega) ⟨p1, p2⟩ (by omega)).mono ?_
      rintro e w4 ⟨br, cs4, rfl, b0, b1, hC4, hCL4, hg4, hcl4, hout4, hval4⟩
      have HO := Lib.hid hout4
      have HV := Lib.hid hval4
      have HL4 := Lib.hid hcl4
      clear hout4 hval4 hcl4 hdsr2
      have hD4 := (hD.drewN t).grown hg4 (by simp; omega)
      have hQ4 := (hQ.drewN t).grown hg4 (by simp; omega)
      have hb4 := (below_drewN hbw t).grown hg4 (by show _ ≤ wr.heap.size; omega) (fun k hk => by injection hk; omega)
      have hbr : br = 0 ∨ br = 1 := by omega
      rcases hbr with rfl | rfl
      · have f0 : ((0 : Int) != 0) = false := by decide
        have q1 := hQ4.cell (j := j) (by have := hql.out; omega)
        have q2 := hQ4.frozen j
        have ST := Lib.hid (long_right hmn hql.out hq HDLO.out HO.out HI.out HV.out P3.out)
        go_wp2_with fail
        go_roundw
        case rel => exact ⟨j, cs4, _, by omega, rfl, hD4.far (by show _ ≠ w2.heap.size; omega) _, hC4.far (by show _ ≠ w2.heap.size; omega) _, hQ4.put _ p1, hCL4, hQL.set (by omega), HL4.out.trans hcl.out, (by show _ = _; rw [List.length_set]; exact hql.out), hb4.setCell (by show _ ≤ w2.heap.size; omega) _, ST.out⟩
        case measure => first | (simp [intOf]; done) | (simp [intOf]; omega)
      · have f0 : ((1 : Int) != 0) = true := by decide
        have gp := long_gpos hCL4 HV.out
        have hdsr5 := hD4.lrd0 hdL (B := w1.heap.size) (n := m + 2) (c := m + 2 + 1) (by omega) (by have := hdl.out; omega) (by omega)
        go_wp2_with fail
        refine (addBack_any w4 w1.heap.size w1.heap.size j _ (m + 2) _ _ cs4 _ hC4 hCL4 hdsr5 (Nat.le_refl _) (by have := hcl.out; have := HL4.out; omega) (by omega)).mono ?_
        rintro e w5 ⟨cs5, rfl, hC5, hCL5, hg5, hcl5, hout5, hval5⟩
        have ST := Lib.hid (long_wrong hmn hql.out hq HDLO.out hCL4 hCL5 HO.out hout5 HI.out HV.out P4.out hval5)
        have HL5 := Lib.hid hcl5
        clear hcl5 hout5 hval5 hdsr5
        have hlt4 := hC4.lt
        have hlt5 := hQ4.lt
        have hD5 := hD4.grown hg5 (by simp; omega)
        have hQ5 := hQ4.grown hg5 (by simp; omega)
        have hb5 := hb4.grown hg5 (by omega) (fun k hk => by injection hk; omega)
        have q1 := hQ5.cell (j := j) (by have := hql.out; omega)
        have q2 := hQ5.frozen j
        go_wp2_with fail
        go_roundw
        case rel => exact ⟨j, cs5, _, by omega, rfl, hD5.far (by show _ ≠ w2.heap.size; omega) _, hC5.far (by show _ ≠ w2.heap.size; omega) _, hQ5.put _ (by omega), hCL5, hQL.set (by omega), HL5.out.trans (HL4.out.trans hcl.out), (by show _ = _; rw [List.length_set]; exact hql.out), hb5.setCell (by show _ ≤ w2.heap.size; omega) _, ST.out⟩
        case measure => first | (simp [intOf]; done) | (simp [intOf]; omega)
end Go.Proofs.Ytjkogajdpkbjeaa
