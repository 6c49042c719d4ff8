/- subtractMultiple. -/
import Derived.Test.YtjkogajdpkbjeaaAddMul
import Derived.Test.YtjkogajdpkbjeaaDiff
import Derived.Deep.QuietTactic
import Derived.BigQuiet
import Derived.Deep.RegionWith
namespace Go.Proofs.Ytjkogajdpkbjeaa
open Go.RowKit
set_option maxHeartbeats 400000
set_option maxRecDepth 100000
set_option linter.unusedSimpArgs false
set_option linter.unusedVariables false

/-- ys times f is taken from k limbs from place o on; q is carried, br borrowed. -/
def SmIs (o : Nat) (cs ys : List Nat) (f : Int) (k : Nat) (q br : Int) (cs' : List Nat) : Prop :=
  cs'.length = cs.length ∧ (∀ i, i < o ∨ o + k ≤ i → cs'.getD i 0 = cs.getD i 0) ∧
  S 4294967296 (fun j => cs'.getD (o + j) 0) k + f.toNat * S 4294967296 (fun j => ys.getD j 0) k = S 4294967296 (fun j => cs.getD (o + j) 0) k + (q.toNat + br.toNat) * 4294967296 ^ k
theorem sm_nat {b o k f q br u q2 br2 : Nat} {cs ys cs' : List Nat} (hk : o + k < cs.length) (h1 : cs'.length = cs.length) (h2 : ∀ i, i < o ∨ o + k ≤ i → cs'.getD i 0 = cs.getD i 0)
    (h3 : S b (fun j => cs'.getD (o + j) 0) k + f * S b (fun j => ys.getD j 0) k = S b (fun j => cs.getD (o + j) 0) k + (q + br) * b ^ k)
    (e : u + (q + ys.getD k 0 * f) + br = cs.getD (o + k) 0 + b * (q2 + br2)) :
    S b (fun j => (cs'.set (o + k) u).getD (o + j) 0) (k + 1) + f * S b (fun j => ys.getD j 0) (k + 1) = S b (fun j => cs.getD (o + j) 0) (k + 1) + (q2 + br2) * b ^ (k + 1) := by
  rw [S_succ, S_succ, S_succ, S_ext (f := fun j => (cs'.set (o + k) u).getD (o + j) 0) (g := fun j => cs'.getD (o + j) 0) (fun j hj => by rw [getD_set _ _ _ _ (by omega), if_neg (by omega)])]
  rw [getD_set _ _ _ _ (by omega), if_pos rfl]
  rw [Nat.pow_succ]
  generalize b ^ k = P at *
  generalize cs.getD (o + k) 0 = x at *
  generalize ys.getD k 0 = y at *
  clear h1 h2 hk
  grind
theorem sm_num (x y f q br : Int) (hx : 0 ≤ x ∧ x < 4294967296) (hy : 0 ≤ y * f) (hq : 0 ≤ q) (hb : 0 ≤ br ∧ br ≤ 1) :
    (x - (q + y * f) % 4294967296 - br) % 4294967296 + (q + y * f) + br = x + 4294967296 * ((q + y * f) / 4294967296 + brw x ((q + y * f) % 4294967296) br) := by
  have e := brw_eq x ((q + y * f) % 4294967296) br hx (by omega) hb
  omega
theorem sm_step {o k : Nat} {cs ys cs' : List Nat} {f q br : Int} (h : SmIs o cs ys f k q br cs') (hk : o + k < cs.length) (hL : Lim cs') (hf : 0 ≤ f) (hq : 0 ≤ q) (hb : 0 ≤ br ∧ br ≤ 1) :
    SmIs o cs ys f (k + 1) ((q + nth ys k * f) / 4294967296) (brw (nth cs' (o + k)) ((q + nth ys k * f) % 4294967296) br) (cs'.set (o + k) ((nth cs' (o + k) - (q + nth ys k * f) % 4294967296 - br) % 4294967296).toNat) := by
  obtain ⟨h1, h2, h3⟩ := h
  have a0 := Int.mul_nonneg (nth_nn ys k) hf
  have e := sm_num (nth cs' (o + k)) (nth ys k) f q br ⟨nth_nn _ _, hL.nth _⟩ a0 hq hb
  have b0 := brw_01 (nth cs' (o + k)) ((q + nth ys k * f) % 4294967296) br
  have c0 := Int.emod_nonneg (nth cs' (o + k) - (q + nth ys k * f) % 4294967296 - br) (show (4294967296 : Int) ≠ 0 by decide)
  have d0 : 0 ≤ (q + nth ys k * f) / 4294967296 := Int.ediv_nonneg (by omega) (by decide)
  refine ⟨by rw [List.length_set, h1], fun i hi => ?_, ?_⟩
  · rw [getD_set _ _ _ _ (by omega), if_neg (by omega)]; exact h2 i (by omega)
  · refine sm_nat hk h1 h2 h3 ?_
    generalize (nth cs' (o + k) - (q + nth ys k * f) % 4294967296 - br) % 4294967296 = u at *
    generalize brw (nth cs' (o + k)) ((q + nth ys k * f) % 4294967296) br = b2 at *
    generalize (q + nth ys k * f) / 4294967296 = q2 at *
    unfold nth at e
    rw [h2 (o + k) (by omega)] at e
    clear h1 h2 h3 a0
    obtain ⟨f, rfl⟩ := Int.eq_ofNat_of_zero_le hf
    rw [← Int.natCast_mul] at e
    rw [Int.toNat_natCast]
    generalize ys.getD k 0 * f = yf at *
    omega
def SmRel (o m : Nat) (cs ys : List Nat) (f : Int) (g : Nat) (w : World) (carry borrow i : Value) (wr : World) : Prop :=
  ∃ (k : Nat) (q br : Int) (cs' : List Nat), k ≤ m ∧ i = .int .i64 k ∧ carry = .int .u64 q ∧ borrow = .int .u32 br ∧ 0 ≤ q ∧ q < 4294967296 ∧ 0 ≤ br ∧ br ≤ 1 ∧ R32 wr g cs' ∧ Lim cs' ∧ w.grownBy wr (some g) ∧ Hid (SmIs o cs ys f k q br cs')
/-- The top limb takes what was carried and borrowed. -/
def SmPost (o m : Nat) (cs ys : List Nat) (f : Int) (g : Nat) (w : World) (e : Ending) (w' : World) : Prop :=
  ∃ (br : Int) (cs' : List Nat), e = .returned (.bool (br != 0)) ∧ 0 ≤ br ∧ br ≤ 1 ∧ R32 w' g cs' ∧ Lim cs' ∧ w.grownBy w' (some g) ∧
    cs'.length = cs.length ∧ (∀ i, i < o ∨ o + m + 1 ≤ i → cs'.getD i 0 = cs.getD i 0) ∧
    S 4294967296 (fun j => cs'.getD (o + j) 0) (m + 1) + f.toNat * S 4294967296 (fun j => ys.getD j 0) m = S 4294967296 (fun j => cs.getD (o + j) 0) (m + 1) + br.toNat * 4294967296 ^ (m + 1)
theorem sm_end {b o m f q br u br2 : Nat} {cs ys cs' : List Nat} (hk : o + m < cs.length) (h1 : cs'.length = cs.length) (h2 : ∀ i, i < o ∨ o + m ≤ i → cs'.getD i 0 = cs.getD i 0)
    (h3 : S b (fun j => cs'.getD (o + j) 0) m + f * S b (fun j => ys.getD j 0) m = S b (fun j => cs.getD (o + j) 0) m + (q + br) * b ^ m)
    (e : u + q + br = cs.getD (o + m) 0 + b * br2) :
    S b (fun j => (cs'.set (o + m) u).getD (o + j) 0) (m + 1) + f * S b (fun j => ys.getD j 0) m = S b (fun j => cs.getD (o + j) 0) (m + 1) + br2 * b ^ (m + 1) := by
  rw [S_succ, S_succ, S_ext (f := fun j => (cs'.set (o + m) u).getD (o + j) 0) (g := fun j => cs'.getD (o + j) 0) (fun j hj => by rw [getD_set _ _ _ _ (by omega), if_neg (by omega)])]
  rw [getD_set _ _ _ _ (by omega), if_pos rfl]
  rw [Nat.pow_succ]
  generalize b ^ m = P at *
  generalize cs.getD (o + m) 0 = x at *
  clear h1 h2 hk
  grind
theorem sm_last {o m : Nat} {cs ys cs' : List Nat} {f q br : Int} (h : SmIs o cs ys f m q br cs') (hk : o + m < cs.length) (hL : Lim cs') (hq : 0 ≤ q ∧ q < 4294967296) (hb : 0 ≤ br ∧ br ≤ 1) :
    S 4294967296 (fun j => (cs'.set (o + m) ((nth cs' (o + m) - q - br) % 4294967296).toNat).getD (o + j) 0) (m + 1) + f.toNat * S 4294967296 (fun j => ys.getD j 0) m =
      S 4294967296 (fun j => cs.getD (o + j) 0) (m + 1) + (brw (nth cs' (o + m)) q br).toNat * 4294967296 ^ (m + 1) := by
  obtain ⟨h1, h2, h3⟩ := h
  have e := brw_eq (nth cs' (o + m)) q br ⟨nth_nn _ _, hL.nth _⟩ hq hb
  have b0 := brw_01 (nth cs' (o + m)) q br
  have c0 := Int.emod_nonneg (nth cs' (o + m) - q - br) (show (4294967296 : Int) ≠ 0 by decide)
  refine sm_end hk h1 h2 h3 ?_
  generalize (nth cs' (o + m) - q - br) % 4294967296 = u at *
  generalize brw (nth cs' (o + m)) q br = b2 at *
  unfold nth at e
  rw [h2 (o + m) (by omega)] at e
  clear h1 h2 h3
  omega

theorem subtractMultiple_any (w : World) (B g o : Nat) (D : Option Addr) (m c d : Nat) (cs ys : List Nat) (f : Int) (hR : R32 w g cs) (hL : Lim cs) (k : LRd w B D m d ys) (hB : B ≤ g) (ho : o + m < cs.length) (hf : 0 ≤ f ∧ f < 4294967296) (hc : m + 1 ≤ c ∧ c ≤ 9223372036854775807) :
    Calls Try.prog 71 #[.slice (some ⟨g, o, none⟩) (m + 1) c, .slice D m d, .int .u32 f] w (SmPost o m cs ys f g w) := by
  have hcap2 := k.cap
  go_enter Try.func71, Try.ntmps71
  go_wp2_with fail
  go_loopw [7, 8, 14] (SmRel o m cs ys f g w) (fun _ _ i _ => m - (intOf i).toNat)
  case atStart => exact ⟨0, 0, 0, cs, Nat.zero_le _, rfl, rfl, rfl, by omega, by omega, by omega, by omega, hR, hL, World.grownBy.refl _ _, ⟨rfl, fun _ _ => rfl, by simp [S_zero]⟩⟩
  case round =>
    clear hR hL
    obtain ⟨j, q, br, cs', hj, rfl, rfl, rfl, q0, q1, br0, br1, hR, hL, hg, HA⟩ := hrel
    have hlen := Lib.hid HA.out.1
    by_cases hjm : j < m
    · obtain ⟨b', off', rfl, hb', hc'⟩ := k.rd (by omega)
      have hlt := hR.lt
      have g2 := (hg.cell (hc' j (by omega)) (by simp; omega))
      have g3 := hR.cell (j := o + j) (by have := hlen.out; omega)
      have g4 := hR.frozen (o + j)
      have a1 := nth_nn cs' (o + j)
      have a2 := hL.nth (o + j)
      have a3 := nth_nn ys j
      have a4 := k.lim.nth j
      have a5 := am_prod (nth ys j) f ⟨a3, a4⟩ hf
      have ST := Lib.hid (sm_step HA.out (by omega) hL hf.1 q0 ⟨br0, br1⟩)
      clear hc'
      go_wp2_with (go_at_call 64; refine (sub32_any _ _ _ _ ⟨a1, a2⟩ (by omega) ⟨br0, br1⟩).mono ?_; rintro e w' ⟨rfl, rfl⟩)
      go_roundw
      case rel => exact ⟨j + 1, _, _, _, by omega, by go_num, rfl, rfl, Int.ediv_nonneg (by omega) (by omega), by omega, (brw_01 _ _ _).1, (brw_01 _ _ _).2, hR.put _ (Int.emod_nonneg _ (by omega)), hL.set (mod_toNat_lt _), grown_set hg _ _, ST.out⟩
      case measure => simp [intOf]; omega
    · obtain rfl : j = m := by omega
      have g3 := hR.cell (j := o + j) (by have := hlen.out; omega)
      have g4 := hR.frozen (o + j)
      have a1 := nth_nn cs' (o + j)
      have a2 := hL.nth (o + j)
      have ST := Lib.hid (sm_last HA.out (by omega) hL ⟨q0, q1⟩ ⟨br0, br1⟩)
      go_wp2_with (go_at_call 64; refine (sub32_any _ _ _ _ ⟨a1, a2⟩ (by omega) ⟨br0, br1⟩).mono ?_; rintro e w' ⟨rfl, rfl⟩)
      go_ret
      refine ⟨_, _, rfl, (brw_01 _ _ _).1, (brw_01 _ _ _).2, hR.put _ (Int.emod_nonneg _ (by omega)), hL.set (mod_toNat_lt _), grown_set hg _ _, by rw [List.length_set]; exact hlen.out, fun i hi => ?_, ST.out⟩
      rw [getD_set _ _ _ _ (by have := hlen.out; omega), if_neg (by omega)]
      exact HA.out.2.1 i (by omega)
end Go.Proofs.Ytjkogajdpkbjeaa
