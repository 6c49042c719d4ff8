/- addBack. -/
import Derived.Test.YtjkogajdpkbjeaaAddMul
import Derived.Test.YtjkogajdpkbjeaaDiff
import Derived.Deep.QuietTactic
import Derived.BigQuiet
import Derived.Deep.RegionWith
namespace Go.Proofs.Ytjkogajdpkbjeaa
open Go.RowKit
set_option maxHeartbeats 400000
set_option maxRecDepth 100000
set_option linter.unusedSimpArgs false
set_option linter.unusedVariables false

def AbIs (o : Nat) (cs ys : List Nat) (k : Nat) (q : Int) (cs' : List Nat) : Prop :=
  cs'.length = cs.length ∧ (∀ i, i < o ∨ o + k ≤ i → cs'.getD i 0 = cs.getD i 0) ∧
  S 4294967296 (fun j => cs'.getD (o + j) 0) k + q.toNat * 4294967296 ^ k = S 4294967296 (fun j => cs.getD (o + j) 0) k + S 4294967296 (fun j => ys.getD j 0) k
theorem ab_nat {b o k q u q2 : Nat} {cs ys cs' : List Nat} (hk : o + k < cs.length) (h1 : cs'.length = cs.length) (h2 : ∀ i, i < o ∨ o + k ≤ i → cs'.getD i 0 = cs.getD i 0)
    (h3 : S b (fun j => cs'.getD (o + j) 0) k + q * b ^ k = S b (fun j => cs.getD (o + j) 0) k + S b (fun j => ys.getD j 0) k)
    (e : u + b * q2 = cs.getD (o + k) 0 + ys.getD k 0 + q) :
    S b (fun j => (cs'.set (o + k) u).getD (o + j) 0) (k + 1) + q2 * b ^ (k + 1) = S b (fun j => cs.getD (o + j) 0) (k + 1) + S b (fun j => ys.getD j 0) (k + 1) := by
  rw [S_succ, S_succ, S_succ, S_ext (f := fun j => (cs'.set (o + k) u).getD (o + j) 0) (g := fun j => cs'.getD (o + j) 0) (fun j hj => by rw [getD_set _ _ _ _ (by omega), if_neg (by omega)])]
  rw [getD_set _ _ _ _ (by omega), if_pos rfl]
  rw [Nat.pow_succ]
  generalize b ^ k = P at *
  generalize cs.getD (o + k) 0 = x at *
  generalize ys.getD k 0 = y at *
  clear h1 h2 hk
  grind
theorem ab_step {o k : Nat} {cs ys cs' : List Nat} {q : Int} (h : AbIs o cs ys k q cs') (hk : o + k < cs.length) (hq : 0 ≤ q) :
    AbIs o cs ys (k + 1) ((nth cs' (o + k) + nth ys k + q) / 4294967296) (cs'.set (o + k) ((nth cs' (o + k) + nth ys k + q) % 4294967296).toNat) := by
  obtain ⟨h1, h2, h3⟩ := h
  refine ⟨by rw [List.length_set, h1], fun i hi => ?_, ?_⟩
  · rw [getD_set _ _ _ _ (by omega), if_neg (by omega)]; exact h2 i (by omega)
  · refine ab_nat hk h1 h2 h3 ?_
    unfold nth
    rw [h2 (o + k) (by omega)]
    clear h1 h2 h3
    omega
def AbRel (o m : Nat) (cs ys : List Nat) (g : Nat) (w : World) (carry i : Value) (wr : World) : Prop :=
  ∃ (k : Nat) (q : Int) (cs' : List Nat), k ≤ m ∧ i = .int .i64 k ∧ carry = .int .u32 q ∧ 0 ≤ q ∧ q ≤ 1 ∧ R32 wr g cs' ∧ Lim cs' ∧ w.grownBy wr (some g) ∧ Hid (AbIs o cs ys k q cs')
def AbPost (o m : Nat) (cs ys : List Nat) (g : Nat) (w : World) (e : Ending) (w' : World) : Prop :=
  ∃ (cs' : List Nat), e = .returned (.tuple #[]) ∧ R32 w' g cs' ∧ Lim cs' ∧ w.grownBy w' (some g) ∧
    cs'.length = cs.length ∧ (∀ i, i < o ∨ o + m + 1 ≤ i → cs'.getD i 0 = cs.getD i 0) ∧
    S 4294967296 (fun j => cs'.getD (o + j) 0) (m + 1) % 4294967296 ^ (m + 1) = (S 4294967296 (fun j => cs.getD (o + j) 0) (m + 1) + S 4294967296 (fun j => ys.getD j 0) m) % 4294967296 ^ (m + 1)
theorem ab_end {b o m q u q2 : Nat} {cs ys cs' : List Nat} (hk : o + m < cs.length) (h1 : cs'.length = cs.length) (h2 : ∀ i, i < o ∨ o + m ≤ i → cs'.getD i 0 = cs.getD i 0)
    (h3 : S b (fun j => cs'.getD (o + j) 0) m + q * b ^ m = S b (fun j => cs.getD (o + j) 0) m + S b (fun j => ys.getD j 0) m)
    (e : u + b * q2 = cs.getD (o + m) 0 + q) :
    S b (fun j => (cs'.set (o + m) u).getD (o + j) 0) (m + 1) % b ^ (m + 1) = (S b (fun j => cs.getD (o + j) 0) (m + 1) + S b (fun j => ys.getD j 0) m) % b ^ (m + 1) := by
  have hh : S b (fun j => (cs'.set (o + m) u).getD (o + j) 0) (m + 1) + q2 * b ^ (m + 1) = S b (fun j => cs.getD (o + j) 0) (m + 1) + S b (fun j => ys.getD j 0) m := by
    rw [S_succ, S_succ, S_ext (f := fun j => (cs'.set (o + m) u).getD (o + j) 0) (g := fun j => cs'.getD (o + j) 0) (fun j hj => by rw [getD_set _ _ _ _ (by omega), if_neg (by omega)])]
    rw [getD_set _ _ _ _ (by omega), if_pos rfl]
    rw [Nat.pow_succ]
    generalize b ^ m = P at *
    generalize cs.getD (o + m) 0 = x at *
    clear h1 h2 hk
    grind
  rw [← hh, Nat.add_mul_mod_self_right]
theorem addBack_any (w : World) (B g o : Nat) (D : Option Addr) (m c d : Nat) (cs ys : List Nat) (hR : R32 w g cs) (hL : Lim cs) (k : LRd w B D m d ys) (hB : B ≤ g) (ho : o + m < cs.length) (hc : m + 1 ≤ c ∧ c ≤ 9223372036854775807) :
    Calls Try.prog 72 #[.slice (some ⟨g, o, none⟩) (m + 1) c, .slice D m d] w (AbPost o m cs ys g w) := by
  have hcap2 := k.cap
  go_enter Try.func72, Try.ntmps72
  go_wp2_with fail
  go_loopw [4, 9] (AbRel o m cs ys g w) (fun _ i _ => m - (intOf i).toNat)
  case atStart => exact ⟨0, 0, cs, Nat.zero_le _, rfl, rfl, by omega, by omega, hR, hL, World.grownBy.refl _ _, ⟨rfl, fun _ _ => rfl, by simp [S_zero]⟩⟩
  case round =>
    clear hR hL
    obtain ⟨j, q, cs', hj, rfl, rfl, q0, q1, hR, hL, hg, HA⟩ := hrel
    have hlen := Lib.hid HA.out.1
    by_cases hjm : j < m
    · obtain ⟨b', off', rfl, hb', hc'⟩ := k.rd (by omega)
      have hlt := hR.lt
      have g2 := (hg.cell (hc' j (by omega)) (by simp; omega))
      have g3 := hR.cell (j := o + j) (by have := hlen.out; omega)
      have g4 := hR.frozen (o + j)
      have a1 := nth_nn cs' (o + j)
      have a2 := hL.nth (o + j)
      have a3 := nth_nn ys j
      have a4 := k.lim.nth j
      have ST := Lib.hid (ab_step HA.out (by omega) q0)
      clear hc'
      go_wp2_with (go_at_call 62; refine (add32_any _ _ _ _ ⟨a1, a2⟩ ⟨a3, a4⟩ ⟨q0, q1⟩).mono ?_; rintro e w' ⟨rfl, rfl⟩)
      go_roundw
      case rel => exact ⟨j + 1, _, _, by omega, by go_num, rfl, Int.ediv_nonneg (by omega) (by omega), by omega, hR.put _ (Int.emod_nonneg _ (by omega)), hL.set (mod_toNat_lt _), grown_set hg _ _, ST.out⟩
      case measure => simp [intOf]; omega
    · obtain rfl : j = m := by omega
      have g3 := hR.cell (j := o + j) (by have := hlen.out; omega)
      have g4 := hR.frozen (o + j)
      have a1 := nth_nn cs' (o + j)
      have a2 := hL.nth (o + j)
      go_wp2_with fail
      go_end0
      refine ⟨_, rfl, hR.put _ (Int.emod_nonneg _ (by omega)), hL.set (mod_toNat_lt _), grown_set hg _ _, by rw [List.length_set]; exact hlen.out, fun i hi => ?_, ?_⟩
      · rw [getD_set _ _ _ _ (by have := hlen.out; omega), if_neg (by omega)]
        exact HA.out.2.1 i (by omega)
      · refine ab_end (q2 := ((nth cs' (o + j) + q) / 4294967296).toNat) ho HA.out.1 HA.out.2.1 HA.out.2.2 ?_
        have e := HA.out.2.1 (o + j) (by omega)
        unfold nth
        rw [e]
        omega
end Go.Proofs.Ytjkogajdpkbjeaa
