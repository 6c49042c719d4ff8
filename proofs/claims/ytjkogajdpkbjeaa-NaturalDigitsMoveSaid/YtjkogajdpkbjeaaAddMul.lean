/- Package natural: addMultiple. -/
import Derived.Test.YtjkogajdpkbjeaaRow32
import Derived.Deep.QuietTactic
import Derived.BigQuiet
import Derived.Deep.RegionWith
namespace Go.Proofs.Ytjkogajdpkbjeaa
open Go.RowKit
set_option maxHeartbeats 400000
set_option maxRecDepth 100000
set_option linter.unusedSimpArgs false
set_option linter.unusedVariables false

theorem grown_set {a w : World} {g : Nat} (h : a.grownBy w (some g)) (i : Nat) (u : Value) : a.grownBy (w.setCell ⟨g, i, none⟩ u) (some g) :=
  ⟨h.os, h.tape, h.output, by simpa [World.setCell] using h.size, fun j hj hne => (Below.heap_setCell w ⟨g, i, none⟩ u j (fun e => hne (by rw [e]))).trans (h.block j hj hne)⟩
theorem grown_drewN {a w : World} {r : Option Nat} (h : a.grownBy w r) (n : Nat) : a.grownBy (w.drewN n) r := ⟨h.os, h.tape, h.output, h.size, h.block⟩

/-- ys times f is added to m limbs from place o on. -/
def AmIs (o m : Nat) (cs ys : List Nat) (f : Int) (k : Nat) (q : Int) (cs' : List Nat) : Prop :=
  cs'.length = cs.length ∧ (∀ i, i < o ∨ o + k ≤ i → cs'.getD i 0 = cs.getD i 0) ∧
  S 4294967296 (fun j => cs'.getD (o + j) 0) k + q.toNat * 4294967296 ^ k = S 4294967296 (fun j => cs.getD (o + j) 0) k + f.toNat * S 4294967296 (fun j => ys.getD j 0) k
theorem am_step {o m k : Nat} {cs ys cs' : List Nat} {f q : Int} (h : AmIs o m cs ys f k q cs') (hk : o + k < cs.length) (hf : 0 ≤ f) (hq : 0 ≤ q) :
    AmIs o m cs ys f (k + 1) ((q + (nth ys k * f + nth cs' (o + k))) / 4294967296) (cs'.set (o + k) ((q + (nth ys k * f + nth cs' (o + k))) % 4294967296).toNat) := by
  obtain ⟨h1, h2, h3⟩ := h
  refine ⟨by rw [List.length_set, h1], fun i hi => ?_, ?_⟩
  · rw [getD_set _ _ _ _ (by omega), if_neg (by omega)]; exact h2 i (by omega)
  · rw [S_succ, S_succ, S_succ, S_ext (g := fun j => cs'.getD (o + j) 0) (fun j hj => by rw [getD_set _ _ _ _ (by omega), if_neg (by omega)])]
    rw [getD_set _ _ _ _ (by omega), if_pos rfl]
    unfold nth
    rw [h2 (o + k) (by omega)]
    generalize cs.getD (o + k) 0 = x at *
    generalize ys.getD k 0 = y at *
    obtain ⟨f, rfl⟩ := Int.eq_ofNat_of_zero_le hf
    obtain ⟨q, rfl⟩ := Int.eq_ofNat_of_zero_le hq
    rw [show ((q : Int) + ((y : Int) * f + x)) = ((q + (y * f + x) : Nat) : Int) by push_cast; rfl]
    rw [show ((((q + (y * f + x) : Nat) : Int) % 4294967296).toNat) = (q + (y * f + x)) % 4294967296 by omega]
    rw [show ((((q + (y * f + x) : Nat) : Int) / 4294967296).toNat) = (q + (y * f + x)) / 4294967296 by omega]
    have e : (q + (y * f + x)) % 4294967296 + 4294967296 * ((q + (y * f + x)) / 4294967296) = q + (y * f + x) := Nat.mod_add_div _ _
    simp only [Int.toNat_natCast] at h3 ⊢
    generalize (q + (y * f + x)) % 4294967296 = r at *
    generalize (q + (y * f + x)) / 4294967296 = d at *
    rw [Nat.pow_succ]
    generalize 4294967296 ^ k = P at *
    grind

def AmRel (o m : Nat) (cs ys : List Nat) (f : Int) (g : Nat) (w : World) (carry i : Value) (wr : World) : Prop :=
  ∃ (k : Nat) (q : Int) (cs' : List Nat), k ≤ m ∧ i = .int .i64 k ∧ carry = .int .u64 q ∧ 0 ≤ q ∧ q < 4294967296 ∧ R32 wr g cs' ∧ Lim cs' ∧ w.grownBy wr (some g) ∧ Hid (AmIs o m cs ys f k q cs')
def AmPost (o m : Nat) (cs ys : List Nat) (f : Int) (g : Nat) (w : World) (e : Ending) (w' : World) : Prop :=
  ∃ (q : Int) (cs' : List Nat), e = .returned (.int .u32 q) ∧ 0 ≤ q ∧ q < 4294967296 ∧ R32 w' g cs' ∧ Lim cs' ∧ w.grownBy w' (some g) ∧ AmIs o m cs ys f m q cs'

theorem am_prod (y f : Int) (hy : 0 ≤ y ∧ y < 4294967296) (hf : 0 ≤ f ∧ f < 4294967296) : 0 ≤ y * f ∧ y * f ≤ 18446744065119617025 := by
  constructor
  · exact Int.mul_nonneg hy.1 hf.1
  · have : y * f ≤ 4294967295 * 4294967295 := Int.mul_le_mul (by omega) (by omega) hf.1 (by omega)
    omega

theorem addMultiple_any (w : World) (B g o : Nat) (D : Option Addr) (m c d : Nat) (cs ys : List Nat) (f : Int) (hR : R32 w g cs) (hL : Lim cs) (k : LRd w B D m d ys) (hB : B ≤ g) (ho : o + m ≤ cs.length) (hf : 0 ≤ f ∧ f < 4294967296) (hc : m ≤ c ∧ c ≤ 9223372036854775807) :
    Calls Try.prog 65 #[.slice (some ⟨g, o, none⟩) m c, .slice D m d, .int .u32 f] w (AmPost o m cs ys f g w) := by
  have hcap2 := k.cap
  go_enter Try.func65, Try.ntmps65
  go_wp2_with fail
  go_loopw [7, 12] (AmRel o m cs ys f g w) (fun _ i _ => m - (intOf i).toNat)
  case atStart => exact ⟨0, 0, cs, Nat.zero_le _, rfl, rfl, by omega, by omega, hR, hL, World.grownBy.refl _ _, ⟨rfl, fun _ _ => rfl, by simp [S_zero]⟩⟩
  case round =>
    clear hR hL
    obtain ⟨j, q, cs', hj, rfl, rfl, q0, q1, hR, hL, hg, HA⟩ := hrel
    have hlen := Lib.hid HA.out.1
    by_cases hjm : j < m
    · obtain ⟨b', off', rfl, hb', hc'⟩ := k.rd (by omega)
      have hlt := hR.lt
      have g2 := (hg.cell (hc' j (by omega)) (by simp; omega))
      have g3 := hR.cell (j := o + j) (by have := hlen.out; omega)
      have g4 := hR.frozen (o + j)
      have a1 := nth_nn cs' (o + j)
      have a2 := hL.nth (o + j)
      have a3 := nth_nn ys j
      have a4 := k.lim.nth j
      have a5 := am_prod (nth ys j) f ⟨a3, a4⟩ hf
      have ST := Lib.hid (am_step HA.out (by omega) hf.1 q0)
      clear hc'
      go_wp2_with fail
      go_roundw
      case rel => exact ⟨j + 1, _, _, by omega, by go_num, rfl, Int.ediv_nonneg (by omega) (by omega), by omega, hR.put _ (Int.emod_nonneg _ (by omega)), hL.set (by omega), grown_set hg _ _, ST.out⟩
      case measure => simp [intOf]; omega
    · obtain rfl : j = m := by omega
      go_wp2_with fail
      go_ret
      exact ⟨q, cs', rfl, q0, q1, hR, hL, hg, HA.out⟩
end Go.Proofs.Ytjkogajdpkbjeaa
