/- divideBySmall. -/
import Derived.Test.YtjkogajdpkbjeaaAddMul
import Derived.Deep.QuietTactic
import Derived.BigQuiet
import Derived.Deep.RegionWith
namespace Go.Proofs.Ytjkogajdpkbjeaa
open Go.RowKit
set_option maxHeartbeats 400000
set_option maxRecDepth 100000
set_option linter.unusedSimpArgs false
set_option linter.unusedVariables false

/-- The limbs from k on are divided. -/
def DsIs (n : Nat) (cs : List Nat) (y : Int) (k : Nat) (r : Int) (cs' : List Nat) : Prop :=
  cs'.length = cs.length ∧ (∀ i, i < k → cs'.getD i 0 = cs.getD i 0) ∧ (∀ i, n ≤ i → cs'.getD i 0 = cs.getD i 0) ∧
  S 4294967296 (fun t => cs'.getD (k + t) 0) (n - k) * y.toNat + r.toNat = S 4294967296 (fun t => cs.getD (k + t) 0) (n - k)
theorem ds_nat {b n k y r u v : Nat} {cs cs' : List Nat} (hk : k + 1 ≤ n) (hn : n ≤ cs.length) (hl : cs'.length = cs.length) (h2 : cs'.getD k 0 = cs.getD k 0) (e : u + y * v = r * b + cs'.getD k 0)
    (h4 : S b (fun t => cs'.getD (k + 1 + t) 0) (n - (k + 1)) * y + r = S b (fun t => cs.getD (k + 1 + t) 0) (n - (k + 1))) :
    S b (fun t => (cs'.set k v).getD (k + t) 0) (n - k) * y + u = S b (fun t => cs.getD (k + t) 0) (n - k) := by
  rw [show n - k = (n - (k + 1)) + 1 by omega, S_front, S_front, getD_set _ _ _ _ (by omega), if_pos (by omega)]
  rw [S_ext (f := fun i => (cs'.set k v).getD (k + (i + 1)) 0) (g := fun t => cs'.getD (k + 1 + t) 0) (fun i hi => by rw [getD_set _ _ _ _ (by omega), if_neg (by omega)]; congr 1; omega)]
  rw [S_ext (f := fun i => cs.getD (k + (i + 1)) 0) (g := fun t => cs.getD (k + 1 + t) 0) (fun i hi => by congr 1; omega)]
  simp only [Nat.add_zero]
  rw [← h2, ← h4]
  generalize cs'.getD k 0 = x at *
  clear h2 h4 hl hk hn
  grind
theorem div_nat (a : Nat) (y r : Int) (hr : 0 ≤ r) (hy : 0 < y) (b : Nat) :
    ((r * b + (a : Int)) % y).toNat + y.toNat * ((r * b + (a : Int)) / y).toNat = r.toNat * b + a := by
  obtain ⟨y, rfl⟩ := Int.eq_ofNat_of_zero_le (show 0 ≤ y by omega)
  obtain ⟨r, rfl⟩ := Int.eq_ofNat_of_zero_le hr
  rw [← Int.natCast_mul, ← Int.natCast_add, ← Int.natCast_ediv, ← Int.natCast_emod]
  simp only [Int.toNat_natCast]
  exact Nat.mod_add_div _ _
theorem ds_step {n k : Nat} {cs cs' : List Nat} {y r : Int} (hk : k + 1 ≤ n) (hn : n ≤ cs.length) (hr : 0 ≤ r ∧ r < y) (h : DsIs n cs y (k + 1) r cs') :
    DsIs n cs y k ((r * 4294967296 + nth cs' k) % y) (cs'.set k ((r * 4294967296 + nth cs' k) / y).toNat) := by
  obtain ⟨h1, h2, h3, h4⟩ := h
  refine ⟨by rw [List.length_set, h1], fun i hi => ?_, fun i hi => ?_, ?_⟩
  · rw [getD_set _ _ _ _ (by omega), if_neg (by omega)]; exact h2 i (by omega)
  · rw [getD_set _ _ _ _ (by omega), if_neg (by omega)]; exact h3 i (by omega)
  · have e := div_nat (cs'.getD k 0) y r hr.1 (by omega) 4294967296
    unfold nth
    exact ds_nat hk hn h1 (h2 k (by omega)) e h4
def DsRel (n : Nat) (cs : List Nat) (y : Int) (g : Nat) (w : World) (rest i : Value) (wr : World) : Prop :=
  ∃ (k : Nat) (r : Int) (cs' : List Nat), k ≤ n ∧ i = .int .i64 ((k : Int) - 1) ∧ rest = .int .u32 r ∧ 0 ≤ r ∧ r < y ∧ R32 wr g cs' ∧ Lim cs' ∧ w.grownBy wr (some g) ∧ Hid (DsIs n cs y k r cs')
def DsPost (n : Nat) (cs : List Nat) (y : Int) (g : Nat) (w : World) (e : Ending) (w' : World) : Prop :=
  ∃ (r : Int) (cs' : List Nat), e = .returned (.int .u32 r) ∧ 0 ≤ r ∧ r < y ∧ R32 w' g cs' ∧ Lim cs' ∧ w.grownBy w' (some g) ∧ DsIs n cs y 0 r cs'
theorem quo_lim (hi lo y : Int) (hx : 0 ≤ hi ∧ hi < y) (hc : 0 ≤ lo ∧ lo < 4294967296) : 0 ≤ (hi * 4294967296 + lo) / y ∧ (hi * 4294967296 + lo) / y < 4294967296 :=
  ⟨Int.ediv_nonneg (by omega) (by omega), Int.ediv_lt_of_lt_mul (by omega) (by omega)⟩
theorem rem_lim (hi lo y : Int) (hx : 0 ≤ hi ∧ hi < y) : 0 ≤ (hi * 4294967296 + lo) % y ∧ (hi * 4294967296 + lo) % y < y :=
  ⟨Int.emod_nonneg _ (by omega), Int.emod_lt_of_pos _ (by omega)⟩
theorem divideBySmall_any (w : World) (g n c : Nat) (cs : List Nat) (y : Int) (hR : R32 w g cs) (hL : Lim cs) (hn : n ≤ cs.length) (hy : 0 < y ∧ y < 4294967296) (hc : n ≤ c ∧ c ≤ 9223372036854775807) :
    Calls Try.prog 59 #[.slice (some ⟨g, 0, none⟩) n c, .int .u32 y] w (DsPost n cs y g w) := by
  go_enter Try.func59, Try.ntmps59
  go_wp2_with fail
  go_loopw [5, 6] (DsRel n cs y g w) (fun _ i _ => (intOf i + 1).toNat)
  case atStart => exact ⟨n, 0, cs, Nat.le_refl _, rfl, rfl, by omega, by omega, hR, hL, World.grownBy.refl _ _, ⟨rfl, fun _ _ => rfl, fun _ _ => rfl, by simp [S_zero]⟩⟩
  case round =>
    clear hR hL
    obtain ⟨k, r, cs', hk, rfl, rfl, r0, r1, hR, hL, hg, HD⟩ := hrel
    have hlen := Lib.hid HD.out.1
    by_cases h0 : k = 0
    · subst h0
      go_wp2_with fail
      go_ret
      exact ⟨r, cs', rfl, r0, r1, hR, hL, hg, HD.out⟩
    · obtain ⟨j, rfl⟩ : ∃ j, k = j + 1 := ⟨k - 1, by omega⟩
      have ei : ((j + 1 : Nat) : Int) - 1 = (j : Int) := by omega
      rw [ei]
      clear ei h0
      have g1 := hR.cell (j := j) (by have := hlen.out; omega)
      have g2 := hR.frozen j
      have a1 := nth_nn cs' j
      have a2 := hL.nth j
      have ql := quo_lim r (nth cs' j) y ⟨r0, r1⟩ ⟨a1, a2⟩
      have rl := rem_lim r (nth cs' j) y ⟨r0, r1⟩
      have ST := Lib.hid (ds_step hk hn ⟨r0, r1⟩ HD.out)
      go_wp2_with (go_at_call 68; refine (div32_any _ _ _ _ ⟨r0, r1⟩ hy.2 ⟨a1, a2⟩).mono ?_; rintro e w' ⟨rfl, q, rfl⟩)
      go_roundw
      case rel => exact ⟨j, _, _, by omega, rfl, rfl, rl.1, rl.2, (hR.drewN q).put _ ql.1, hL.set (toNat_lt32 ql.2), grown_set (grown_drewN hg q) _ _, ST.out⟩
      case measure => first | (simp [intOf]; done) | (simp [intOf]; omega)
end Go.Proofs.Ytjkogajdpkbjeaa
