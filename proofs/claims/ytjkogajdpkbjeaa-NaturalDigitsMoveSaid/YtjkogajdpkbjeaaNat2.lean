/- Package natural: limited, countBits, trim, compare. -/
import Derived.Test.YtjkogajdpkbjeaaNat1
import Derived.Test.YtjkogajdpkbjeaaVal
import Derived.Deep.QuietTactic
import Derived.BigQuiet
namespace Go.Proofs.Ytjkogajdpkbjeaa
open Go.RowKit
set_option maxHeartbeats 400000
set_option maxRecDepth 100000
set_option linter.unusedSimpArgs false
set_option linter.unusedVariables false

theorem limited_ok (w : World) (A : Option Addr) (n c : Nat) (h1 : n ≤ 600) :
    Calls Try.prog 40 #[.slice A n c] w fun e w' => e = .returned (.tuple #[.slice A n c, flt 0 0]) ∧ Below w.heap.size w w' := by
  go_enter Try.func40, Try.ntmps40
  go_wp2
  refine bodyPost_ret (v := .tuple #[.slice A n c, flt 0 0]) (by simp [results, Try.results40, go_sem]) rfl ⟨rfl, ?_⟩
  (repeat (first | exact Below.refl _ _ | refine Below.setCell ?_ (by simp; done) _ | refine Below.alloc ?_ (by first | omega | (simp; done) | (simp; omega)) _ | refine Below.drew ?_ | refine below_drewN ?_ _))

theorem limited_bad (w : World) (A : Option Addr) (n c : Nat) (h1 : 600 < n) (h2 : n ≤ 9223372036854775807) :
    Calls Try.prog 40 #[.slice A n c] w fun e w' => e = .returned (.tuple #[.slice none 0 0, flt 14 (-1)]) ∧ Below w.heap.size w w' := by
  go_enter Try.func40, Try.ntmps40
  go_wp2
  refine bodyPost_ret (v := .tuple #[.slice none 0 0, flt 14 (-1)]) (by simp [results, Try.results40, go_sem]) rfl ⟨rfl, ?_⟩
  (repeat (first | exact Below.refl _ _ | refine Below.setCell ?_ (by simp; done) _ | refine Below.alloc ?_ (by first | omega | (simp; done) | (simp; omega)) _ | refine Below.drew ?_ | refine below_drewN ?_ _))

/-- The number of binary digits. -/
def nbits (xs : List Nat) : Nat := if xs.length = 0 then 0 else 32 * (xs.length - 1) + Lib.bitLen (xs.getD (xs.length - 1) 0)
theorem nbits_nil {xs : List Nat} (h : xs.length = 0) : nbits xs = 0 := by simp [nbits, h]
theorem nbits_top {xs : List Nat} {m : Nat} (h : xs.length = m + 1) : (nbits xs : Int) = 32 * m + Lib.bitLen (nth xs m).toNat := by
  unfold nbits nth
  rw [if_neg (by omega), h]
  simp

theorem countBits_any (w : World) (B : Nat) (A : Option Addr) (n c : Nat) (xs : List Nat) (h : LRd w B A n c xs) (hs : n ≤ 70368744177664) :
    Calls Try.prog 51 #[.slice A n c] w fun e w' => e = .returned (.int .i64 (nbits xs)) ∧ w = w' := by
  have hl := h.len
  by_cases h0 : n = 0
  · subst h0
    go_enter Try.func51, Try.ntmps51
    go_wp2
    go_ret
    exact ⟨ret1_of (by rw [nbits_nil hl.out]; rfl), rfl⟩
  · obtain ⟨b, off, rfl, hb, hc⟩ := h.rd (by omega)
    obtain ⟨m, rfl⟩ : ∃ m, n = m + 1 := ⟨n - 1, by omega⟩
    have hcell := hc m (by omega)
    have l1 := nth_nn xs m
    have l2 := h.lim.nth m
    have l4 := bitLen_32 (nth xs m) ⟨l1, l2⟩
    have l3 : (((m : Int) + 1) == 0) = false := beq_eq_false_iff_ne.2 (by omega)
    clear hc h0
    go_enter Try.func51, Try.ntmps51
    go_wp2_with (go_at_call 67; refine (len32_any _ _ ⟨l1, l2⟩).mono ?_; rintro e w' ⟨rfl, rfl⟩)
    go_ret
    exact ⟨ret1_of (by rw [nbits_top hl.out]), rfl⟩

/-- Behind k there are zeros alone, and ahead of it none. -/
structure TrimTo (n : Nat) (xs : List Nat) (k : Nat) : Prop where
  le : k ≤ n
  zeros : ∀ j, k ≤ j → j < n → xs.getD j 0 = 0
  top : ∀ m, k = m + 1 → xs.getD m 0 ≠ 0
theorem nth_zero {xs : List Nat} {j : Nat} (h : nth xs j = 0) : xs.getD j 0 = 0 := by unfold nth at h; omega
theorem nth_pos {xs : List Nat} {j : Nat} (h : nth xs j ≠ 0) : xs.getD j 0 ≠ 0 := by unfold nth at h; omega
def slen : Value → Nat | .slice _ n _ => n | _ => 0
def TrimPost (n : Nat) (xs : List Nat) (A : Option Addr) (c : Nat) (w : World) (e : Ending) (w' : World) : Prop := ∃ k, e = .returned (.slice A k c) ∧ TrimTo n xs k ∧ w = w'
def TrimRel (n : Nat) (xs : List Nat) (A : Option Addr) (c : Nat) (v : Value) : Prop := ∃ k, k ≤ n ∧ v = .slice A k c ∧ ∀ j, k ≤ j → j < n → xs.getD j 0 = 0

theorem trim_any (w : World) (B : Nat) (A : Option Addr) (n c : Nat) (xs : List Nat) (h : LRd w B A n c xs) : Calls Try.prog 52 #[.slice A n c] w (TrimPost n xs A c w) := by
  have hcap := h.cap
  go_enter Try.func52, Try.ntmps52
  go_wp2
  go_loop [0] (TrimRel n xs A c) (fun v => slen v)
  case atStart => exact ⟨n, Nat.le_refl _, rfl, fun j h1 h2 => absurd h1 (by omega)⟩
  case round =>
    obtain ⟨k, hk, rfl, hz⟩ := hrel
    have HZ := Lib.hid hz
    clear hz
    by_cases h0 : k = 0
    · subst h0
      go_wp2
      go_ret
      exact ⟨0, rfl, ⟨Nat.zero_le _, HZ.out, fun m hm => by omega⟩, rfl⟩
    · obtain ⟨b, off, rfl, hb, hc⟩ := h.rd (by omega)
      obtain ⟨m, rfl⟩ : ∃ m, k = m + 1 := ⟨k - 1, by omega⟩
      have hcell := hc m (by omega)
      have l1 := nth_nn xs m
      have l2 := h.lim.nth m
      clear hc h0
      by_cases hx : nth xs m = 0
      · have hx' : (nth xs m == 0) = true := beq_iff_eq.2 hx
        have HX := Lib.hid (nth_zero hx)
        clear hx
        go_wp2
        go_round
        case rel => exact ⟨m, by omega, rfl, fun j h1 h2 => by rcases Nat.lt_or_ge m j with h3 | h3; exact HZ.out j (by omega) h2; rw [show j = m by omega]; exact HX.out⟩
        case measure => simp [slen]
      · have hx' : (nth xs m == 0) = false := beq_eq_false_iff_ne.2 hx
        have HX := Lib.hid (nth_pos hx)
        clear hx
        go_wp2
        go_ret
        exact ⟨m + 1, rfl, ⟨by omega, HZ.out, fun i hi => by rw [show i = m by omega]; exact HX.out⟩, rfl⟩

/-- How two lists of limbs of one length compare, as the greatest place says at which they differ. -/
def CmpRel (n : Nat) (xs ys : List Nat) (w : World) (v : Value) (wr : World) : Prop := ∃ i : Int, v = .int .i64 i ∧ -1 ≤ i ∧ i < n ∧ (∀ j : Nat, i < j → j < n → xs.getD j 0 = ys.getD j 0) ∧ ∃ k, wr = w.drewN k
structure CmpIs (n m : Nat) (xs ys : List Nat) (r : Int) : Prop where
  less : r = -1 → n < m ∨ n = m ∧ ∃ k, k < n ∧ xs.getD k 0 < ys.getD k 0 ∧ ∀ j, k < j → j < n → xs.getD j 0 = ys.getD j 0
  same : r = 0 → n = m ∧ ∀ j, j < n → xs.getD j 0 = ys.getD j 0
  more : r = 1 → m < n ∨ n = m ∧ ∃ k, k < n ∧ ys.getD k 0 < xs.getD k 0 ∧ ∀ j, k < j → j < n → ys.getD j 0 = xs.getD j 0
  one : r = -1 ∨ r = 0 ∨ r = 1
def CmpPost (n m : Nat) (xs ys : List Nat) (w : World) (e : Ending) (w' : World) : Prop := ∃ r, e = .returned (.int .i64 r) ∧ CmpIs n m xs ys r ∧ ∃ k, w' = w.drewN k
theorem CmpIs.lt_len {n m : Nat} {xs ys : List Nat} (h : n < m) : CmpIs n m xs ys (-1) := ⟨fun _ => .inl h, fun e => by omega, fun e => by omega, .inl rfl⟩
theorem CmpIs.gt_len {n m : Nat} {xs ys : List Nat} (h : m < n) : CmpIs n m xs ys 1 := ⟨fun e => by omega, fun e => by omega, fun _ => .inl h, .inr (.inr rfl)⟩

theorem compare_len (w : World) (A D : Option Addr) (n m c d : Nat) (xs ys : List Nat) (hn : n ≤ 9223372036854775807) (hm : m ≤ 9223372036854775807) (hne : n ≠ m) :
    Calls Try.prog 42 #[.slice A n c, .slice D m d] w (CmpPost n m xs ys w) := by
  have h1 : ((n : Int) != (m : Int)) = true := by rw [bne_iff_ne]; omega
  by_cases hlt : n < m
  · have h2 : decide ((n : Int) < (m : Int)) = true := by simp; omega
    go_enter Try.func42, Try.ntmps42
    go_wp2_with (go_at_call 63; refine (sign_any true _).mono ?_; rintro e w' ⟨rfl, rfl⟩)
    go_ret
    exact ⟨_, rfl, CmpIs.lt_len hlt, 0, rfl⟩
  · have h2 : decide ((n : Int) < (m : Int)) = false := by simp; omega
    go_enter Try.func42, Try.ntmps42
    go_wp2_with (go_at_call 63; refine (sign_any false _).mono ?_; rintro e w' ⟨rfl, rfl⟩)
    go_ret
    exact ⟨_, rfl, CmpIs.gt_len (by omega), 0, rfl⟩

theorem compare_same (w : World) (B : Nat) (A D : Option Addr) (n c d : Nat) (xs ys : List Nat) (h : LRd w B A n c xs) (k : LRd w B D n d ys) :
    Calls Try.prog 42 #[.slice A n c, .slice D n d] w (CmpPost n n xs ys w) := by
  have hcap := h.cap
  go_enter Try.func42, Try.ntmps42
  go_wp2_with fail
  go_loopw [5] (CmpRel n xs ys w) (fun v _ => (intOf v + 1).toNat)
  case atStart => exact ⟨(n : Int) - 1, rfl, by omega, by omega, fun j h1 h2 => by omega, 0, rfl⟩
  case round =>
    obtain ⟨i, rfl, h1, h2, he, q, rfl⟩ := hrel
    have HE := Lib.hid he
    clear he
    by_cases h0 : i = -1
    · subst h0
      go_wp2_with fail
      go_ret
      exact ⟨0, rfl, ⟨fun e => by omega, fun _ => ⟨rfl, fun j hj => HE.out j (by omega) hj⟩, fun e => by omega, .inr (.inl rfl)⟩, q, rfl⟩
    · obtain ⟨j, rfl⟩ := Int.eq_ofNat_of_zero_le (show 0 ≤ i by omega)
      obtain ⟨b, off, rfl, hb, hc⟩ := h.rd (by omega)
      obtain ⟨b', off', rfl, hb', hc'⟩ := k.rd (by omega)
      have g1 := hc j (by omega)
      have g2 := hc' j (by omega)
      have a1 := nth_nn xs j
      have a2 := h.lim.nth j
      have a3 := nth_nn ys j
      have a4 := k.lim.nth j
      clear hc hc' h0
      by_cases hx : nth xs j = nth ys j
      · have e1 : (nth xs j != nth ys j) = false := by rw [hx]; simp
        have HX := Lib.hid (nth_eq hx)
        clear hx
        go_wp2_with fail
        go_quiet (fail)
        go_wp2_with fail
        go_roundw
        case rel => exact ⟨(j : Int) - 1, rfl, by omega, by omega, fun i h3 h4 => by rcases Nat.lt_or_ge j i with h5 | h5; exact HE.out i (by omega) h4; rw [show i = j by omega]; exact HX.out, _, rfl⟩
        case measure => first | (simp [intOf]; done) | (simp [intOf]; omega)
      · have e1 : (nth xs j != nth ys j) = true := bne_iff_ne.2 hx
        by_cases hy : nth xs j < nth ys j
        · have e2 : decide (nth xs j < nth ys j) = true := decide_eq_true hy
          have HX := Lib.hid (nth_lt hy)
          clear hx hy
          go_wp2_with fail
          go_quiet (fail)
          go_wp2_with fail
          go_quiet ((go_at_call 63; exact calm _ rfl (sign_any _ _)))
          go_wp2_with fail
          go_ret
          exact ⟨-1, rfl, ⟨fun _ => .inr ⟨rfl, j, by omega, HX.out, fun i h3 h4 => HE.out i (by omega) h4⟩, fun e => by omega, fun e => by omega, .inl rfl⟩, _, (by first | (rw [World.drewN_drewN, World.drewN_drewN]; done) | (rw [World.drewN_drewN]; done) | rfl)⟩
        · have e2 : decide (nth xs j < nth ys j) = false := decide_eq_false hy
          have HX := Lib.hid (nth_lt (show nth ys j < nth xs j by omega))
          clear hx hy
          go_wp2_with fail
          go_quiet (fail)
          go_wp2_with fail
          go_quiet ((go_at_call 63; exact calm _ rfl (sign_any _ _)))
          go_wp2_with fail
          go_ret
          exact ⟨1, rfl, ⟨fun e => by omega, fun e => by omega, fun _ => .inr ⟨rfl, j, by omega, HX.out, fun i h3 h4 => (HE.out i (by omega) h4).symm⟩, .inr (.inr rfl)⟩, _, (by first | (rw [World.drewN_drewN, World.drewN_drewN]; done) | (rw [World.drewN_drewN]; done) | rfl)⟩

end Go.Proofs.Ytjkogajdpkbjeaa
