/- The reference's Compare and SameLimbs. -/
import Derived.Test.YtjkogajdpkbjeaaRefD
import Derived.Deep.QuietTactic
import Derived.BigQuiet
namespace Go.Proofs.Ytjkogajdpkbjeaa
open Go.RowKit
set_option maxHeartbeats 400000
set_option maxRecDepth 100000
set_option linter.unusedSimpArgs false
set_option linter.unusedVariables false

theorem compareD_len (w : World) (A D : Option Addr) (n m c d : Nat) (xs ys : List Nat) (hn : n ≤ 9223372036854775807) (hm : m ≤ 9223372036854775807) (hne : n ≠ m) :
    Calls Try.prog 18 #[.slice A n c, .slice D m d] w (CmpPost n m xs ys w) := by
  have h1 : ((n : Int) != (m : Int)) = true := by rw [bne_iff_ne]; omega
  by_cases hlt : n < m
  · have h2 : decide ((n : Int) < (m : Int)) = true := by simp; omega
    go_enter Try.func18, Try.ntmps18
    go_wp2_with fail
    go_ret
    exact ⟨_, rfl, CmpIs.lt_len hlt, 0, rfl⟩
  · have h2 : decide ((n : Int) < (m : Int)) = false := by simp; omega
    go_enter Try.func18, Try.ntmps18
    go_wp2_with fail
    go_ret
    exact ⟨_, rfl, CmpIs.gt_len (by omega), 0, rfl⟩

theorem compareD_same (w : World) (B : Nat) (A D : Option Addr) (n c d : Nat) (xs ys : List Nat) (h : DRd w B A n c xs) (k : DRd w B D n d ys) :
    Calls Try.prog 18 #[.slice A n c, .slice D n d] w (CmpPost n n xs ys w) := by
  have hcap := h.cap
  go_enter Try.func18, Try.ntmps18
  go_wp2_with fail
  go_loopw [5] (CmpRel n xs ys w) (fun v _ => (intOf v + 1).toNat)
  case atStart => exact ⟨(n : Int) - 1, rfl, by omega, by omega, fun j h1 h2 => by omega, 0, rfl⟩
  case round =>
    obtain ⟨i, rfl, h1, h2, he, q, rfl⟩ := hrel
    have HE := Lib.hid he
    clear he
    by_cases h0 : i = -1
    · subst h0
      go_wp2_with fail
      go_ret
      exact ⟨0, rfl, ⟨fun e => by omega, fun _ => ⟨rfl, fun j hj => HE.out j (by omega) hj⟩, fun e => by omega, .inr (.inl rfl)⟩, q, rfl⟩
    · obtain ⟨j, rfl⟩ := Int.eq_ofNat_of_zero_le (show 0 ≤ i by omega)
      obtain ⟨b, off, rfl, hb, hc⟩ := h.rd (by omega)
      obtain ⟨b', off', rfl, hb', hc'⟩ := k.rd (by omega)
      have g1 := hc j (by omega)
      have g2 := hc' j (by omega)
      have a1 := nth_nn xs j
      have a2 := h.lim.nth j
      have a3 := nth_nn ys j
      have a4 := k.lim.nth j
      clear hc hc' h0
      by_cases hy : nth xs j < nth ys j
      · have e2 : decide (nth xs j < nth ys j) = true := decide_eq_true hy
        have HX := Lib.hid (nth_lt hy)
        clear hy
        go_wp2_with fail
        go_quiet (fail)
        go_wp2_with fail
        go_ret
        exact ⟨-1, rfl, ⟨fun _ => .inr ⟨rfl, j, by omega, HX.out, fun i h3 h4 => HE.out i (by omega) h4⟩, fun e => by omega, fun e => by omega, .inl rfl⟩, _, (by first | (rw [World.drewN_drewN, World.drewN_drewN]; done) | (rw [World.drewN_drewN]; done) | rfl)⟩
      · have e2 : decide (nth xs j < nth ys j) = false := decide_eq_false hy
        by_cases hx : nth ys j < nth xs j
        · have e3 : decide (nth ys j < nth xs j) = true := decide_eq_true hx
          have HX := Lib.hid (nth_lt hx)
          clear hx hy
          go_wp2_with fail
          go_quiet (fail)
          go_wp2_with fail
          go_quiet (fail)
          go_wp2_with fail
          go_ret
          exact ⟨1, rfl, ⟨fun e => by omega, fun e => by omega, fun _ => .inr ⟨rfl, j, by omega, HX.out, fun i h3 h4 => (HE.out i (by omega) h4).symm⟩, .inr (.inr rfl)⟩, _, (by first | (rw [World.drewN_drewN, World.drewN_drewN]; done) | (rw [World.drewN_drewN]; done) | rfl)⟩
        · have e3 : decide (nth ys j < nth xs j) = false := decide_eq_false hx
          have HX := Lib.hid (nth_eq (show nth xs j = nth ys j by omega))
          clear hx hy
          go_wp2_with fail
          go_quiet (fail)
          go_wp2_with fail
          go_quiet (fail)
          go_wp2_with fail
          go_roundw
          case rel => exact ⟨(j : Int) - 1, rfl, by omega, by omega, fun i h3 h4 => by rcases Nat.lt_or_ge j i with h5 | h5; exact HE.out i (by omega) h4; rw [show i = j by omega]; exact HX.out, _, (by first | (rw [World.drewN_drewN, World.drewN_drewN]; done) | (rw [World.drewN_drewN]; done) | rfl)⟩
          case measure => first | (simp [intOf]; done) | (simp [intOf]; omega)
theorem compareD_any (w : World) (B : Nat) (A D : Option Addr) (n m c d : Nat) (xs ys : List Nat) (h : DRd w B A n c xs) (k : DRd w B D m d ys) :
    Calls Try.prog 18 #[.slice A n c, .slice D m d] w (CmpPost n m xs ys w) := by
  by_cases e : n = m
  · subst e; exact compareD_same w B A D n c d xs ys h k
  · have h1 := h.cap; have h2 := k.cap
    exact compareD_len w A D n m c d xs ys (by omega) (by omega) e
def sameB (xs ys : List Nat) : Bool := decide (xs = ys)
def SameRel (n : Nat) (xs ys : List Nat) (w : World) (v : Value) (wr : World) : Prop := ∃ j : Nat, v = .int .i64 j ∧ j ≤ n ∧ (∀ i : Nat, i < j → xs.getD i 0 = ys.getD i 0) ∧ ∃ k, wr = w.drewN k
def SamePost (xs ys : List Nat) (w : World) (e : Ending) (w' : World) : Prop := e = .returned (.bool (sameB xs ys)) ∧ ∃ k, w' = w.drewN k
theorem same_all {n : Nat} {xs ys : List Nat} (hx : xs.length = n) (hy : ys.length = n) (h : ∀ i : Nat, i < n → xs.getD i 0 = ys.getD i 0) : sameB xs ys = true := by
  unfold sameB
  rw [decide_eq_true_eq]
  refine List.ext_getElem (by omega) (fun j h1 h2 => ?_)
  have := h j (by omega)
  rwa [List.getD_eq_getElem?_getD, List.getD_eq_getElem?_getD, List.getElem?_eq_getElem h1, List.getElem?_eq_getElem h2] at this
theorem same_not {j : Nat} {xs ys : List Nat} (h : nth xs j ≠ nth ys j) : sameB xs ys = false := by
  unfold sameB
  rw [decide_eq_false_iff_not]
  rintro rfl
  exact h rfl
theorem same_len {n m : Nat} {xs ys : List Nat} (hx : xs.length = n) (hy : ys.length = m) (h : n ≠ m) : sameB xs ys = false := by
  unfold sameB
  rw [decide_eq_false_iff_not]
  rintro rfl
  omega
theorem sameLimbs_any (w : World) (B : Nat) (A D : Option Addr) (n m c d : Nat) (xs ys : List Nat) (h : LRd w B A n c xs) (k : LRd w B D m d ys) :
    Calls Try.prog 25 #[.slice A n c, .slice D m d] w (SamePost xs ys w) := by
  have hcap := h.cap
  have hcap2 := k.cap
  have hxl := Lib.hid h.len.out
  have hyl := Lib.hid k.len.out
  by_cases hnm : n = m
  · subst hnm
    go_enter Try.func25, Try.ntmps25
    go_wp2_with fail
    go_loopw [5] (SameRel n xs ys w) (fun v _ => n - (intOf v).toNat)
    case atStart => exact ⟨0, rfl, by omega, fun j h1 => by omega, 0, rfl⟩
    case round =>
      obtain ⟨j, rfl, h1, he, q, rfl⟩ := hrel
      have HE := Lib.hid he
      clear he
      by_cases h0 : j < n
      · obtain ⟨b, off, rfl, hb, hc⟩ := h.rd (by omega)
        obtain ⟨b', off', rfl, hb', hc'⟩ := k.rd (by omega)
        have g1 := hc j (by omega)
        have g2 := hc' j (by omega)
        have a1 := nth_nn xs j
        have a2 := h.lim.nth j
        have a3 := nth_nn ys j
        have a4 := k.lim.nth j
        clear hc hc'
        by_cases hx : nth xs j = nth ys j
        · have e1 : (nth xs j != nth ys j) = false := by rw [hx]; simp
          have HX := Lib.hid (nth_eq hx)
          clear hx
          go_wp2_with fail
          go_quiet (fail)
          go_wp2_with fail
          go_roundw
          case rel => exact ⟨j + 1, by go_num, by omega, fun i h3 => by rcases Nat.lt_or_ge i j with h5 | h5; exact HE.out i h5; rw [show i = j by omega]; exact HX.out, _, (by first | (rw [World.drewN_drewN, World.drewN_drewN]; done) | (rw [World.drewN_drewN]; done) | rfl)⟩
          case measure => simp [intOf]; omega
        · have e1 : (nth xs j != nth ys j) = true := bne_iff_ne.2 hx
          have HX := Lib.hid (same_not hx)
          clear hx
          go_wp2_with fail
          go_quiet (fail)
          go_wp2_with fail
          go_ret
          exact ⟨retb_of HX.out.symm, _, (by first | (rw [World.drewN_drewN, World.drewN_drewN]; done) | (rw [World.drewN_drewN]; done) | rfl)⟩
      · obtain rfl : j = n := by omega
        go_wp2_with fail
        go_ret
        exact ⟨retb_of (same_all hxl.out hyl.out HE.out).symm, q, rfl⟩
  · have h1 : ((n : Int) != (m : Int)) = true := by rw [bne_iff_ne]; omega
    go_enter Try.func25, Try.ntmps25
    go_wp2_with fail
    go_ret
    exact ⟨retb_of (same_len hxl.out hyl.out hnm).symm, 0, rfl⟩
end Go.Proofs.Ytjkogajdpkbjeaa
