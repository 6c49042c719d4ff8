/- The reference's Minus. -/
import Derived.Test.YtjkogajdpkbjeaaPlus
import Derived.Deep.QuietTactic
import Derived.BigQuiet
namespace Go.Proofs.Ytjkogajdpkbjeaa
open Go.RowKit
set_option maxHeartbeats 400000
set_option maxRecDepth 100000
set_option linter.unusedSimpArgs false
set_option linter.unusedVariables false

theorem minus_nat {b k c d r x y z s t : Nat} (h : z + t = s + c * b ^ k) (e : r + y + c = x + b * d) : z + r * b ^ k + (t + y * b ^ k) = (s + x * b ^ k) + d * b ^ (k + 1) := by
  rw [Nat.pow_succ]
  generalize b ^ k = P at *
  grind
def MiRel (n : Nat) (xs ys : List Nat) (w : World) (out borrow i : Value) (wr : World) : Prop :=
  ∃ (k : Nat) (c : Int) (zs : List Nat), k ≤ n ∧ i = .int .i64 k ∧ borrow = .int .i64 c ∧ 0 ≤ c ∧ c ≤ 1 ∧ wr.ownsRow w.heap.size 3 1 out zs.length (digs zs) ∧ Hid (zs.length = k) ∧ Dig 65536 zs ∧ Below w.heap.size w wr ∧
    Hid (S 65536 (fun i => zs.getD i 0) k + S 65536 (fun i => ys.getD i 0) k = S 65536 (fun i => xs.getD i 0) k + c.toNat * 65536 ^ k)
theorem minus_step {zs xs ys : List Nat} {k : Nat} {c r d : Int} (hk : zs.length = k) (hc : 0 ≤ c) (hr : 0 ≤ r) (hd : 0 ≤ d) (ht : r + nth ys k + c = nth xs k + 65536 * d)
    (h : S 65536 (fun i => zs.getD i 0) k + S 65536 (fun i => ys.getD i 0) k = S 65536 (fun i => xs.getD i 0) k + c.toNat * 65536 ^ k) :
    S 65536 (fun i => (zs ++ [r.toNat]).getD i 0) (k + 1) + S 65536 (fun i => ys.getD i 0) (k + 1) = S 65536 (fun i => xs.getD i 0) (k + 1) + d.toNat * 65536 ^ (k + 1) := by
  rw [S_snoc hk, S_succ, S_succ]
  refine minus_nat h ?_
  unfold nth at ht
  omega
theorem minus_last {xs ys zs : List Nat} {n : Nat} {q : Int} (hr : zs.length = n) (hy : ys.length ≤ n) (hx : xs.length = n) (hL : Dig 65536 zs) (q0 : 0 ≤ q) (q1 : q ≤ 1) (hle : vb 65536 ys ≤ vb 65536 xs)
    (h : S 65536 (fun i => zs.getD i 0) n + S 65536 (fun i => ys.getD i 0) n = S 65536 (fun i => xs.getD i 0) n + q.toNat * 65536 ^ n) : vb 65536 zs = vb 65536 xs - vb 65536 ys := by
  rw [vb_len (xs := xs) (by omega), vb_len (xs := ys) hy, vb_len (xs := zs) (by omega)] at h
  have h1 : vb 65536 zs < 65536 ^ n := by rw [← hr]; exact vb_lt (by decide) hL
  have h2 : q = 0 ∨ q = 1 := by omega
  rcases h2 with rfl | rfl
  · simp at h; omega
  · simp at h; omega

set_option maxHeartbeats 4000000 in
theorem minus_any (w : World) (B : Nat) (A D : Option Addr) (n m c d : Nat) (xs ys : List Nat) (h : DRd w B A n c xs) (k : DRd w B D m d ys) (hB : B ≤ w.heap.size) (hm : m ≤ n) (hM : n ≤ 10000000000000) (hle : vb 65536 ys ≤ vb 65536 xs) :
    Calls Try.prog 22 #[.slice A n c, .slice D m d] w (GivesN w (vb 65536 xs - vb 65536 ys)) := by
  obtain ⟨i0, hi, hz0, hz1, hz2⟩ := info_parts info64
  have hcap := h.cap
  have hcap2 := k.cap
  have hxl := Lib.hid h.len.out
  have hyl := Lib.hid k.len.out
  have HLE := Lib.hid hle
  clear hle
  go_enter Try.func22, Try.ntmps22
  go_wp2_with fail
  go_loopw [5, 6, 7] (MiRel n xs ys w) (fun _ _ i _ => n - (intOf i).toNat)
  case atStart => exact ⟨0, 0, [], by omega, rfl, rfl, by omega, by omega, World.ownsRow_nil _ _ _ _, rfl, Dig.nil, Below.refl _ _, (by show _ = _; simp [S_zero])⟩
  case round =>
    obtain ⟨j, q, zs, hj, rfl, rfl, q0, q1, hown, hzl, hzd, hbw, HS⟩ := hrel
    have hzn : zs.length ≤ n := by have := hzl.out; omega
    have hsz := hbw.size
    by_cases h1 : j < n
    · obtain ⟨b, off, rfl, hb, hc⟩ := h.rd (by omega)
      have g1 := (hbw.cell (p := ⟨b, off + j, none⟩) (by show b < _; omega)).trans (hc j (by omega))
      have a1 := nth_nn xs j
      have a2 := h.lim.nth j
      clear hc
      by_cases h2 : j < m
      · obtain ⟨b', off', rfl, hb', hc'⟩ := k.rd (by omega)
        have g2 := (hbw.cell (p := ⟨b', off' + j, none⟩) (by show b' < _; omega)).trans (hc' j (by omega))
        have a3 := nth_nn ys j
        have a4 := k.lim.nth j
        clear hc'
        by_cases h3 : nth xs j - q - nth ys j < 0
        · have ST := Lib.hid (minus_step (r := nth xs j - q - nth ys j + 65536) (d := 1) hzl.out q0 (by omega) (by omega) (by omega) HS.out)
          go_wp2_with (at_builtin; refine wpList_append_own _ rfl _ _ 34 rfl w.heap.size 3 i0 (.int .i64 0) 1 8 Try.underlying34 hi hz0 hz1 hz2 rfl (by decide) _ _ _ rfl (hown.alloc _) ⟨wr.heap.size, 0, none⟩ 1 1 [.int .i64 (nth xs j - q - nth ys j + 65536)] rfl rfl (cell_one_new _ _ _) (fun u hu => by simp at hu; subst hu; rfl) (by unfold maxLen; omega) (by omega) (by first | (simp; omega) | omega) ?_; intro v' w1 hown' hgrow _)
          obtain ⟨ho, hb1⟩ := own_next (by omega) hbw hown hown' hgrow
          clear hown hown' hgrow
          go_wp2_with fail
          go_roundw
          case rel => exact ⟨j + 1, 1, _, by omega, by go_num, rfl, by omega, by omega, ho, (by show _ = _; rw [List.length_append, hzl.out]; rfl), hzd.snoc (by omega), hb1, ST.out⟩
          case measure => simp [intOf]; omega

        · have ST := Lib.hid (minus_step (r := nth xs j - q - nth ys j) (d := 0) hzl.out q0 (by omega) (by omega) (by omega) HS.out)
          go_wp2_with (at_builtin; refine wpList_append_own _ rfl _ _ 34 rfl w.heap.size 3 i0 (.int .i64 0) 1 8 Try.underlying34 hi hz0 hz1 hz2 rfl (by decide) _ _ _ rfl (hown.alloc _) ⟨wr.heap.size, 0, none⟩ 1 1 [.int .i64 (nth xs j - q - nth ys j)] rfl rfl (cell_one_new _ _ _) (fun u hu => by simp at hu; subst hu; rfl) (by unfold maxLen; omega) (by omega) (by first | (simp; omega) | omega) ?_; intro v' w1 hown' hgrow _)
          obtain ⟨ho, hb1⟩ := own_next (by omega) hbw hown hown' hgrow
          clear hown hown' hgrow
          go_wp2_with fail
          go_roundw
          case rel => exact ⟨j + 1, 0, _, by omega, by go_num, rfl, by omega, by omega, ho, (by show _ = _; rw [List.length_append, hzl.out]; rfl), hzd.snoc (by omega), hb1, ST.out⟩
          case measure => simp [intOf]; omega


      · have HY := Lib.hid (nth_out (k := j) (by rw [hyl.out]; omega) : nth ys j = 0)
        by_cases h3 : nth xs j - q < 0
        · have ST := Lib.hid (minus_step (r := nth xs j - q + 65536) (d := 1) hzl.out q0 (by omega) (by omega) (by rw [HY.out]; omega) HS.out)
          go_wp2_with (at_builtin; refine wpList_append_own _ rfl _ _ 34 rfl w.heap.size 3 i0 (.int .i64 0) 1 8 Try.underlying34 hi hz0 hz1 hz2 rfl (by decide) _ _ _ rfl (hown.alloc _) ⟨wr.heap.size, 0, none⟩ 1 1 [.int .i64 (nth xs j - q + 65536)] rfl rfl (cell_one_new _ _ _) (fun u hu => by simp at hu; subst hu; rfl) (by unfold maxLen; omega) (by omega) (by first | (simp; omega) | omega) ?_; intro v' w1 hown' hgrow _)
          obtain ⟨ho, hb1⟩ := own_next (by omega) hbw hown hown' hgrow
          clear hown hown' hgrow
          go_wp2_with fail
          go_roundw
          case rel => exact ⟨j + 1, 1, _, by omega, by go_num, rfl, by omega, by omega, ho, (by show _ = _; rw [List.length_append, hzl.out]; rfl), hzd.snoc (by omega), hb1, ST.out⟩
          case measure => simp [intOf]; omega

        · have ST := Lib.hid (minus_step (r := nth xs j - q) (d := 0) hzl.out q0 (by omega) (by omega) (by rw [HY.out]; omega) HS.out)
          go_wp2_with (at_builtin; refine wpList_append_own _ rfl _ _ 34 rfl w.heap.size 3 i0 (.int .i64 0) 1 8 Try.underlying34 hi hz0 hz1 hz2 rfl (by decide) _ _ _ rfl (hown.alloc _) ⟨wr.heap.size, 0, none⟩ 1 1 [.int .i64 (nth xs j - q)] rfl rfl (cell_one_new _ _ _) (fun u hu => by simp at hu; subst hu; rfl) (by unfold maxLen; omega) (by omega) (by first | (simp; omega) | omega) ?_; intro v' w1 hown' hgrow _)
          obtain ⟨ho, hb1⟩ := own_next (by omega) hbw hown hown' hgrow
          clear hown hown' hgrow
          go_wp2_with fail
          go_roundw
          case rel => exact ⟨j + 1, 0, _, by omega, by go_num, rfl, by omega, by omega, ho, (by show _ = _; rw [List.length_append, hzl.out]; rfl), hzd.snoc (by omega), hb1, ST.out⟩
          case measure => simp [intOf]; omega


    · obtain rfl : j = n := by omega
      have HV := Lib.hid (minus_last (xs := xs) (ys := ys) hzl.out (by rw [hyl.out]; omega) hxl.out hzd q0 q1 HLE.out HS.out)
      obtain ⟨A', c', rfl, hc1, hc2⟩ := own_shape hown
      have hdr := own_drd hown hzd
      go_wp2_with fail
      refine (trimD_any _ _ _ _ _ _ hdr).mono ?_
      rintro e w' ⟨t, rfl, ht, rfl⟩
      go_wp2_with fail
      go_ret
      exact gives_own hown hzd ht hbw HV.out
end Go.Proofs.Ytjkogajdpkbjeaa
