/- Package natural: sum. -/
import Derived.Test.YtjkogajdpkbjeaaRow32
import Derived.Deep.QuietTactic
import Derived.BigQuiet
import Derived.Deep.RegionWith
namespace Go.Proofs.Ytjkogajdpkbjeaa
open Go.RowKit
set_option maxHeartbeats 400000
set_option maxRecDepth 100000
set_option linter.unusedSimpArgs false
set_option linter.unusedVariables false

/-- The carry at the end. -/
theorem sum_last (xs ys rs : List Nat) (n q : Nat) (hr : rs.length = n + 1) (hy : ys.length ≤ n) (hx : xs.length = n)
    (h : S 4294967296 (fun i => rs.getD i 0) n + q * 4294967296 ^ n = S 4294967296 (fun i => xs.getD i 0) n + S 4294967296 (fun i => ys.getD i 0) n) :
    vb 4294967296 (rs.set n q) = vb 4294967296 xs + vb 4294967296 ys := by
  rw [vb_len (xs := xs) (by omega), vb_len (xs := ys) hy] at h
  show S _ _ _ = _
  rw [List.length_set, hr, S_succ, S_ext (g := fun i => rs.getD i 0) (fun j hj => by rw [getD_set _ _ _ _ (by omega), if_neg (by omega)])]
  rw [getD_set _ _ _ _ (by omega), if_pos rfl]
  exact h

/-- The loops' relation: k limbs are done. -/
def SumRel (n M N : Nat) (xs ys : List Nat) (w : World) (carry i : Value) (wr : World) : Prop :=
  ∃ (k : Nat) (c : Int) (rs : List Nat), M ≤ k ∧ k ≤ N ∧ i = .int .i64 k ∧ carry = .int .u32 c ∧ 0 ≤ c ∧ c ≤ 1 ∧ R32 wr w.heap.size rs ∧ Hid (rs.length = n + 1) ∧ Lim rs ∧ Below w.heap.size w wr ∧
    Hid (S 4294967296 (fun i => rs.getD i 0) k + c.toNat * 4294967296 ^ k = S 4294967296 (fun i => xs.getD i 0) k + S 4294967296 (fun i => ys.getD i 0) k)

theorem sum_ord (w : World) (B : Nat) (A D : Option Addr) (n m c d : Nat) (xs ys : List Nat) (h : LRd w B A n c xs) (k : LRd w B D m d ys) (hB : B ≤ w.heap.size) (hn : n ≤ 1000000000) (hmn : m ≤ n) :
    Calls Try.prog 41 #[.slice A n c, .slice D m d] w (GivesL w (vb 4294967296 xs + vb 4294967296 ys)) := by
  have hlt : ¬ (n < m) := by omega
  have hcap := h.cap
  have hcap2 := k.cap
  have hmk := mk32 (n + 1) (by omega)
  rw [Int.natCast_add, Int.natCast_one] at hmk
  have hr0 := R32.new w (n + 1)
  go_enter Try.func41, Try.ntmps41
  go_wp2_with fail
  go_loopw [6, 22] (SumRel n 0 m xs ys w) (fun _ i _ => m - (intOf i).toNat)
  case atStart => exact ⟨0, 0, List.replicate (n + 1) 0, Nat.le_refl _, Nat.zero_le _, rfl, rfl, by omega, by omega, hr0, (by show _ = _; simp), Lim.zeros _, bl1 _ _, (by show _ = _; simp [S_zero])⟩
  case round =>
    obtain ⟨j, q, rs, _, hj, rfl, rfl, q0, q1, hR, hrl, hrL, hbw, HS⟩ := hrel
    by_cases hjm : j < m
    · obtain ⟨b, off, rfl, hb, hc⟩ := h.rd (by omega)
      obtain ⟨b', off', rfl, hb', hc'⟩ := k.rd (by omega)
      have g1 := (hbw.cell (p := ⟨b, off + j, none⟩) (by show b < _; omega)).trans (hc j (by omega))
      have g2 := (hbw.cell (p := ⟨b', off' + j, none⟩) (by show b' < _; omega)).trans (hc' j (by omega))
      have g3 := hR.cell (j := j) (by have := hrl.out; omega)
      have g4 := hR.frozen j
      have a1 := nth_nn xs j
      have a2 := h.lim.nth j
      have a3 := nth_nn ys j
      have a4 := k.lim.nth j
      clear hc hc'
      go_wp2_with fail
      go_region_with (go_at_call 62; refine (add32_any _ _ _ _ ⟨a1, a2⟩ ⟨a3, a4⟩ ⟨q0, q1⟩).mono ?_; rintro e w' ⟨rfl, rfl⟩)
      all_goals
        go_wp2_with fail
        go_roundw
        case rel => exact ⟨j + 1, _, _, by omega, by omega, by go_num, rfl, Int.ediv_nonneg (by omega) (by omega), by omega, (hR.drew).put j (Int.emod_nonneg _ (by omega)), (by show _ = _; rw [List.length_set]; exact hrl.out), hrL.set (by omega), hbw.drew.setCell (Nat.le_refl _) _, sum_step (by have := hrl.out; omega) q0 HS.out⟩
        case measure => simp [intOf]; omega
    · obtain rfl : j = m := by omega
      go_wp2_with fail
      have hyl := Lib.hid k.len.out
      go_loopw [6, 8] (SumRel n j n xs ys w) (fun _ i _ => n - (intOf i).toNat)
      case atStart => exact ⟨j, q, rs, Nat.le_refl _, hmn, rfl, rfl, q0, q1, hR, hrl, hrL, hbw, HS⟩
      case round =>
        clear q0 q1 hR hrl hrL hbw HS
        obtain ⟨i, q, rs, him, hi, rfl, rfl, q0, q1, hR, hrl, hrL, hbw, HS⟩ := hrel
        by_cases hin : i < n
        · obtain ⟨b, off, rfl, hb, hc⟩ := h.rd (by omega)
          have g1 := (hbw.cell (p := ⟨b, off + i, none⟩) (by show b < _; omega)).trans (hc i (by omega))
          have g3 := hR.cell (j := i) (by have := hrl.out; omega)
          have g4 := hR.frozen i
          have a1 := nth_nn xs i
          have a2 := h.lim.nth i
          have HY := Lib.hid (show nth ys i = 0 by unfold nth; rw [getD_none (by have := hyl.out; omega)]; rfl)
          have ST := Lib.hid (sum_step (by have := hrl.out; omega) q0 HS.out)
          rw [HY.out, Int.add_zero] at ST
          clear hc
          go_wp2_with (go_at_call 62; refine (add32_any _ _ _ _ ⟨a1, a2⟩ (by omega) ⟨q0, q1⟩).mono ?_; rintro e w' ⟨rfl, rfl⟩)
          go_roundw
          case rel => exact ⟨i + 1, _, _, by omega, by omega, by go_num, rfl, Int.ediv_nonneg (by omega) (by omega), by omega, hR.put i (Int.emod_nonneg _ (by omega)), (by show _ = _; rw [List.length_set]; exact hrl.out), hrL.set (by omega), hbw.setCell (Nat.le_refl _) _, ST.out⟩
          case measure => simp [intOf]; omega
        · obtain rfl : i = n := by omega
          have g3 := hR.cell (j := i) (by have := hrl.out; omega)
          have g4 := hR.frozen i
          have hR2 := hR.put i q0
          have hL2 := hrL.set (j := i) (x := q.toNat) (by omega)
          have hl2 : Hid ((rs.set i q.toNat).length = i + 1) := (by show _ = _; rw [List.length_set]; exact hrl.out)
          have hb2 := hbw.setCell (p := ⟨w.heap.size, i, none⟩) (Nat.le_refl _) (.int .u32 q)
          have hv2 := Lib.hid (sum_last xs ys rs i q.toNat hrl.out (by have := hyl.out; have := h.len.out; omega) h.len.out HS.out)
          go_wp2_with fail
          refine (trim_any _ _ _ _ _ _ (hR2.lrdAll hL2 hR2.lt hl2 (by omega))).mono ?_
          rintro e w' ⟨t, rfl, ht, rfl⟩
          go_wp2_with fail
          go_ret
          exact gives_row hR2 hL2 hl2 ht (by omega) hb2 hv2.out

theorem sum_swap (w : World) (B : Nat) (A D : Option Addr) (n m c d : Nat) (xs ys : List Nat) (h : LRd w B A n c xs) (k : LRd w B D m d ys) (hB : B ≤ w.heap.size) (hn : n ≤ 1000000000) (hmn : m < n) :
    Calls Try.prog 41 #[.slice D m d, .slice A n c] w (GivesL w (vb 4294967296 xs + vb 4294967296 ys)) := by
  have hlt : m < n := hmn
  have hcap := h.cap
  have hcap2 := k.cap
  have hmk := mk32 (n + 1) (by omega)
  rw [Int.natCast_add, Int.natCast_one] at hmk
  have hr0 := R32.new w (n + 1)
  go_enter Try.func41, Try.ntmps41
  go_wp2_with fail
  go_loopw [6, 22] (SumRel n 0 m xs ys w) (fun _ i _ => m - (intOf i).toNat)
  case atStart => exact ⟨0, 0, List.replicate (n + 1) 0, Nat.le_refl _, Nat.zero_le _, rfl, rfl, by omega, by omega, hr0, (by show _ = _; simp), Lim.zeros _, bl1 _ _, (by show _ = _; simp [S_zero])⟩
  case round =>
    obtain ⟨j, q, rs, _, hj, rfl, rfl, q0, q1, hR, hrl, hrL, hbw, HS⟩ := hrel
    by_cases hjm : j < m
    · obtain ⟨b, off, rfl, hb, hc⟩ := h.rd (by omega)
      obtain ⟨b', off', rfl, hb', hc'⟩ := k.rd (by omega)
      have g1 := (hbw.cell (p := ⟨b, off + j, none⟩) (by show b < _; omega)).trans (hc j (by omega))
      have g2 := (hbw.cell (p := ⟨b', off' + j, none⟩) (by show b' < _; omega)).trans (hc' j (by omega))
      have g3 := hR.cell (j := j) (by have := hrl.out; omega)
      have g4 := hR.frozen j
      have a1 := nth_nn xs j
      have a2 := h.lim.nth j
      have a3 := nth_nn ys j
      have a4 := k.lim.nth j
      clear hc hc'
      go_wp2_with fail
      go_region_with (go_at_call 62; refine (add32_any _ _ _ _ ⟨a1, a2⟩ ⟨a3, a4⟩ ⟨q0, q1⟩).mono ?_; rintro e w' ⟨rfl, rfl⟩)
      all_goals
        go_wp2_with fail
        go_roundw
        case rel => exact ⟨j + 1, _, _, by omega, by omega, by go_num, rfl, Int.ediv_nonneg (by omega) (by omega), by omega, (hR.drew).put j (Int.emod_nonneg _ (by omega)), (by show _ = _; rw [List.length_set]; exact hrl.out), hrL.set (by omega), hbw.drew.setCell (Nat.le_refl _) _, sum_step (by have := hrl.out; omega) q0 HS.out⟩
        case measure => simp [intOf]; omega
    · obtain rfl : j = m := by omega
      go_wp2_with fail
      have hyl := Lib.hid k.len.out
      go_loopw [6, 8] (SumRel n j n xs ys w) (fun _ i _ => n - (intOf i).toNat)
      case atStart => exact ⟨j, q, rs, Nat.le_refl _, by omega, rfl, rfl, q0, q1, hR, hrl, hrL, hbw, HS⟩
      case round =>
        clear q0 q1 hR hrl hrL hbw HS
        obtain ⟨i, q, rs, him, hi, rfl, rfl, q0, q1, hR, hrl, hrL, hbw, HS⟩ := hrel
        by_cases hin : i < n
        · obtain ⟨b, off, rfl, hb, hc⟩ := h.rd (by omega)
          have g1 := (hbw.cell (p := ⟨b, off + i, none⟩) (by show b < _; omega)).trans (hc i (by omega))
          have g3 := hR.cell (j := i) (by have := hrl.out; omega)
          have g4 := hR.frozen i
          have a1 := nth_nn xs i
          have a2 := h.lim.nth i
          have HY := Lib.hid (show nth ys i = 0 by unfold nth; rw [getD_none (by have := hyl.out; omega)]; rfl)
          have ST := Lib.hid (sum_step (by have := hrl.out; omega) q0 HS.out)
          rw [HY.out, Int.add_zero] at ST
          clear hc
          go_wp2_with (go_at_call 62; refine (add32_any _ _ _ _ ⟨a1, a2⟩ (by omega) ⟨q0, q1⟩).mono ?_; rintro e w' ⟨rfl, rfl⟩)
          go_roundw
          case rel => exact ⟨i + 1, _, _, by omega, by omega, by go_num, rfl, Int.ediv_nonneg (by omega) (by omega), by omega, hR.put i (Int.emod_nonneg _ (by omega)), (by show _ = _; rw [List.length_set]; exact hrl.out), hrL.set (by omega), hbw.setCell (Nat.le_refl _) _, ST.out⟩
          case measure => simp [intOf]; omega
        · obtain rfl : i = n := by omega
          have g3 := hR.cell (j := i) (by have := hrl.out; omega)
          have g4 := hR.frozen i
          have hR2 := hR.put i q0
          have hL2 := hrL.set (j := i) (x := q.toNat) (by omega)
          have hl2 : Hid ((rs.set i q.toNat).length = i + 1) := (by show _ = _; rw [List.length_set]; exact hrl.out)
          have hb2 := hbw.setCell (p := ⟨w.heap.size, i, none⟩) (Nat.le_refl _) (.int .u32 q)
          have hv2 := Lib.hid (sum_last xs ys rs i q.toNat hrl.out (by have := hyl.out; have := h.len.out; omega) h.len.out HS.out)
          go_wp2_with fail
          refine (trim_any _ _ _ _ _ _ (hR2.lrdAll hL2 hR2.lt hl2 (by omega))).mono ?_
          rintro e w' ⟨t, rfl, ht, rfl⟩
          go_wp2_with fail
          go_ret
          exact gives_row hR2 hL2 hl2 ht (by omega) hb2 hv2.out

theorem sum_any (w : World) (B : Nat) (A D : Option Addr) (n m c d : Nat) (xs ys : List Nat) (h : LRd w B A n c xs) (k : LRd w B D m d ys) (hB : B ≤ w.heap.size) (hn : n ≤ 1000000000) (hm : m ≤ 1000000000) :
    Calls Try.prog 41 #[.slice A n c, .slice D m d] w (GivesL w (vb 4294967296 xs + vb 4294967296 ys)) := by
  by_cases hlt : n < m
  · rw [Nat.add_comm]
    exact sum_swap w B D A m n d c ys xs k h hB hm hlt
  · exact sum_ord w B A D n m c d xs ys h k hB hn (by omega)
end Go.Proofs.Ytjkogajdpkbjeaa
