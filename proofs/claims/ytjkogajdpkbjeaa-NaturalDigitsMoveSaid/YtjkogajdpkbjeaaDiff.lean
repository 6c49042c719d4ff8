/- Package natural: difference. -/
import Derived.Test.YtjkogajdpkbjeaaRow32
import Derived.Deep.QuietTactic
import Derived.BigQuiet
import Derived.Deep.RegionWith
namespace Go.Proofs.Ytjkogajdpkbjeaa
open Go.RowKit
set_option maxHeartbeats 400000
set_option maxRecDepth 100000
set_option linter.unusedSimpArgs false
set_option linter.unusedVariables false

theorem brw_eq (x y c : Int) (hx : 0 ≤ x ∧ x < 4294967296) (hy : 0 ≤ y ∧ y < 4294967296) (hc : 0 ≤ c ∧ c ≤ 1) : (x - y - c) % 4294967296 + y + c = x + 4294967296 * brw x y c := by
  unfold brw; split <;> omega
theorem dif_step {rs xs ys : List Nat} {k : Nat} {c : Int} (hk : k < rs.length) (hc : 0 ≤ c) (hc1 : c ≤ 1) (hX : Lim xs) (hY : Lim ys)
    (h : S 4294967296 (fun i => rs.getD i 0) k + S 4294967296 (fun i => ys.getD i 0) k = S 4294967296 (fun i => xs.getD i 0) k + c.toNat * 4294967296 ^ k) :
    S 4294967296 (fun i => (rs.set k ((nth xs k - nth ys k - c) % 4294967296).toNat).getD i 0) (k + 1) + S 4294967296 (fun i => ys.getD i 0) (k + 1) =
      S 4294967296 (fun i => xs.getD i 0) (k + 1) + (brw (nth xs k) (nth ys k) c).toNat * 4294967296 ^ (k + 1) := by
  have e0 := brw_eq (nth xs k) (nth ys k) c ⟨nth_nn _ _, hX.nth _⟩ ⟨nth_nn _ _, hY.nth _⟩ ⟨hc, hc1⟩
  have b0 := brw_01 (nth xs k) (nth ys k) c
  have n0 := Int.emod_nonneg (nth xs k - nth ys k - c) (show (4294967296 : Int) ≠ 0 by omega)
  rw [S_succ, S_succ, S_succ, S_ext (g := fun i => rs.getD i 0) (fun j hj => by rw [getD_set _ _ _ _ hk, if_neg (by omega)])]
  rw [getD_set _ _ _ _ hk, if_pos rfl]
  generalize (nth xs k - nth ys k - c) % 4294967296 = r at *
  generalize brw (nth xs k) (nth ys k) c = d at *
  unfold nth at e0
  generalize xs.getD k 0 = x at *
  generalize ys.getD k 0 = y at *
  have e : r.toNat + y + c.toNat = x + 4294967296 * d.toNat := by omega
  generalize r.toNat = r' at *
  generalize d.toNat = d' at *
  generalize c.toNat = c' at *
  rw [Nat.pow_succ]
  generalize 4294967296 ^ k = P at *
  grind
theorem dif_last (xs ys rs : List Nat) (n : Nat) (q : Int) (hr : rs.length = n) (hy : ys.length ≤ n) (hx : xs.length = n) (hL : Lim rs) (q0 : 0 ≤ q) (q1 : q ≤ 1) (hle : vb 4294967296 ys ≤ vb 4294967296 xs)
    (h : S 4294967296 (fun i => rs.getD i 0) n + S 4294967296 (fun i => ys.getD i 0) n = S 4294967296 (fun i => xs.getD i 0) n + q.toNat * 4294967296 ^ n) :
    vb 4294967296 rs = vb 4294967296 xs - vb 4294967296 ys := by
  rw [vb_len (xs := xs) (by omega), vb_len (xs := ys) hy, vb_len (xs := rs) (by omega)] at h
  have h1 : vb 4294967296 rs < 4294967296 ^ n := by rw [← hr]; exact vb_lt (by decide) hL
  have h2 : q = 0 ∨ q = 1 := by omega
  rcases h2 with rfl | rfl
  · simp at h; omega
  · simp at h; omega
def DifRel (n M N : Nat) (xs ys : List Nat) (w : World) (carry i : Value) (wr : World) : Prop :=
  ∃ (k : Nat) (c : Int) (rs : List Nat), M ≤ k ∧ k ≤ N ∧ i = .int .i64 k ∧ carry = .int .u32 c ∧ 0 ≤ c ∧ c ≤ 1 ∧ R32 wr w.heap.size rs ∧ Hid (rs.length = n) ∧ Lim rs ∧ Below w.heap.size w wr ∧
    Hid (S 4294967296 (fun i => rs.getD i 0) k + S 4294967296 (fun i => ys.getD i 0) k = S 4294967296 (fun i => xs.getD i 0) k + c.toNat * 4294967296 ^ k)

theorem diff_any (w : World) (B : Nat) (A D : Option Addr) (n m c d : Nat) (xs ys : List Nat) (h : LRd w B A n c xs) (k : LRd w B D m d ys) (hB : B ≤ w.heap.size) (hn : n ≤ 1000000000) (hmn : m ≤ n) (hle : vb 4294967296 ys ≤ vb 4294967296 xs) :
    Calls Try.prog 43 #[.slice A n c, .slice D m d] w (GivesL w (vb 4294967296 xs - vb 4294967296 ys)) := by
  have hcap := h.cap
  have hcap2 := k.cap
  have hmk := mk32 n (by omega)
  have hr0 := R32.new w n
  go_enter Try.func43, Try.ntmps43
  go_wp2_with fail
  go_loopw [6, 14] (DifRel n 0 m xs ys w) (fun _ i _ => m - (intOf i).toNat)
  case atStart => exact ⟨0, 0, List.replicate n 0, Nat.le_refl _, Nat.zero_le _, rfl, rfl, by omega, by omega, hr0, (by show _ = _; simp), Lim.zeros _, bl1 _ _, (by show _ = _; simp [S_zero])⟩
  case round =>
    obtain ⟨j, q, rs, _, hj, rfl, rfl, q0, q1, hR, hrl, hrL, hbw, HS⟩ := hrel
    by_cases hjm : j < m
    · obtain ⟨b, off, rfl, hb, hc⟩ := h.rd (by omega)
      obtain ⟨b', off', rfl, hb', hc'⟩ := k.rd (by omega)
      have g1 := (hbw.cell (p := ⟨b, off + j, none⟩) (by show b < _; omega)).trans (hc j (by omega))
      have g2 := (hbw.cell (p := ⟨b', off' + j, none⟩) (by show b' < _; omega)).trans (hc' j (by omega))
      have g3 := hR.cell (j := j) (by have := hrl.out; omega)
      have g4 := hR.frozen j
      have a1 := nth_nn xs j
      have a2 := h.lim.nth j
      have a3 := nth_nn ys j
      have a4 := k.lim.nth j
      clear hc hc'
      go_wp2_with fail
      go_region_with (go_at_call 64; refine (sub32_any _ _ _ _ ⟨a1, a2⟩ ⟨a3, a4⟩ ⟨q0, q1⟩).mono ?_; rintro e w' ⟨rfl, rfl⟩)
      all_goals
        go_wp2_with fail
        go_roundw
        case rel => exact ⟨j + 1, _, _, by omega, by omega, by go_num, rfl, (brw_01 _ _ _).1, (brw_01 _ _ _).2, (hR.drew).put j (Int.emod_nonneg _ (by omega)), (by show _ = _; rw [List.length_set]; exact hrl.out), hrL.set (by omega), hbw.drew.setCell (Nat.le_refl _) _, dif_step (by have := hrl.out; omega) q0 q1 h.lim k.lim HS.out⟩
        case measure => simp [intOf]; omega
    · obtain rfl : j = m := by omega
      go_wp2_with fail
      have hyl := Lib.hid k.len.out
      go_loopw [6, 8] (DifRel n j n xs ys w) (fun _ i _ => n - (intOf i).toNat)
      case atStart => exact ⟨j, q, rs, Nat.le_refl _, hmn, rfl, rfl, q0, q1, hR, hrl, hrL, hbw, HS⟩
      case round =>
        clear q0 q1 hR hrl hrL hbw HS
        obtain ⟨i, q, rs, him, hi, rfl, rfl, q0, q1, hR, hrl, hrL, hbw, HS⟩ := hrel
        by_cases hin : i < n
        · obtain ⟨b, off, rfl, hb, hc⟩ := h.rd (by omega)
          have g1 := (hbw.cell (p := ⟨b, off + i, none⟩) (by show b < _; omega)).trans (hc i (by omega))
          have g3 := hR.cell (j := i) (by have := hrl.out; omega)
          have g4 := hR.frozen i
          have a1 := nth_nn xs i
          have a2 := h.lim.nth i
          have HY := Lib.hid (show nth ys i = 0 by unfold nth; rw [getD_none (by have := hyl.out; omega)]; rfl)
          have ST := Lib.hid (dif_step (by have := hrl.out; omega) q0 q1 h.lim k.lim HS.out)
          rw [HY.out, Int.sub_zero] at ST
          clear hc
          go_wp2_with (go_at_call 64; refine (sub32_any _ _ _ _ ⟨a1, a2⟩ (by omega) ⟨q0, q1⟩).mono ?_; rintro e w' ⟨rfl, rfl⟩)
          go_roundw
          case rel => exact ⟨i + 1, _, _, by omega, by omega, by go_num, rfl, (brw_01 _ _ _).1, (brw_01 _ _ _).2, hR.put i (Int.emod_nonneg _ (by omega)), (by show _ = _; rw [List.length_set]; exact hrl.out), hrL.set (by omega), hbw.setCell (Nat.le_refl _) _, ST.out⟩
          case measure => simp [intOf]; omega
        · obtain rfl : i = n := by omega
          have hv2 := Lib.hid (dif_last xs ys rs i q hrl.out (by have := hyl.out; omega) h.len.out hrL q0 q1 hle HS.out)
          go_wp2_with fail
          refine (trim_any _ _ _ _ _ _ (hR.lrdAll hrL hR.lt hrl (by omega))).mono ?_
          rintro e w' ⟨t, rfl, ht, rfl⟩
          go_wp2_with fail
          go_ret
          exact gives_row hR hrL hrl ht (by omega) hbw hv2.out
end Go.Proofs.Ytjkogajdpkbjeaa
