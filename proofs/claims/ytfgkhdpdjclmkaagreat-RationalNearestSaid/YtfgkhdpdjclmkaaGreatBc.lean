/- Package natural: sum. Package natural: product. Exported functions: words. Exported functions: Add, Mul, Sub, Cmp. Exported functions: Sub, Cmp. root: Newton's method. Exported functions: DivMod, Sqrt. Exported functions: Bits, Shift. Gcd: Euclid's algorithm. -/
import Derived.Test.YtfgkhdpdjclmkaaGreatBa
import Derived.Deep.QuietTactic
import Derived.BigQuiet
import Derived.Deep.RegionWith
import Derived.Test.YtfgkhdpdjclmkaaGreatBb
import Derived.BigRegion
import Derived.Deep.LoopGhost
namespace Go.Proofs.YtfgkhdpdjclmkaaGreat
open Go.RowKit
set_option maxHeartbeats 400000
set_option maxRecDepth 100000
set_option linter.unusedSimpArgs false
set_option linter.unusedVariables false

/-- The carry at the end. -/
theorem sum_last (xs ys rs : List Nat) (n q : Nat) (hr : rs.length = n + 1) (hy : ys.length ≤ n) (hx : xs.length = n)
    (h : S 4294967296 (fun i => rs.getD i 0) n + q * 4294967296 ^ n = S 4294967296 (fun i => xs.getD i 0) n + S 4294967296 (fun i => ys.getD i 0) n) :
    vb 4294967296 (rs.set n q) = vb 4294967296 xs + vb 4294967296 ys := by
  rw [vb_len (xs := xs) (by omega), vb_len (xs := ys) hy] at h
  show S _ _ _ = _
  rw [List.length_set, hr, S_succ, S_ext (g := fun i => rs.getD i 0) (fun j hj => by rw [getD_set _ _ _ _ (by omega), if_neg (by omega)])]
  rw [getD_set _ _ _ _ (by omega), if_pos rfl]
  exact h
/-- The loops' relation: k limbs are done. -/
def SumRel (n M N : Nat) (xs ys : List Nat) (w : World) (carry i : Value) (wr : World) : Prop :=
  ∃ (k : Nat) (c : Int) (rs : List Nat), M ≤ k ∧ k ≤ N ∧ i = .int .i64 k ∧ carry = .int .u32 c ∧ 0 ≤ c ∧ c ≤ 1 ∧ R32 wr w.heap.size rs ∧ Hid (rs.length = n + 1) ∧ Lim rs ∧ Below w.heap.size w wr ∧
    Hid (S 4294967296 (fun i => rs.getD i 0) k + c.toNat * 4294967296 ^ k = S 4294967296 (fun i => xs.getD i 0) k + S 4294967296 (fun i => ys.getD i 0) k)
theorem sum_ord (w : World) (B : Nat) (A D : Option Addr) (n m c d : Nat) (xs ys : List Nat) (h : LRd w B A n c xs) (k : LRd w B D m d ys) (hB : B ≤ w.heap.size) (hn : n ≤ 1000000000) (hmn : m ≤ n) :
    Calls Tryz.prog 133 #[.slice A n c, .slice D m d] w (GivesL w (vb 4294967296 xs + vb 4294967296 ys)) := by
  have hlt : ¬ (n < m) := by omega
  have hcap := h.cap
  have hcap2 := k.cap
  have hmk := mk32 (n + 1) (by omega)
  rw [Int.natCast_add, Int.natCast_one] at hmk
  have hr0 := R32.new w (n + 1)
  go_enter Tryz.func133, Tryz.ntmps133
  go_wp2_with fail
  go_loopw [6, 22] (SumRel n 0 m xs ys w) (fun _ i _ => m - (intOf i).toNat)
  case atStart => exact ⟨0, 0, List.replicate (n + 1) 0, Nat.le_refl _, Nat.zero_le _, rfl, rfl, by omega, by omega, hr0, (by show _ = _; simp), Lim.zeros _, bl1 _ _, (by show _ = _; simp [S_zero])⟩
  case round =>
    obtain ⟨j, q, rs, _, hj, rfl, rfl, q0, q1, hR, hrl, hrL, hbw, HS⟩ := hrel
    by_cases hjm : j < m
    · obtain ⟨b, off, rfl, hb, hc⟩ := h.rd (by omega)
      obtain ⟨b', off', rfl, hb', hc'⟩ := k.rd (by omega)
      have g1 := (hbw.cell (p := ⟨b, off + j, none⟩) (by show b < _; omega)).trans (hc j (by omega))
      have g2 := (hbw.cell (p := ⟨b', off' + j, none⟩) (by show b' < _; omega)).trans (hc' j (by omega))
      have g3 := hR.cell (j := j) (by have := hrl.out; omega)
      have g4 := hR.frozen j
      have a1 := nth_nn xs j
      have a2 := h.lim.nth j
      have a3 := nth_nn ys j
      have a4 := k.lim.nth j
      clear hc hc'
      go_wp2_with fail
      go_region_with (go_at_call 148; refine (add32_any _ _ _ _ ⟨a1, a2⟩ ⟨a3, a4⟩ ⟨q0, q1⟩).mono ?_; rintro e w' ⟨rfl, rfl⟩)
      all_goals
        go_wp2_with fail
        go_roundw
        case rel => exact ⟨j + 1, _, _, by omega, by omega, by go_num, rfl, Int.ediv_nonneg (by omega) (by omega), by omega, (hR.drew).put j (Int.emod_nonneg _ (by omega)), (by show _ = _; rw [List.length_set]; exact hrl.out), hrL.set (by omega), hbw.drew.setCell (Nat.le_refl _) _, sum_step (by have := hrl.out; omega) q0 HS.out⟩
        case measure => simp [intOf]; omega
    · obtain rfl : j = m := by omega
      go_wp2_with fail
      have hyl := Lib.hid k.len.out
      go_loopw [6, 8] (SumRel n j n xs ys w) (fun _ i _ => n - (intOf i).toNat)
      case atStart => exact ⟨j, q, rs, Nat.le_refl _, hmn, rfl, rfl, q0, q1, hR, hrl, hrL, hbw, HS⟩
      case round =>
        clear q0 q1 hR hrl hrL hbw HS
        obtain ⟨i, q, rs, him, hi, rfl, rfl, q0, q1, hR, hrl, hrL, hbw, HS⟩ := hrel
        by_cases hin : i < n
        · obtain ⟨b, off, rfl, hb, hc⟩ := h.rd (by omega)
          have g1 := (hbw.cell (p := ⟨b, off + i, none⟩) (by show b < _; omega)).trans (hc i (by omega))
          have g3 := hR.cell (j := i) (by have := hrl.out; omega)
          have g4 := hR.frozen i
          have a1 := nth_nn xs i
          have a2 := h.lim.nth i
          have HY := Lib.hid (show nth ys i = 0 by unfold nth; rw [getD_none (by have := hyl.out; omega)]; rfl)
          have ST := Lib.hid (sum_step (by have := hrl.out; omega) q0 HS.out)
          rw [HY.out, Int.add_zero] at ST
          clear hc
          go_wp2_with (go_at_call 148; refine (add32_any _ _ _ _ ⟨a1, a2⟩ (by omega) ⟨q0, q1⟩).mono ?_; rintro e w' ⟨rfl, rfl⟩)
          go_roundw
          case rel => exact ⟨i + 1, _, _, by omega, by omega, by go_num, rfl, Int.ediv_nonneg (by omega) (by omega), by omega, hR.put i (Int.emod_nonneg _ (by omega)), (by show _ = _; rw [List.length_set]; exact hrl.out), hrL.set (by omega), hbw.setCell (Nat.le_refl _) _, ST.out⟩
          case measure => simp [intOf]; omega
        · obtain rfl : i = n := by omega
          have g3 := hR.cell (j := i) (by have := hrl.out; omega)
          have g4 := hR.frozen i
          have hR2 := hR.put i q0
          have hL2 := hrL.set (j := i) (x := q.toNat) (by omega)
          have hl2 : Hid ((rs.set i q.toNat).length = i + 1) := (by show _ = _; rw [List.length_set]; exact hrl.out)
          have hb2 := hbw.setCell (p := ⟨w.heap.size, i, none⟩) (Nat.le_refl _) (.int .u32 q)
          have hv2 := Lib.hid (sum_last xs ys rs i q.toNat hrl.out (by have := hyl.out; have := h.len.out; omega) h.len.out HS.out)
          go_wp2_with fail
          refine (trim_any _ _ _ _ _ _ (hR2.lrdAll hL2 hR2.lt hl2 (by omega))).mono ?_
          rintro e w' ⟨t, rfl, ht, rfl⟩
          go_wp2_with fail
          go_ret
          exact gives_row hR2 hL2 hl2 ht (by omega) hb2 hv2.out
theorem sum_swap (w : World) (B : Nat) (A D : Option Addr) (n m c d : Nat) (xs ys : List Nat) (h : LRd w B A n c xs) (k : LRd w B D m d ys) (hB : B ≤ w.heap.size) (hn : n ≤ 1000000000) (hmn : m < n) :
    Calls Tryz.prog 133 #[.slice D m d, .slice A n c] w (GivesL w (vb 4294967296 xs + vb 4294967296 ys)) := by
  have hlt : m < n := hmn
  have hcap := h.cap
  have hcap2 := k.cap
  have hmk := mk32 (n + 1) (by omega)
  rw [Int.natCast_add, Int.natCast_one] at hmk
  have hr0 := R32.new w (n + 1)
  go_enter Tryz.func133, Tryz.ntmps133
  go_wp2_with fail
  go_loopw [6, 22] (SumRel n 0 m xs ys w) (fun _ i _ => m - (intOf i).toNat)
  case atStart => exact ⟨0, 0, List.replicate (n + 1) 0, Nat.le_refl _, Nat.zero_le _, rfl, rfl, by omega, by omega, hr0, (by show _ = _; simp), Lim.zeros _, bl1 _ _, (by show _ = _; simp [S_zero])⟩
  case round =>
    obtain ⟨j, q, rs, _, hj, rfl, rfl, q0, q1, hR, hrl, hrL, hbw, HS⟩ := hrel
    by_cases hjm : j < m
    · obtain ⟨b, off, rfl, hb, hc⟩ := h.rd (by omega)
      obtain ⟨b', off', rfl, hb', hc'⟩ := k.rd (by omega)
      have g1 := (hbw.cell (p := ⟨b, off + j, none⟩) (by show b < _; omega)).trans (hc j (by omega))
      have g2 := (hbw.cell (p := ⟨b', off' + j, none⟩) (by show b' < _; omega)).trans (hc' j (by omega))
      have g3 := hR.cell (j := j) (by have := hrl.out; omega)
      have g4 := hR.frozen j
      have a1 := nth_nn xs j
      have a2 := h.lim.nth j
      have a3 := nth_nn ys j
      have a4 := k.lim.nth j
      clear hc hc'
      go_wp2_with fail
      go_region_with (go_at_call 148; refine (add32_any _ _ _ _ ⟨a1, a2⟩ ⟨a3, a4⟩ ⟨q0, q1⟩).mono ?_; rintro e w' ⟨rfl, rfl⟩)
      all_goals
        go_wp2_with fail
        go_roundw
        case rel => exact ⟨j + 1, _, _, by omega, by omega, by go_num, rfl, Int.ediv_nonneg (by omega) (by omega), by omega, (hR.drew).put j (Int.emod_nonneg _ (by omega)), (by show _ = _; rw [List.length_set]; exact hrl.out), hrL.set (by omega), hbw.drew.setCell (Nat.le_refl _) _, sum_step (by have := hrl.out; omega) q0 HS.out⟩
        case measure => simp [intOf]; omega
    · obtain rfl : j = m := by omega
      go_wp2_with fail
      have hyl := Lib.hid k.len.out
      go_loopw [6, 8] (SumRel n j n xs ys w) (fun _ i _ => n - (intOf i).toNat)
      case atStart => exact ⟨j, q, rs, Nat.le_refl _, by omega, rfl, rfl, q0, q1, hR, hrl, hrL, hbw, HS⟩
      case round =>
        clear q0 q1 hR hrl hrL hbw HS
        obtain ⟨i, q, rs, him, hi, rfl, rfl, q0, q1, hR, hrl, hrL, hbw, HS⟩ := hrel
        by_cases hin : i < n
        · obtain ⟨b, off, rfl, hb, hc⟩ := h.rd (by omega)
          have g1 := (hbw.cell (p := ⟨b, off + i, none⟩) (by show b < _; omega)).trans (hc i (by omega))
          have g3 := hR.cell (j := i) (by have := hrl.out; omega)
          have g4 := hR.frozen i
          have a1 := nth_nn xs i
          have a2 := h.lim.nth i
          have HY := Lib.hid (show nth ys i = 0 by unfold nth; rw [getD_none (by have := hyl.out; omega)]; rfl)
          have ST := Lib.hid (sum_step (by have := hrl.out; omega) q0 HS.out)
          rw [HY.out, Int.add_zero] at ST
          clear hc
          go_wp2_with (go_at_call 148; refine (add32_any _ _ _ _ ⟨a1, a2⟩ (by omega) ⟨q0, q1⟩).mono ?_; rintro e w' ⟨rfl, rfl⟩)
          go_roundw
          case rel => exact ⟨i + 1, _, _, by omega, by omega, by go_num, rfl, Int.ediv_nonneg (by omega) (by omega), by omega, hR.put i (Int.emod_nonneg _ (by omega)), (by show _ = _; rw [List.length_set]; exact hrl.out), hrL.set (by omega), hbw.setCell (Nat.le_refl _) _, ST.out⟩
          case measure => simp [intOf]; omega
        · obtain rfl : i = n := by omega
          have g3 := hR.cell (j := i) (by have := hrl.out; omega)
          have g4 := hR.frozen i
          have hR2 := hR.put i q0
          have hL2 := hrL.set (j := i) (x := q.toNat) (by omega)
          have hl2 : Hid ((rs.set i q.toNat).length = i + 1) := (by show _ = _; rw [List.length_set]; exact hrl.out)
          have hb2 := hbw.setCell (p := ⟨w.heap.size, i, none⟩) (Nat.le_refl _) (.int .u32 q)
          have hv2 := Lib.hid (sum_last xs ys rs i q.toNat hrl.out (by have := hyl.out; have := h.len.out; omega) h.len.out HS.out)
          go_wp2_with fail
          refine (trim_any _ _ _ _ _ _ (hR2.lrdAll hL2 hR2.lt hl2 (by omega))).mono ?_
          rintro e w' ⟨t, rfl, ht, rfl⟩
          go_wp2_with fail
          go_ret
          exact gives_row hR2 hL2 hl2 ht (by omega) hb2 hv2.out
theorem sum_any (w : World) (B : Nat) (A D : Option Addr) (n m c d : Nat) (xs ys : List Nat) (h : LRd w B A n c xs) (k : LRd w B D m d ys) (hB : B ≤ w.heap.size) (hn : n ≤ 1000000000) (hm : m ≤ 1000000000) :
    Calls Tryz.prog 133 #[.slice A n c, .slice D m d] w (GivesL w (vb 4294967296 xs + vb 4294967296 ys)) := by
  by_cases hlt : n < m
  · rw [Nat.add_comm]
    exact sum_swap w B D A m n d c ys xs k h hB hm hlt
  · exact sum_ord w B A D n m c d xs ys h k hB hn (by omega)
/-- k limbs of xs are done. -/
def PrRel (n m : Nat) (xs ys : List Nat) (w : World) (i : Value) (wr : World) : Prop :=
  ∃ (k : Nat) (rs : List Nat), k ≤ n ∧ i = .int .i64 k ∧ R32 wr w.heap.size rs ∧ Hid (rs.length = n + m) ∧ Lim rs ∧ Below w.heap.size w wr ∧
    Hid ((∀ i, k + m ≤ i → rs.getD i 0 = 0) ∧ S 4294967296 (fun i => rs.getD i 0) (k + m) = S 4294967296 (fun i => xs.getD i 0) k * S 4294967296 (fun i => ys.getD i 0) m)
theorem pr_step {n m k : Nat} {xs ys rs rs' : List Nat} {q : Int} (hx : xs.length = n) (hrl : rs.length = n + m) (hk : k < n) (hq : 0 ≤ q)
    (h : (∀ i, k + m ≤ i → rs.getD i 0 = 0) ∧ S 4294967296 (fun i => rs.getD i 0) (k + m) = S 4294967296 (fun i => xs.getD i 0) k * S 4294967296 (fun i => ys.getD i 0) m)
    (a : AmIs k m rs ys (nth xs k) m q rs') :
    (∀ i, k + 1 + m ≤ i → (rs'.set (k + m) q.toNat).getD i 0 = 0) ∧ S 4294967296 (fun i => (rs'.set (k + m) q.toNat).getD i 0) (k + 1 + m) = S 4294967296 (fun i => xs.getD i 0) (k + 1) * S 4294967296 (fun i => ys.getD i 0) m := by
  obtain ⟨h1, h2⟩ := h
  obtain ⟨a1, a2, a3⟩ := a
  refine ⟨fun i hi => ?_, ?_⟩
  · rw [getD_set _ _ _ _ (by omega), if_neg (by omega), a2 i (by omega)]; exact h1 i (by omega)
  · rw [show k + 1 + m = (k + m) + 1 by omega, S_succ, getD_set _ _ _ _ (by omega), if_pos rfl]
    rw [S_ext (g := fun i => rs'.getD i 0) (fun j hj => by rw [getD_set _ _ _ _ (by omega), if_neg (by omega)])]
    rw [S_add] at h2 ⊢
    rw [S_ext (f := fun i => rs'.getD i 0) (g := fun i => rs.getD i 0) (fun j hj => a2 j (by omega)), S_succ]
    unfold nth at a3
    rw [Nat.pow_add]
    rw [Int.toNat_natCast] at a3
    generalize S 4294967296 (fun j => rs'.getD (k + j) 0) m = s1 at *
    generalize S 4294967296 (fun j => rs.getD (k + j) 0) m = s2 at *
    generalize S 4294967296 (fun j => rs.getD j 0) k = s3 at *
    generalize S 4294967296 (fun j => ys.getD j 0) m = s4 at *
    generalize S 4294967296 (fun j => xs.getD j 0) k = s5 at *
    generalize 4294967296 ^ m = P at *
    generalize 4294967296 ^ k = Q at *
    generalize xs.getD k 0 = x at *
    generalize q.toNat = q' at *
    grind
theorem pr_last {n m : Nat} {xs ys rs : List Nat} (hx : xs.length = n) (hy : ys.length = m) (hr : rs.length = n + m)
    (h : (∀ i, n + m ≤ i → rs.getD i 0 = 0) ∧ S 4294967296 (fun i => rs.getD i 0) (n + m) = S 4294967296 (fun i => xs.getD i 0) n * S 4294967296 (fun i => ys.getD i 0) m) : vb 4294967296 rs = vb 4294967296 xs * vb 4294967296 ys := by
  unfold vb; rw [hx, hy, hr]; exact h.2
theorem below_of_grown {w wr wr' : World} {g : Nat} (h : Below g w wr) (hg : wr.grownBy wr' (some g)) (hs : g < wr.heap.size) : Below g w wr' :=
  h.grown hg (by omega) (fun k hk => by injection hk; omega)
theorem product_any (w : World) (B : Nat) (A D : Option Addr) (n m c d : Nat) (xs ys : List Nat) (h : LRd w B A n c xs) (k : LRd w B D m d ys) (hB : B ≤ w.heap.size) (hn : n ≤ 1000000000) (hm : m ≤ 1000000000) :
    Calls Tryz.prog 131 #[.slice A n c, .slice D m d] w (GivesL w (vb 4294967296 xs * vb 4294967296 ys)) := by
  have hcap := h.cap
  have hcap2 := k.cap
  have hmk := mk32 (n + m) (by omega)
  rw [Int.natCast_add] at hmk
  have hr0 := R32.new w (n + m)
  go_enter Tryz.func131, Tryz.ntmps131
  go_wp2_with fail
  go_loopw [16] (PrRel n m xs ys w) (fun i _ => n - (intOf i).toNat)
  case atStart => exact ⟨0, List.replicate (n + m) 0, Nat.zero_le _, rfl, hr0, (by show _ = _; simp), Lim.zeros _, bl1 _ _, (by refine ⟨fun i _ => replicate_getD _ _, ?_⟩; rw [S_zeros (m := 0) (Nat.zero_le _) (fun j _ _ => replicate_getD _ _)]; simp [S_zero])⟩
  case round =>
    obtain ⟨j, rs, hj, rfl, hR, hrl, hrL, hbw, HS⟩ := hrel
    by_cases hjm : j < n
    · obtain ⟨b, off, rfl, hb, hc⟩ := h.rd (by omega)
      have g1 := (hbw.cell (p := ⟨b, off + j, none⟩) (by show b < _; omega)).trans (hc j (by omega))
      have a1 := nth_nn xs j
      have a2 := h.lim.nth j
      have hlt := hR.lt
      have k1 := k.below hbw hB
      clear hc
      go_wp2_with fail
      refine (addMultiple_any _ B w.heap.size j D m _ d rs ys (nth xs j) hR hrL k1 hB (by have := hrl.out; omega) ⟨a1, a2⟩ (by omega)).mono ?_
      rintro e w1 ⟨q, rs', rfl, q0, q1, hR1, hrL1, hg1, HA⟩
      have HA' := Lib.hid HA
      clear HA
      have hb1 := below_of_grown hbw hg1 hlt
      have g3 := hR1.cell (j := j + m) (by have := HA'.out.1; have := hrl.out; omega)
      have g4 := hR1.frozen (j + m)
      have ST := Lib.hid (pr_step h.len.out hrl.out hjm q0 HS.out HA'.out)
      go_wp2_with fail
      go_roundw
      case rel => exact ⟨j + 1, _, by omega, by go_num, hR1.put _ q0, (by show _ = _; rw [List.length_set, HA'.out.1]; exact hrl.out), hrL1.set (by omega), hb1.setCell (Nat.le_refl _) _, ST.out⟩
      case measure => simp [intOf]; omega
    · obtain rfl : j = n := by omega
      have hv2 := Lib.hid (pr_last h.len.out k.len.out hrl.out HS.out)
      go_wp2_with fail
      refine (trim_any _ _ _ _ _ _ (hR.lrdAll hrL hR.lt hrl (by omega))).mono ?_
      rintro e w' ⟨t, rfl, ht, rfl⟩
      go_wp2_with fail
      go_ret
      exact gives_row hR hrL hrl ht (by omega) hbw hv2.out
/-- The first number that is too large. -/
@[irreducible] def Big : Nat := 4294967296 ^ 600
theorem big_pow {m : Nat} (h : m = 600) : Big = 4294967296 ^ m := by subst h; unfold Big; rfl
/-- What an exported function gives: a number and a fault. -/
def GivesF (w : World) (v : Nat) (f1 f2 : Int) (e : Ending) (w' : World) : Prop :=
  ∃ A k c zs, e = .returned (.tuple #[.slice A k c, flt f1 f2]) ∧ LRd w' w'.heap.size A k c zs ∧ Rep 4294967296 zs v ∧ Below w.heap.size w w'
/-- The same, where the number may be too large. -/
def GivesB (w : World) (p : Nat) (e : Ending) (w' : World) : Prop :=
  (p < Big ∧ GivesF w p 0 0 e w') ∨ (Big ≤ p ∧ GivesF w 0 14 (-1) e w')
def GivesI (w : World) (v f1 f2 : Int) (e : Ending) (w' : World) : Prop := e = .returned (.tuple #[.int .i64 v, flt f1 f2]) ∧ Below w.heap.size w w'
theorem vld_top {xs : List Nat} (h : vld xs = true) : Top xs ∧ xs.length ≤ 600 := by
  unfold vld at h
  simp only [Bool.and_eq_true, decide_eq_true_eq, Bool.or_eq_true, beq_iff_eq, bne_iff_ne] at h
  refine ⟨fun m hm => ?_, h.1⟩
  rcases h.2 with e | e
  · omega
  · rw [hm, Nat.add_sub_cancel] at e; exact e
theorem nil_lrd (w : World) : LRd w w.heap.size none 0 0 [] := ⟨rfl, by omega, (by intro x hx; cases hx), fun h0 => absurd h0 (by omega)⟩
theorem nil_rep : Rep 4294967296 [] 0 := ⟨(by intro x hx; cases hx), rfl, Top.nil⟩
section
variable {w w' : World} {B B' n c : Nat} {A : Option Addr} {xs : List Nat}
/-- A store over an int leaves limbs alone. -/
theorem LRd.setI (h : LRd w B A n c xs) {p : Addr} {z : Int} (hp : w.cell? p = some (.int .i64 z)) (u : Value) : LRd (w.setCell p u) B A n c xs :=
  ⟨h.len, h.cap, h.lim, fun hn => by
    obtain ⟨b, off, e, hb, hc⟩ := h.rd hn
    refine ⟨b, off, e, hb, fun j hj => ?_⟩
    rw [World.cell?_setCell_other w p ⟨b, off + j, none⟩ u (fun e => by
      have h1 := hc j hj
      rw [← e, hp] at h1
      simp at h1)]
    exact hc j hj⟩
theorem LRd.alloc (h : LRd w B A n c xs) (hB : B ≤ w.heap.size) (o : Obj) : LRd (w.alloc o) B A n c xs := h.keep fun p hp => World.cell?_alloc_lt w o p (by omega)
theorem LRd.drew (h : LRd w B A n c xs) : LRd w.drew B A n c xs := h.keep fun _ _ => rfl
end
theorem big_len {zs : List Nat} {v k : Nat} (h : Rep 4294967296 zs v) (hl : zs.length = k) (hk : 600 < k) : Big ≤ v := by
  obtain ⟨m, hm⟩ : ∃ m, zs.length = m + 1 := ⟨zs.length - 1, by omega⟩
  obtain ⟨t, ht⟩ : ∃ t, t = 600 := ⟨_, rfl⟩
  have h1 := h.top.low (b := 4294967296) hm
  have h2 : 4294967296 ^ t ≤ 4294967296 ^ m := Nat.pow_le_pow_right (by decide) (by omega)
  rw [h.val] at h1
  rw [big_pow ht]
  omega
theorem fit_len {zs : List Nat} {v k : Nat} (h : Rep 4294967296 zs v) (hl : zs.length = k) (hk : k ≤ 600) : v < Big := by
  obtain ⟨t, ht⟩ : ∃ t, t = 600 := ⟨_, rfl⟩
  have h1 := h.lt_pow (by decide)
  have h2 : 4294967296 ^ zs.length ≤ 4294967296 ^ t := Nat.pow_le_pow_right (by decide) (by omega)
  rw [big_pow ht]
  omega
set_option maxHeartbeats 1000000 in
theorem add_ok (w : World) (B : Nat) (A D : Option Addr) (n m c d : Nat) (xs ys : List Nat) (h : LRd w B A n c xs) (k : LRd w B D m d ys) (hB : B ≤ w.heap.size) (hx : vld xs = true) (hy : vld ys = true) :
    Calls Tryz.prog 112 #[.slice A n c, .slice D m d] w (GivesB w (vb 4294967296 xs + vb 4294967296 ys)) := by
  have h1 := fun (o : Obj) => h.below (bl1 w o) hB
  have k1 := fun (o : Obj) => k.below (bl1 w o) hB
  have hn : n ≤ 600 := by have := (vld_top hx).2; have := h.len.out; omega
  have hm : m ≤ 600 := by have := (vld_top hy).2; have := k.len.out; omega
  go_enter Tryz.func112, Tryz.ntmps112
  go_wp2_with fail
  refine (checkBoth_ok _ B A D n m c d xs ys (h1 _) (k1 _) (by simp; omega) hx hy).mono ?_
  rintro e w1 ⟨rfl, hb⟩
  obtain ⟨hc, hf⟩ := bcell hb
  have hz : w.heap.size < w1.heap.size := by have := hb.size; simp at this; omega
  have hb' : Below w.heap.size w w1 := (bl1 w _).trans (hb.mono (by simp))
  have h2 := fun (o : Obj) => (h.below hb' hB).alloc (by omega) o
  have k2 := fun (o : Obj) => (k.below hb' hB).alloc (by omega) o
  go_wp2_with fail
  refine (sum_any _ B A D n m c d xs ys (h2 _) (k2 _) (by simp; omega) (by omega) (by omega)).mono ?_
  rintro e w2 ⟨A', k', c', zs, rfl, hL, hR, hb2⟩
  have HR := Lib.hid hR
  clear hR
  obtain ⟨hc2, hf2⟩ := bcell hb2
  have hz2 : w1.heap.size < w2.heap.size := by have := hb2.size; simp at this; omega
  have hcap := hL.cap
  have hln := hL.len
  by_cases hk : k' ≤ 600
  · go_wp2_with fail
    refine (limited_ok w2 A' k' c' hk).mono ?_
    rintro e w3 ⟨rfl, hb3⟩
    obtain ⟨hc3, hf3⟩ := bcell hb3
    have hz3 := hb3.size
    have hL3 := (hL.below hb3 (Nat.le_refl _)).more hz3
    have c0 : w3.cell? ⟨w.heap.size, 0, none⟩ = some (.int .i64 0) := by rw [hc3 w.heap.size 0 (by omega), hc2 w.heap.size 0 (by first | omega | (simp; omega))]; simp [go_sem, hc, hz]
    have c1 : w3.cell? ⟨w.heap.size, 1, none⟩ = some (.int .i64 0) := by rw [hc3 w.heap.size 1 (by omega), hc2 w.heap.size 1 (by first | omega | (simp; omega))]; simp [go_sem, hc, hz]
    have f0 : w3.frozen? ⟨w.heap.size, 0, none⟩ = false := by rw [hf3 w.heap.size 0 (by omega), hf2 w.heap.size 0 (by first | omega | (simp; omega))]; simp [go_sem, hf, hz]
    have f1 : w3.frozen? ⟨w.heap.size, 1, none⟩ = false := by rw [hf3 w.heap.size 1 (by omega), hf2 w.heap.size 1 (by first | omega | (simp; omega))]; simp [go_sem, hf, hz]
    clear hc hf hc2 hf2 hc3 hf3
    go_wp2_with fail
    refine bodyPost_ret (v := .tuple #[.slice A' k' c', flt 0 0]) (by simp [results, Tryz.results112, go_sem, c0, c1]) rfl (.inl ⟨fit_len HR.out hln.out hk, A', k', c', zs, rfl, ?_, HR.out, ?_⟩)
    · exact ((hL3.setI c0 _).setI (by rw [World.cell?_setCell_other _ _ _ _ (by simp)]; exact c1) _).more (by simp [World.setCell])
    · (repeat (first | exact Below.refl _ _ | exact hb3 | exact hb2 | exact hb | refine Below.setCell ?_ (by simp; done) _ | refine Below.alloc ?_ (by first | omega | (simp; done) | (simp; omega)) _ | refine Below.drew ?_ | refine below_drewN ?_ _ | refine Below.trans ?_ (Below.mono hb3 (by first | omega | (simp; done) | (simp; omega))) | refine Below.trans ?_ (Below.mono hb2 (by first | omega | (simp; done) | (simp; omega))) | refine Below.trans ?_ (Below.mono hb (by first | omega | (simp; done) | (simp; omega)))))
  · go_wp2_with fail
    refine (limited_bad w2 A' k' c' (by omega) (by omega)).mono ?_
    rintro e w3 ⟨rfl, hb3⟩
    obtain ⟨hc3, hf3⟩ := bcell hb3
    have hz3 := hb3.size
    have c0 : w3.cell? ⟨w.heap.size, 0, none⟩ = some (.int .i64 0) := by rw [hc3 w.heap.size 0 (by omega), hc2 w.heap.size 0 (by first | omega | (simp; omega))]; simp [go_sem, hc, hz]
    have c1 : w3.cell? ⟨w.heap.size, 1, none⟩ = some (.int .i64 0) := by rw [hc3 w.heap.size 1 (by omega), hc2 w.heap.size 1 (by first | omega | (simp; omega))]; simp [go_sem, hc, hz]
    have f0 : w3.frozen? ⟨w.heap.size, 0, none⟩ = false := by rw [hf3 w.heap.size 0 (by omega), hf2 w.heap.size 0 (by first | omega | (simp; omega))]; simp [go_sem, hf, hz]
    have f1 : w3.frozen? ⟨w.heap.size, 1, none⟩ = false := by rw [hf3 w.heap.size 1 (by omega), hf2 w.heap.size 1 (by first | omega | (simp; omega))]; simp [go_sem, hf, hz]
    clear hc hf hc2 hf2 hc3 hf3
    go_wp2_with fail
    refine bodyPost_ret (v := .tuple #[.slice none 0 0, flt 14 (-1)]) (by simp [results, Tryz.results112, go_sem, c0, c1]) rfl (.inr ⟨big_len HR.out hln.out (by omega), none, 0, 0, [], rfl, nil_lrd _, nil_rep, ?_⟩)
    (repeat (first | exact Below.refl _ _ | exact hb3 | exact hb2 | exact hb | refine Below.setCell ?_ (by simp; done) _ | refine Below.alloc ?_ (by first | omega | (simp; done) | (simp; omega)) _ | refine Below.drew ?_ | refine below_drewN ?_ _ | refine Below.trans ?_ (Below.mono hb3 (by first | omega | (simp; done) | (simp; omega))) | refine Below.trans ?_ (Below.mono hb2 (by first | omega | (simp; done) | (simp; omega))) | refine Below.trans ?_ (Below.mono hb (by first | omega | (simp; done) | (simp; omega)))))
set_option maxHeartbeats 1000000 in
theorem mul_ok (w : World) (B : Nat) (A D : Option Addr) (n m c d : Nat) (xs ys : List Nat) (h : LRd w B A n c xs) (k : LRd w B D m d ys) (hB : B ≤ w.heap.size) (hx : vld xs = true) (hy : vld ys = true) :
    Calls Tryz.prog 106 #[.slice A n c, .slice D m d] w (GivesB w (vb 4294967296 xs * vb 4294967296 ys)) := by
  have h1 := fun (o : Obj) => h.below (bl1 w o) hB
  have k1 := fun (o : Obj) => k.below (bl1 w o) hB
  have hn : n ≤ 600 := by have := (vld_top hx).2; have := h.len.out; omega
  have hm : m ≤ 600 := by have := (vld_top hy).2; have := k.len.out; omega
  go_enter Tryz.func106, Tryz.ntmps106
  go_wp2_with fail
  refine (checkBoth_ok _ B A D n m c d xs ys (h1 _) (k1 _) (by simp; omega) hx hy).mono ?_
  rintro e w1 ⟨rfl, hb⟩
  obtain ⟨hc, hf⟩ := bcell hb
  have hz : w.heap.size < w1.heap.size := by have := hb.size; simp at this; omega
  have hb' : Below w.heap.size w w1 := (bl1 w _).trans (hb.mono (by simp))
  have h2 := fun (o : Obj) => (h.below hb' hB).alloc (by omega) o
  have k2 := fun (o : Obj) => (k.below hb' hB).alloc (by omega) o
  go_wp2_with fail
  refine (product_any _ B A D n m c d xs ys (h2 _) (k2 _) (by simp; omega) (by omega) (by omega)).mono ?_
  rintro e w2 ⟨A', k', c', zs, rfl, hL, hR, hb2⟩
  have HR := Lib.hid hR
  clear hR
  obtain ⟨hc2, hf2⟩ := bcell hb2
  have hz2 : w1.heap.size < w2.heap.size := by have := hb2.size; simp at this; omega
  have hcap := hL.cap
  have hln := hL.len
  by_cases hk : k' ≤ 600
  · go_wp2_with fail
    refine (limited_ok w2 A' k' c' hk).mono ?_
    rintro e w3 ⟨rfl, hb3⟩
    obtain ⟨hc3, hf3⟩ := bcell hb3
    have hz3 := hb3.size
    have hL3 := (hL.below hb3 (Nat.le_refl _)).more hz3
    have c0 : w3.cell? ⟨w.heap.size, 0, none⟩ = some (.int .i64 0) := by rw [hc3 w.heap.size 0 (by omega), hc2 w.heap.size 0 (by first | omega | (simp; omega))]; simp [go_sem, hc, hz]
    have c1 : w3.cell? ⟨w.heap.size, 1, none⟩ = some (.int .i64 0) := by rw [hc3 w.heap.size 1 (by omega), hc2 w.heap.size 1 (by first | omega | (simp; omega))]; simp [go_sem, hc, hz]
    have f0 : w3.frozen? ⟨w.heap.size, 0, none⟩ = false := by rw [hf3 w.heap.size 0 (by omega), hf2 w.heap.size 0 (by first | omega | (simp; omega))]; simp [go_sem, hf, hz]
    have f1 : w3.frozen? ⟨w.heap.size, 1, none⟩ = false := by rw [hf3 w.heap.size 1 (by omega), hf2 w.heap.size 1 (by first | omega | (simp; omega))]; simp [go_sem, hf, hz]
    clear hc hf hc2 hf2 hc3 hf3
    go_wp2_with fail
    refine bodyPost_ret (v := .tuple #[.slice A' k' c', flt 0 0]) (by simp [results, Tryz.results106, go_sem, c0, c1]) rfl (.inl ⟨fit_len HR.out hln.out hk, A', k', c', zs, rfl, ?_, HR.out, ?_⟩)
    · exact ((hL3.setI c0 _).setI (by rw [World.cell?_setCell_other _ _ _ _ (by simp)]; exact c1) _).more (by simp [World.setCell])
    · (repeat (first | exact Below.refl _ _ | exact hb3 | exact hb2 | exact hb | refine Below.setCell ?_ (by simp; done) _ | refine Below.alloc ?_ (by first | omega | (simp; done) | (simp; omega)) _ | refine Below.drew ?_ | refine below_drewN ?_ _ | refine Below.trans ?_ (Below.mono hb3 (by first | omega | (simp; done) | (simp; omega))) | refine Below.trans ?_ (Below.mono hb2 (by first | omega | (simp; done) | (simp; omega))) | refine Below.trans ?_ (Below.mono hb (by first | omega | (simp; done) | (simp; omega)))))
  · go_wp2_with fail
    refine (limited_bad w2 A' k' c' (by omega) (by omega)).mono ?_
    rintro e w3 ⟨rfl, hb3⟩
    obtain ⟨hc3, hf3⟩ := bcell hb3
    have hz3 := hb3.size
    have c0 : w3.cell? ⟨w.heap.size, 0, none⟩ = some (.int .i64 0) := by rw [hc3 w.heap.size 0 (by omega), hc2 w.heap.size 0 (by first | omega | (simp; omega))]; simp [go_sem, hc, hz]
    have c1 : w3.cell? ⟨w.heap.size, 1, none⟩ = some (.int .i64 0) := by rw [hc3 w.heap.size 1 (by omega), hc2 w.heap.size 1 (by first | omega | (simp; omega))]; simp [go_sem, hc, hz]
    have f0 : w3.frozen? ⟨w.heap.size, 0, none⟩ = false := by rw [hf3 w.heap.size 0 (by omega), hf2 w.heap.size 0 (by first | omega | (simp; omega))]; simp [go_sem, hf, hz]
    have f1 : w3.frozen? ⟨w.heap.size, 1, none⟩ = false := by rw [hf3 w.heap.size 1 (by omega), hf2 w.heap.size 1 (by first | omega | (simp; omega))]; simp [go_sem, hf, hz]
    clear hc hf hc2 hf2 hc3 hf3
    go_wp2_with fail
    refine bodyPost_ret (v := .tuple #[.slice none 0 0, flt 14 (-1)]) (by simp [results, Tryz.results106, go_sem, c0, c1]) rfl (.inr ⟨big_len HR.out hln.out (by omega), none, 0, 0, [], rfl, nil_lrd _, nil_rep, ?_⟩)
    (repeat (first | exact Below.refl _ _ | exact hb3 | exact hb2 | exact hb | refine Below.setCell ?_ (by simp; done) _ | refine Below.alloc ?_ (by first | omega | (simp; done) | (simp; omega)) _ | refine Below.drew ?_ | refine below_drewN ?_ _ | refine Below.trans ?_ (Below.mono hb3 (by first | omega | (simp; done) | (simp; omega))) | refine Below.trans ?_ (Below.mono hb2 (by first | omega | (simp; done) | (simp; omega))) | refine Below.trans ?_ (Below.mono hb (by first | omega | (simp; done) | (simp; omega)))))
def SubPost (p q : Nat) (w : World) (e : Ending) (w' : World) : Prop := (q ≤ p ∧ GivesF w (p - q) 0 0 e w') ∨ (p < q ∧ GivesF w 0 4 (-2) e w')
def CmpV (p q : Nat) (r : Int) : Prop := (r = -1 ∧ p < q) ∨ (r = 0 ∧ p = q) ∨ (r = 1 ∧ q < p)
def CmpFPost (p q : Nat) (w : World) (e : Ending) (w' : World) : Prop := ∃ r, CmpV p q r ∧ GivesI w r 0 0 e w'
set_option maxHeartbeats 1000000 in
theorem cmp_ok (w : World) (B : Nat) (A D : Option Addr) (n m c d : Nat) (xs ys : List Nat) (h : LRd w B A n c xs) (k : LRd w B D m d ys) (hB : B ≤ w.heap.size) (hx : vld xs = true) (hy : vld ys = true) :
    Calls Tryz.prog 78 #[.slice A n c, .slice D m d] w (CmpFPost (vb 4294967296 xs) (vb 4294967296 ys) w) := by
  have h1 := fun (o : Obj) => h.below (bl1 w o) hB
  have k1 := fun (o : Obj) => k.below (bl1 w o) hB
  have hn : n ≤ 600 := by have := (vld_top hx).2; have := h.len.out; omega
  have hm : m ≤ 600 := by have := (vld_top hy).2; have := k.len.out; omega
  go_enter Tryz.func78, Tryz.ntmps78
  go_wp2_with fail
  refine (checkBoth_ok _ B A D n m c d xs ys (h1 _) (k1 _) (by simp; omega) hx hy).mono ?_
  rintro e w1 ⟨rfl, hb⟩
  obtain ⟨hc, hf⟩ := bcell hb
  have hz : w.heap.size < w1.heap.size := by have := hb.size; simp at this; omega
  have hb' : Below w.heap.size w w1 := (bl1 w _).trans (hb.mono (by simp))
  have h2 := fun (o : Obj) => (h.below hb' hB).alloc (by omega) o
  have k2 := fun (o : Obj) => (k.below hb' hB).alloc (by omega) o
  go_wp2_with fail
  refine (compare_any _ B A D n m c d xs ys (h2 _) (k2 _)).mono ?_
  rintro e w2 ⟨r, rfl, hr, q, rfl⟩
  have HR := Lib.hid (cmp_val hr h.len.out k.len.out h.lim k.lim (vld_top hx).1 (vld_top hy).1)
  clear hr
  go_wp2_with fail
  refine bodyPost_ret (v := .tuple #[.int .i64 r, flt 0 0]) (by simp [results, Tryz.results78, go_sem, hc, hf, hz]) rfl ⟨r, HR.out, rfl, ?_⟩
  (repeat (first | exact Below.refl _ _ | exact hb | refine Below.setCell ?_ (by simp; done) _ | refine Below.alloc ?_ (by first | omega | (simp; done) | (simp; omega)) _ | refine Below.drew ?_ | refine below_drewN ?_ _ | refine Below.trans ?_ (Below.mono hb (by first | omega | (simp; done) | (simp; omega)))))
set_option maxHeartbeats 1000000 in
theorem sub_ok (w : World) (B : Nat) (A D : Option Addr) (n m c d : Nat) (xs ys : List Nat) (h : LRd w B A n c xs) (k : LRd w B D m d ys) (hB : B ≤ w.heap.size) (hx : vld xs = true) (hy : vld ys = true) :
    Calls Tryz.prog 113 #[.slice A n c, .slice D m d] w (SubPost (vb 4294967296 xs) (vb 4294967296 ys) w) := by
  have h1 := fun (o : Obj) => h.below (bl1 w o) hB
  have k1 := fun (o : Obj) => k.below (bl1 w o) hB
  have hn : n ≤ 600 := by have := (vld_top hx).2; have := h.len.out; omega
  have hm : m ≤ 600 := by have := (vld_top hy).2; have := k.len.out; omega
  go_enter Tryz.func113, Tryz.ntmps113
  go_wp2_with fail
  refine (checkBoth_ok _ B A D n m c d xs ys (h1 _) (k1 _) (by simp; omega) hx hy).mono ?_
  rintro e w1 ⟨rfl, hb⟩
  obtain ⟨hc, hf⟩ := bcell hb
  have hz : w.heap.size < w1.heap.size := by have := hb.size; simp at this; omega
  have hb' : Below w.heap.size w w1 := (bl1 w _).trans (hb.mono (by simp))
  have h2 := fun (o : Obj) => (h.below hb' hB).alloc (by omega) o
  have k2 := fun (o : Obj) => (k.below hb' hB).alloc (by omega) o
  go_wp2_with fail
  refine (compare_any _ B A D n m c d xs ys (h2 _) (k2 _)).mono ?_
  rintro e w2 ⟨r, rfl, hr, q, rfl⟩
  have HR := Lib.hid (cmp_val hr h.len.out k.len.out h.lim k.lim (vld_top hx).1 (vld_top hy).1)
  clear hr
  by_cases hlt : r < 0
  · go_wp2_with fail
    refine bodyPost_ret (v := .tuple #[.slice none 0 0, flt 4 (-2)]) (by simp [results, Tryz.results113, go_sem, hc, hf, hz]) rfl (.inr ⟨by have := HR.out; omega, none, 0, 0, [], rfl, nil_lrd _, nil_rep, ?_⟩)
    (repeat (first | exact Below.refl _ _ | exact hb | refine Below.setCell ?_ (by simp; done) _ | refine Below.alloc ?_ (by first | omega | (simp; done) | (simp; omega)) _ | refine Below.drew ?_ | refine below_drewN ?_ _ | refine Below.trans ?_ (Below.mono hb (by first | omega | (simp; done) | (simp; omega)))))
  · have hle : vb 4294967296 ys ≤ vb 4294967296 xs := by have := HR.out; omega
    have hmn := long_len hle (vld_top hy).1 k.len.out h.len.out h.lim
    go_wp2_with fail
    refine (diff_any _ B A D n m c d xs ys ((h2 _).drewN q) ((k2 _).drewN q) (by first | omega | (simp; omega)) (by omega) hmn hle).mono ?_
    rintro e w2 ⟨A', k', c', zs, rfl, hL, hR, hb2⟩
    have HR2 := Lib.hid hR
    have HLE := Lib.hid hle
    clear hR hle
    obtain ⟨hc2, hf2⟩ := bcell hb2
    have hz2 : w1.heap.size < w2.heap.size := by have := hb2.size; simp at this; omega
    have c0 : w2.cell? ⟨w.heap.size, 0, none⟩ = some (.int .i64 0) := by rw [hc2 w.heap.size 0 (by first | omega | (simp; omega))]; simp [go_sem, hc, hz]
    have c1 : w2.cell? ⟨w.heap.size, 1, none⟩ = some (.int .i64 0) := by rw [hc2 w.heap.size 1 (by first | omega | (simp; omega))]; simp [go_sem, hc, hz]
    have f0 : w2.frozen? ⟨w.heap.size, 0, none⟩ = false := by rw [hf2 w.heap.size 0 (by first | omega | (simp; omega))]; simp [go_sem, hf, hz]
    have f1 : w2.frozen? ⟨w.heap.size, 1, none⟩ = false := by rw [hf2 w.heap.size 1 (by first | omega | (simp; omega))]; simp [go_sem, hf, hz]
    clear hc hf hc2 hf2
    go_wp2_with fail
    refine bodyPost_ret (v := .tuple #[.slice A' k' c', flt 0 0]) (by simp [results, Tryz.results113, go_sem, c0, c1]) rfl (.inl ⟨HLE.out, A', k', c', zs, rfl, ?_, HR2.out, ?_⟩)
    · exact ((hL.setI c0 _).setI (by rw [World.cell?_setCell_other _ _ _ _ (by simp)]; exact c1) _).more (by simp [World.setCell])
    · (repeat (first | exact Below.refl _ _ | exact hb2 | exact hb | refine Below.setCell ?_ (by simp; done) _ | refine Below.alloc ?_ (by first | omega | (simp; done) | (simp; omega)) _ | refine Below.drew ?_ | refine below_drewN ?_ _ | refine Below.trans ?_ (Below.mono hb2 (by first | omega | (simp; done) | (simp; omega))) | refine Below.trans ?_ (Below.mono hb (by first | omega | (simp; done) | (simp; omega)))))
def GivesQRF (w : World) (p q : Nat) (f1 f2 : Int) (e : Ending) (w' : World) : Prop :=
  ∃ A k c zs A2 k2 c2 zs2, e = .returned (.tuple #[.slice A k c, .slice A2 k2 c2, flt f1 f2]) ∧ LRd w' w'.heap.size A k c zs ∧ Rep 4294967296 zs p ∧ LRd w' w'.heap.size A2 k2 c2 zs2 ∧ Rep 4294967296 zs2 q ∧ Below w.heap.size w w'
def DmPost (xs ys : List Nat) (w : World) (e : Ending) (w' : World) : Prop :=
  (ys.length = 0 ∧ GivesQRF w 0 0 22 (-2) e w') ∨ (ys.length ≠ 0 ∧ GivesQRF w (vb 4294967296 xs / vb 4294967296 ys) (vb 4294967296 xs % vb 4294967296 ys) 0 0 e w')
set_option maxHeartbeats 1000000 in
theorem divmod_ok (w : World) (B : Nat) (A D : Option Addr) (n m c d : Nat) (xs ys : List Nat) (h : LRd w B A n c xs) (k : LRd w B D m d ys) (hB : B ≤ w.heap.size) (hx : vld xs = true) (hy : vld ys = true) :
    Calls Tryz.prog 92 #[.slice A n c, .slice D m d] w (DmPost xs ys w) := by
  have h1 := fun (o : Obj) => h.below (bl1 w o) hB
  have k1 := fun (o : Obj) => k.below (bl1 w o) hB
  have hn : n ≤ 600 := by have := (vld_top hx).2; have := h.len.out; omega
  have hm : m ≤ 600 := by have := (vld_top hy).2; have := k.len.out; omega
  go_enter Tryz.func92, Tryz.ntmps92
  go_wp2_with fail
  refine (checkBoth_ok _ B A D n m c d xs ys (h1 _) (k1 _) (by simp; omega) hx hy).mono ?_
  rintro e w1 ⟨rfl, hb⟩
  obtain ⟨hc, hf⟩ := bcell hb
  have hz : w.heap.size < w1.heap.size := by have := hb.size; simp at this; omega
  have hb' : Below w.heap.size w w1 := (bl1 w _).trans (hb.mono (by simp))
  have h2 := fun (o : Obj) => (h.below hb' hB).alloc (by omega) o
  have k2 := fun (o : Obj) => (k.below hb' hB).alloc (by omega) o
  by_cases h0 : m = 0
  · subst h0
    go_wp2_with fail
    refine bodyPost_ret (v := .tuple #[.slice none 0 0, .slice none 0 0, flt 22 (-2)]) (by simp [results, Tryz.results92, go_sem, hc, hf, hz]) rfl (.inl ⟨k.len.out, none, 0, 0, [], none, 0, 0, [], rfl, nil_lrd _, nil_rep, nil_lrd _, nil_rep, ?_⟩)
    (repeat (first | exact Below.refl _ _ | exact hb | refine Below.setCell ?_ (by simp; done) _ | refine Below.alloc ?_ (by first | omega | (simp; done) | (simp; omega)) _ | refine Below.drew ?_ | refine below_drewN ?_ _ | refine Below.trans ?_ (Below.mono hb (by first | omega | (simp; done) | (simp; omega)))))
  · have hf0 : ((m : Int) == 0) = false := beq_eq_false_iff_ne.2 (by omega)
    have hm0 : 0 < m := by omega
    clear h0
    go_wp2_with fail
    refine (divide_any _ B A D n m c d xs ys (h2 _) (k2 _) (by first | omega | (simp; omega)) (by omega) (vld_top hx).1 (vld_top hy).1 hm0).mono ?_
    rintro e w2 ⟨A', k', c', zs, A2, k3, c3, zs2, rfl, hL, hR, hL2, hR2, hb2⟩
    have HR := Lib.hid hR
    have HR2 := Lib.hid hR2
    clear hR hR2
    obtain ⟨hc2, hf2⟩ := bcell hb2
    have hz2 : w1.heap.size < w2.heap.size := by have := hb2.size; simp at this; omega
    have c0 : w2.cell? ⟨w.heap.size, 0, none⟩ = some (.int .i64 0) := by rw [hc2 w.heap.size 0 (by first | omega | (simp; omega))]; simp [go_sem, hc, hz]
    have c1 : w2.cell? ⟨w.heap.size, 1, none⟩ = some (.int .i64 0) := by rw [hc2 w.heap.size 1 (by first | omega | (simp; omega))]; simp [go_sem, hc, hz]
    have f0 : w2.frozen? ⟨w.heap.size, 0, none⟩ = false := by rw [hf2 w.heap.size 0 (by first | omega | (simp; omega))]; simp [go_sem, hf, hz]
    have f1 : w2.frozen? ⟨w.heap.size, 1, none⟩ = false := by rw [hf2 w.heap.size 1 (by first | omega | (simp; omega))]; simp [go_sem, hf, hz]
    clear hc hf hc2 hf2
    go_wp2_with fail
    refine bodyPost_ret (v := .tuple #[.slice A' k' c', .slice A2 k3 c3, flt 0 0]) (by simp [results, Tryz.results92, go_sem, c0, c1]) rfl (.inr ⟨by have := k.len.out; omega, A', k', c', zs, A2, k3, c3, zs2, rfl, ?_, HR.out, ?_, HR2.out, ?_⟩)
    · exact ((hL.setI c0 _).setI (by rw [World.cell?_setCell_other _ _ _ _ (by simp)]; exact c1) _).more (by simp [World.setCell])
    · exact ((hL2.setI c0 _).setI (by rw [World.cell?_setCell_other _ _ _ _ (by simp)]; exact c1) _).more (by simp [World.setCell])
    · (repeat (first | exact Below.refl _ _ | exact hb2 | exact hb | refine Below.setCell ?_ (by simp; done) _ | refine Below.alloc ?_ (by first | omega | (simp; done) | (simp; omega)) _ | refine Below.drew ?_ | refine below_drewN ?_ _ | refine Below.trans ?_ (Below.mono hb2 (by first | omega | (simp; done) | (simp; omega))) | refine Below.trans ?_ (Below.mono hb (by first | omega | (simp; done) | (simp; omega)))))
theorem clone_l {n : Nat} {xs : List Nat} {w w' : World} {e : Ending} (h : ClonePost n xs w e w') (hl : xs.length = n) (hx : Lim xs) :
    ∃ A c, e = .returned (.slice A n c) ∧ LRd w' w'.heap.size A n c xs ∧ Below w.heap.size w w' := by
  obtain ⟨A, c, rfl, h1, h2, hb, hr⟩ := h
  exact ⟨A, c, rfl, clone_lrd hl hx h1 h2 hr, hb⟩
theorem gcd_next {p v g : Nat} (h : Nat.gcd p v = g) : Nat.gcd v (p % v) = g := by
  rw [← h, Nat.gcd_comm p v, Nat.gcd_rec v p, Nat.gcd_comm]
theorem rep_small {xs : List Nat} {v n k : Nat} (h : Rep 4294967296 xs v) (hl : xs.length = n) {ys : List Nat} (hy : Lim ys) (hk : ys.length = k) (hv : v ≤ vb 4294967296 ys) : n ≤ k := by
  rw [← hl]
  refine h.length_le (by decide) (Nat.lt_of_le_of_lt hv ?_)
  rw [← hk]; exact vb_lt (by decide) hy
def GcdRel (g : Nat) (w : World) (v : Nat) (s7 s8 : Value) (wr : World) : Prop :=
  ∃ A1 k1 c1 xs A2 k2 c2 ys p, s7 = .slice A1 k1 c1 ∧ s8 = .slice A2 k2 c2 ∧ k1 ≤ 600 ∧ k2 ≤ 600 ∧ LRd wr wr.heap.size A1 k1 c1 xs ∧ LRd wr wr.heap.size A2 k2 c2 ys ∧ Hid (Rep 4294967296 xs p) ∧ Hid (Rep 4294967296 ys v) ∧ Hid (Nat.gcd p v = g) ∧ Below w.heap.size w wr
set_option maxHeartbeats 1000000 in
theorem gcd_ok (w : World) (B : Nat) (A D : Option Addr) (n m c d : Nat) (xs ys : List Nat) (h : LRd w B A n c xs) (k : LRd w B D m d ys) (hB : B ≤ w.heap.size) (hx : vld xs = true) (hy : vld ys = true) :
    Calls Tryz.prog 105 #[.slice A n c, .slice D m d] w (GivesF w (Nat.gcd (vb 4294967296 xs) (vb 4294967296 ys)) 0 0) := by
  have h1 := fun (o : Obj) => h.below (bl1 w o) hB
  have k1 := fun (o : Obj) => k.below (bl1 w o) hB
  have hn : n ≤ 600 := by have := (vld_top hx).2; have := h.len.out; omega
  have hm : m ≤ 600 := by have := (vld_top hy).2; have := k.len.out; omega
  obtain ⟨g, hg⟩ : ∃ g, g = Nat.gcd (vb 4294967296 xs) (vb 4294967296 ys) := ⟨_, rfl⟩
  have HG := Lib.hid hg
  rw [← hg]
  clear hg
  have hT1 := Lib.hid (vld_top hx).1
  have hT2 := Lib.hid (vld_top hy).1
  go_enter Tryz.func105, Tryz.ntmps105
  go_wp2_with fail
  refine (checkBoth_ok _ B A D n m c d xs ys (h1 _) (k1 _) (by simp; omega) hx hy).mono ?_
  rintro e w1 ⟨rfl, hb⟩
  obtain ⟨hc, hf⟩ := bcell hb
  have hz : w.heap.size < w1.heap.size := by have := hb.size; simp at this; omega
  have hb' : Below w.heap.size w w1 := (bl1 w _).trans (hb.mono (by simp))
  have h2 := fun (o : Obj) => (h.below hb' hB).alloc (by omega) o
  have k2 := fun (o : Obj) => (k.below hb' hB).alloc (by omega) o
  go_wp2_with fail
  refine (clone_any _ B A n c xs (h2 _) (by first | omega | (simp; omega)) (by omega)).mono ?_
  intro e w2 hcl
  obtain ⟨A1, c1, rfl, hL1, hb2⟩ := clone_l hcl h.len.out h.lim
  have hz2 : w1.heap.size < w2.heap.size := by have := hb2.size; simp at this; omega
  have k3 := (k2 _).below hb2 (by first | omega | (simp; omega))
  go_wp2_with fail
  refine (clone_any _ B D m d ys k3 (by omega) (by omega)).mono ?_
  intro e w3 hcl2
  obtain ⟨A2, c2, rfl, hL2, hb3⟩ := clone_l hcl2 k.len.out k.lim
  have hz3 := hb3.size
  have hL1' := (hL1.below hb3 (Nat.le_refl _)).more hz3
  obtain ⟨hc2, hf2⟩ := bcell hb2
  obtain ⟨hc3, hf3⟩ := bcell hb3
  have c0 : w3.cell? ⟨w.heap.size, 0, none⟩ = some (.int .i64 0) := by rw [hc3 w.heap.size 0 (by omega), hc2 w.heap.size 0 (by first | omega | (simp; omega))]; simp [go_sem, hc, hz]
  have c1' : w3.cell? ⟨w.heap.size, 1, none⟩ = some (.int .i64 0) := by rw [hc3 w.heap.size 1 (by omega), hc2 w.heap.size 1 (by first | omega | (simp; omega))]; simp [go_sem, hc, hz]
  have f0 : w3.frozen? ⟨w.heap.size, 0, none⟩ = false := by rw [hf3 w.heap.size 0 (by omega), hf2 w.heap.size 0 (by first | omega | (simp; omega))]; simp [go_sem, hf, hz]
  have f1 : w3.frozen? ⟨w.heap.size, 1, none⟩ = false := by rw [hf3 w.heap.size 1 (by omega), hf2 w.heap.size 1 (by first | omega | (simp; omega))]; simp [go_sem, hf, hz]
  have hbw3 : Below w.heap.size w w3 := by
    (repeat (first | exact Below.refl _ _ | exact hb3 | exact hb2 | exact hb | refine Below.trans ?_ (Below.mono hb3 (by first | omega | (simp; done) | (simp; omega))) | refine Below.trans ?_ (Below.mono hb2 (by first | omega | (simp; done) | (simp; omega))) | refine Below.alloc ?_ (by first | omega | (simp; done) | (simp; omega)) _ | exact hb'))
  clear hc hf hc2 hf2 hc3 hf3 hcl hcl2
  go_wp2_with fail
  go_loopg [7, 8] (vb 4294967296 ys) (fun v s7 s8 wr => GcdRel g w3 v s7 s8 wr)
  case atStart => exact ⟨_, _, _, _, _, _, _, _, _, rfl, rfl, hn, hm, hL1', hL2, ⟨h.lim, rfl, hT1.out⟩, ⟨k.lim, rfl, hT2.out⟩, HG.out.symm, Below.refl _ _⟩
  case round =>
    obtain ⟨B1, q1, e1, zs, B2, q2, e2, us, p, rfl, rfl, hq1, hq2, hZ, hU, hZr, hUr, hgcd, hbw⟩ := hrel
    have hsz := hbw.size
    have hcapz := hZ.cap
    have hcapu := hU.cap
    by_cases h0 : q2 = 0
    · subst h0
      have HV := Lib.hid (show gk = 0 by have := hUr.out.val; rw [← this, List.eq_nil_of_length_eq_zero hU.len.out, vb_nil])
      obtain ⟨hc4, hf4⟩ := bcell hbw
      have d0 := (hc4 w.heap.size 0 (by omega)).trans c0
      have d1 := (hc4 w.heap.size 1 (by omega)).trans c1'
      have g0 := (hf4 w.heap.size 0 (by omega)).trans f0
      have g1 := (hf4 w.heap.size 1 (by omega)).trans f1
      clear hc4 hf4 c0 c1' f0 f1
      go_wp2_with fail
      refine bodyPost_ret (v := .tuple #[.slice B1 q1 e1, flt 0 0]) (by simp [results, Tryz.results105, go_sem, d0, d1]) rfl ⟨B1, q1, e1, zs, rfl, ?_, ?_, ?_⟩
      · exact ((hZ.setI d0 _).setI (by rw [World.cell?_setCell_other _ _ _ _ (by simp)]; exact d1) _).more (by simp [World.setCell])
      · have := hgcd.out; rw [HV.out, Nat.gcd_zero_right] at this; rw [← this]; exact hZr.out
      · (repeat (first | exact Below.refl _ _ | exact hbw3 | refine Below.setCell ?_ (by simp; done) _ | refine Below.trans ?_ (Below.mono hbw (by first | omega | (simp; done) | (simp; omega)))))
    · have hq0 : 0 < q2 := by omega
      clear h0
      go_wp2_with fail
      refine (divide_any wr wr.heap.size B1 B2 q1 q2 e1 e2 zs us hZ hU (Nat.le_refl _) (by omega) hZr.out.top hUr.out.top hq0).mono ?_
      rintro e w5 ⟨A3, k3, c3, zs3, A4, k4, c4, zs4, rfl, hQ, hQr, hM, hMr, hb5⟩
      have hpos := Lib.hid (show 0 < gk from by
        rcases Nat.eq_zero_or_pos gk with e | e
        · exfalso
          have h7 := hUr.out
          rw [e] at h7
          have h8 := h7.length_le (m := 0) (by decide) (by decide)
          have := hU.len.out
          omega
        · exact e)
      rw [hUr.out.val, hZr.out.val] at hMr
      have HM := Lib.hid hMr
      clear hMr hQr hQ
      have hk4 : k4 ≤ q2 := rep_small HM.out hM.len.out hU.lim hU.len.out (by rw [hUr.out.val]; exact Nat.le_of_lt (Nat.mod_lt _ hpos.out))
      have hU5 := (hU.below hb5 (Nat.le_refl _)).more hb5.size
      have hb6 : Below w3.heap.size w3 w5 := hbw.trans (hb5.mono (by omega))
      go_wp2_with fail
      go_roundg (p % gk)
      case measure => exact Nat.mod_lt _ hpos.out
      case rel => exact ⟨_, _, _, _, _, _, _, _, _, rfl, rfl, hq2, by omega, hU5, hM, hUr, HM, gcd_next hgcd.out, hb6⟩
end Go.Proofs.YtfgkhdpdjclmkaaGreat
