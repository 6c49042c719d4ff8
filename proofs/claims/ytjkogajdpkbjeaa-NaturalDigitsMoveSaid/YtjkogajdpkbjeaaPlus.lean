/- The reference's Plus. -/
import Derived.Test.YtjkogajdpkbjeaaRefD
import Derived.Deep.QuietTactic
import Derived.BigQuiet
namespace Go.Proofs.Ytjkogajdpkbjeaa
open Go.RowKit
set_option maxHeartbeats 400000
set_option maxRecDepth 100000
set_option linter.unusedSimpArgs false
set_option linter.unusedVariables false

theorem own_next {w wr w1 : World} {v v' : Value} {zs : List Nat} {x : Int} {o : Obj} (hx : 0 ≤ x) (hb : Below w.heap.size w wr) (hown : wr.ownsRow w.heap.size 3 1 v zs.length (digs zs))
    (hown' : w1.ownsRow w.heap.size 3 1 v' (zs.length + 1) (digs zs ++ [.int .i64 x])) (hg : (wr.alloc o).grownBy w1 v.ownBlock) :
    w1.ownsRow w.heap.size 3 1 v' (zs ++ [x.toNat]).length (digs (zs ++ [x.toNat])) ∧ Below w.heap.size w w1 := by
  refine ⟨by rw [digs_snoc zs hx, List.length_append]; exact hown', ?_⟩
  exact (hb.alloc hb.size o).grown hg (by have := hb.size; simp; omega) (fun k hk => (hown.lt k hk).1)
theorem S_snoc_low {b : Nat} {zs : List Nat} {x k : Nat} (hk : k ≤ zs.length) : S b (fun i => (zs ++ [x]).getD i 0) k = S b (fun i => zs.getD i 0) k :=
  S_ext (fun j hj => by rw [getD_append, if_pos (by omega)])
theorem S_snoc {b : Nat} {zs : List Nat} {x k : Nat} (hk : zs.length = k) : S b (fun i => (zs ++ [x]).getD i 0) (k + 1) = S b (fun i => zs.getD i 0) k + x * b ^ k := by
  rw [S_succ, S_snoc_low (by omega), getD_append, if_neg (by omega), hk, Nat.sub_self]; rfl
theorem plus_nat {b k c d r x y z s t : Nat} (h : z + c * b ^ k = s + t) (e : r + b * d = c + x + y) : z + r * b ^ k + d * b ^ (k + 1) = (s + x * b ^ k) + (t + y * b ^ k) := by
  rw [Nat.pow_succ]
  generalize b ^ k = P at *
  grind
/-- k digits are done; behind the longer list there is a carry at most once. -/
def PlRel (M : Nat) (xs ys : List Nat) (w : World) (out carry i : Value) (wr : World) : Prop :=
  ∃ (k : Nat) (c : Int) (zs : List Nat), k ≤ M + 1 ∧ i = .int .i64 k ∧ carry = .int .i64 c ∧ 0 ≤ c ∧ c ≤ 1 ∧ (k = M + 1 → c = 0) ∧ wr.ownsRow w.heap.size 3 1 out zs.length (digs zs) ∧ Hid (zs.length = k) ∧ Dig 65536 zs ∧ Below w.heap.size w wr ∧
    Hid (S 65536 (fun i => zs.getD i 0) k + c.toNat * 65536 ^ k = S 65536 (fun i => xs.getD i 0) k + S 65536 (fun i => ys.getD i 0) k)
theorem plus_step {zs xs ys : List Nat} {k : Nat} {c t : Int} (hk : zs.length = k) (hc : 0 ≤ c) (ht : t = c + nth xs k + nth ys k)
    (h : S 65536 (fun i => zs.getD i 0) k + c.toNat * 65536 ^ k = S 65536 (fun i => xs.getD i 0) k + S 65536 (fun i => ys.getD i 0) k) :
    S 65536 (fun i => (zs ++ [(t % 65536).toNat]).getD i 0) (k + 1) + (t / 65536).toNat * 65536 ^ (k + 1) = S 65536 (fun i => xs.getD i 0) (k + 1) + S 65536 (fun i => ys.getD i 0) (k + 1) := by
  rw [S_snoc hk, S_succ, S_succ]
  refine plus_nat h ?_
  unfold nth at ht
  omega
theorem plus_last {zs xs ys : List Nat} {k : Nat} (hz : zs.length = k) (hx : xs.length ≤ k) (hy : ys.length ≤ k)
    (h : S 65536 (fun i => zs.getD i 0) k + (0 : Int).toNat * 65536 ^ k = S 65536 (fun i => xs.getD i 0) k + S 65536 (fun i => ys.getD i 0) k) : vb 65536 zs = vb 65536 xs + vb 65536 ys := by
  rw [vb_len hx, vb_len hy, vb_len (by omega)] at h
  simpa using h
theorem nth_out {xs : List Nat} {k : Nat} (h : xs.length ≤ k) : nth xs k = 0 := by unfold nth; rw [getD_none h]; rfl

set_option maxHeartbeats 4000000 in
theorem plus_any (w : World) (B : Nat) (A D : Option Addr) (n m c d M : Nat) (xs ys : List Nat) (h : DRd w B A n c xs) (k : DRd w B D m d ys) (hB : B ≤ w.heap.size) (hn : n ≤ M) (hm : m ≤ M) (hM : M ≤ 10000000000000) (hM2 : M = n ∨ M = m) :
    Calls Try.prog 20 #[.slice A n c, .slice D m d] w (GivesN w (vb 65536 xs + vb 65536 ys)) := by
  obtain ⟨i0, hi, hz0, hz1, hz2⟩ := info_parts info64
  have hcap := h.cap
  have hcap2 := k.cap
  have hxl := Lib.hid h.len.out
  have hyl := Lib.hid k.len.out
  go_enter Try.func20, Try.ntmps20
  go_wp2_with fail
  go_loopw [5, 6, 7] (PlRel M xs ys w) (fun _ _ i _ => M + 2 - (intOf i).toNat)
  case atStart => exact ⟨0, 0, [], by omega, rfl, rfl, by omega, by omega, fun _ => rfl, World.ownsRow_nil _ _ _ _, rfl, Dig.nil, Below.refl _ _, (by show _ = _; simp [S_zero])⟩
  case round =>
    obtain ⟨j, q, zs, hj, rfl, rfl, q0, q1, hq, hown, hzl, hzd, hbw, HS⟩ := hrel
    have HQ := Lib.hid hq
    have hzn : zs.length ≤ M + 1 := by have := hzl.out; omega
    have hsz := hbw.size
    clear hq
    by_cases h1 : j < n
    · by_cases h2 : j < m
      · obtain ⟨b, off, rfl, hb, hc⟩ := h.rd (by omega)
        have g1 := (hbw.cell (p := ⟨b, off + j, none⟩) (by show b < _; omega)).trans (hc j (by omega))
        have a1 := nth_nn xs j
        have a2 := h.lim.nth j
        clear hc
        obtain ⟨b', off', rfl, hb', hc'⟩ := k.rd (by omega)
        have g2 := (hbw.cell (p := ⟨b', off' + j, none⟩) (by show b' < _; omega)).trans (hc' j (by omega))
        have a3 := nth_nn ys j
        have a4 := k.lim.nth j
        clear hc'
        have ST := Lib.hid (plus_step (t := q + nth xs j + nth ys j) hzl.out q0 (by rfl) HS.out)
        have HCZ := Lib.hid (show j + 1 = M + 1 → (q + nth xs j + nth ys j) / 65536 = 0 by intro e; omega)
        have hzn2 : zs.length + 1 ≤ 10000000000002 := by omega
        go_wp2_with (at_builtin; refine wpList_append_own _ rfl _ _ 34 rfl w.heap.size 3 i0 (.int .i64 0) 1 8 Try.underlying34 hi hz0 hz1 hz2 rfl (by decide) _ _ _ rfl (hown.alloc _) ⟨wr.heap.size, 0, none⟩ 1 1 [.int .i64 ((q + nth xs j + nth ys j) % 65536)] rfl rfl (cell_one_new _ _ _) (fun u hu => by simp at hu; subst hu; rfl) (by unfold maxLen; omega) (by omega) (by first | (simp; omega) | omega) ?_; intro v' w1 hown' hgrow _)
        obtain ⟨ho, hb1⟩ := own_next (Int.emod_nonneg _ (by decide)) hbw hown hown' hgrow
        clear hown hown' hgrow
        go_wp2_with fail
        go_roundw
        case rel => exact ⟨j + 1, _, _, by omega, by go_num, rfl, Int.ediv_nonneg (by omega) (by decide), by omega, HCZ.out, ho, (by show _ = _; rw [List.length_append, hzl.out]; rfl), hzd.snoc (by omega), hb1, ST.out⟩
        case measure => simp [intOf]; omega

      · obtain ⟨b, off, rfl, hb, hc⟩ := h.rd (by omega)
        have g1 := (hbw.cell (p := ⟨b, off + j, none⟩) (by show b < _; omega)).trans (hc j (by omega))
        have a1 := nth_nn xs j
        have a2 := h.lim.nth j
        clear hc
        have HY := Lib.hid (nth_out (k := j) (by rw [hyl.out]; omega) : nth ys j = 0)
        have ST := Lib.hid (plus_step (t := q + nth xs j) hzl.out q0 (by rw [HY.out]; omega) HS.out)
        have HCZ := Lib.hid (show j + 1 = M + 1 → (q + nth xs j) / 65536 = 0 by intro e; omega)
        have hzn2 : zs.length + 1 ≤ 10000000000002 := by omega
        go_wp2_with (at_builtin; refine wpList_append_own _ rfl _ _ 34 rfl w.heap.size 3 i0 (.int .i64 0) 1 8 Try.underlying34 hi hz0 hz1 hz2 rfl (by decide) _ _ _ rfl (hown.alloc _) ⟨wr.heap.size, 0, none⟩ 1 1 [.int .i64 ((q + nth xs j) % 65536)] rfl rfl (cell_one_new _ _ _) (fun u hu => by simp at hu; subst hu; rfl) (by unfold maxLen; omega) (by omega) (by first | (simp; omega) | omega) ?_; intro v' w1 hown' hgrow _)
        obtain ⟨ho, hb1⟩ := own_next (Int.emod_nonneg _ (by decide)) hbw hown hown' hgrow
        clear hown hown' hgrow
        go_wp2_with fail
        go_roundw
        case rel => exact ⟨j + 1, _, _, by omega, by go_num, rfl, Int.ediv_nonneg (by omega) (by decide), by omega, HCZ.out, ho, (by show _ = _; rw [List.length_append, hzl.out]; rfl), hzd.snoc (by omega), hb1, ST.out⟩
        case measure => simp [intOf]; omega

    · by_cases h2 : j < m
      · obtain ⟨b', off', rfl, hb', hc'⟩ := k.rd (by omega)
        have g2 := (hbw.cell (p := ⟨b', off' + j, none⟩) (by show b' < _; omega)).trans (hc' j (by omega))
        have a3 := nth_nn ys j
        have a4 := k.lim.nth j
        clear hc'
        have HX := Lib.hid (nth_out (k := j) (by rw [hxl.out]; omega) : nth xs j = 0)
        have ST := Lib.hid (plus_step (t := q + nth ys j) hzl.out q0 (by rw [HX.out]; omega) HS.out)
        have HCZ := Lib.hid (show j + 1 = M + 1 → (q + nth ys j) / 65536 = 0 by intro e; omega)
        have hzn2 : zs.length + 1 ≤ 10000000000002 := by omega
        go_wp2_with (at_builtin; refine wpList_append_own _ rfl _ _ 34 rfl w.heap.size 3 i0 (.int .i64 0) 1 8 Try.underlying34 hi hz0 hz1 hz2 rfl (by decide) _ _ _ rfl (hown.alloc _) ⟨wr.heap.size, 0, none⟩ 1 1 [.int .i64 ((q + nth ys j) % 65536)] rfl rfl (cell_one_new _ _ _) (fun u hu => by simp at hu; subst hu; rfl) (by unfold maxLen; omega) (by omega) (by first | (simp; omega) | omega) ?_; intro v' w1 hown' hgrow _)
        obtain ⟨ho, hb1⟩ := own_next (Int.emod_nonneg _ (by decide)) hbw hown hown' hgrow
        clear hown hown' hgrow
        go_wp2_with fail
        go_roundw
        case rel => exact ⟨j + 1, _, _, by omega, by go_num, rfl, Int.ediv_nonneg (by omega) (by decide), by omega, HCZ.out, ho, (by show _ = _; rw [List.length_append, hzl.out]; rfl), hzd.snoc (by omega), hb1, ST.out⟩
        case measure => simp [intOf]; omega

      · by_cases h3 : 0 < q
        · have HX := Lib.hid (nth_out (k := j) (by rw [hxl.out]; omega) : nth xs j = 0)
          have HY := Lib.hid (nth_out (k := j) (by rw [hyl.out]; omega) : nth ys j = 0)
          have hjM : j ≤ M := by rcases Nat.lt_or_ge M j with e | e; have := HQ.out (by omega); omega; exact e
          have ST := Lib.hid (plus_step (t := q) hzl.out q0 (by rw [HX.out, HY.out]; omega) HS.out)
          have HCZ := Lib.hid (show j + 1 = M + 1 → (q) / 65536 = 0 by intro e; omega)
          have hzn2 : zs.length + 1 ≤ 10000000000002 := by omega
          go_wp2_with (at_builtin; refine wpList_append_own _ rfl _ _ 34 rfl w.heap.size 3 i0 (.int .i64 0) 1 8 Try.underlying34 hi hz0 hz1 hz2 rfl (by decide) _ _ _ rfl (hown.alloc _) ⟨wr.heap.size, 0, none⟩ 1 1 [.int .i64 (q % 65536)] rfl rfl (cell_one_new _ _ _) (fun u hu => by simp at hu; subst hu; rfl) (by unfold maxLen; omega) (by omega) (by first | (simp; omega) | omega) ?_; intro v' w1 hown' hgrow _)
          obtain ⟨ho, hb1⟩ := own_next (Int.emod_nonneg _ (by decide)) hbw hown hown' hgrow
          clear hown hown' hgrow
          go_wp2_with fail
          go_roundw
          case rel => exact ⟨j + 1, _, _, by omega, by go_num, rfl, Int.ediv_nonneg (by omega) (by decide), by omega, HCZ.out, ho, (by show _ = _; rw [List.length_append, hzl.out]; rfl), hzd.snoc (by omega), hb1, ST.out⟩
          case measure => simp [intOf]; omega

        · obtain rfl : q = 0 := by omega
          have HV := Lib.hid (plus_last (xs := xs) (ys := ys) hzl.out (by rw [hxl.out]; omega) (by rw [hyl.out]; omega) HS.out)
          obtain ⟨A', c', rfl, hc1, hc2⟩ := own_shape hown
          have hdr := own_drd hown hzd
          go_wp2_with fail
          refine (trimD_any _ _ _ _ _ _ hdr).mono ?_
          rintro e w' ⟨t, rfl, ht, rfl⟩
          go_wp2_with fail
          go_ret
          exact gives_own hown hzd ht hbw HV.out
end Go.Proofs.Ytjkogajdpkbjeaa
