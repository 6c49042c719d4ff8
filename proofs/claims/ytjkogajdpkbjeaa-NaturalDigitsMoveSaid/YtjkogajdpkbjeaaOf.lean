/- The reference's Of and Limbs. -/
import Derived.Test.YtjkogajdpkbjeaaPlus
import Derived.Deep.QuietTactic
import Derived.BigQuiet
import Derived.Deep.RegionLaw
import Derived.Deep.AppendLies
namespace Go.Proofs.Ytjkogajdpkbjeaa
open Go.RowKit
set_option maxHeartbeats 400000
set_option maxRecDepth 100000
set_option linter.unusedSimpArgs false
set_option linter.unusedVariables false

/-- Each limb is two digits. -/
theorem of_nat {k : Nat} {z x s u v : Nat} (h : z = s) (hk : u + 65536 * v = x) : z + u * 65536 ^ (2 * k) + v * 65536 ^ (2 * k + 1) = s + x * 4294967296 ^ k := by
  have e : (4294967296 : Nat) ^ k = 65536 ^ (2 * k) := by rw [Nat.pow_mul]
  rw [e, Nat.pow_succ, h, ← hk]
  generalize 65536 ^ (2 * k) = P
  grind
def OfRel (n : Nat) (xs : List Nat) (w : World) (out i : Value) (wr : World) : Prop :=
  ∃ (k : Nat) (zs : List Nat), k ≤ n ∧ i = .int .i64 k ∧ wr.ownsRow w.heap.size 3 1 out zs.length (digs zs) ∧ Hid (zs.length = 2 * k) ∧ Dig 65536 zs ∧ Below w.heap.size w wr ∧
    Hid (S 65536 (fun i => zs.getD i 0) (2 * k) = S 4294967296 (fun i => xs.getD i 0) k)
theorem of_step {zs xs : List Nat} {k : Nat} (hk : zs.length = 2 * k) (h : S 65536 (fun i => zs.getD i 0) (2 * k) = S 4294967296 (fun i => xs.getD i 0) k) :
    S 65536 (fun i => (zs ++ [(nth xs k % 65536).toNat, (nth xs k / 65536).toNat]).getD i 0) (2 * (k + 1)) = S 4294967296 (fun i => xs.getD i 0) (k + 1) := by
  have e : zs ++ [(nth xs k % 65536).toNat, (nth xs k / 65536).toNat] = (zs ++ [(nth xs k % 65536).toNat]) ++ [(nth xs k / 65536).toNat] := by simp
  rw [e, show 2 * (k + 1) = (2 * k + 1) + 1 by omega, S_snoc (by rw [List.length_append, hk]; rfl), S_snoc hk, S_succ]
  refine of_nat h ?_
  unfold nth
  omega
theorem of_dig {zs : List Nat} (h : Dig 65536 zs) (x : Int) (hx : 0 ≤ x ∧ x < 4294967296) : Dig 65536 (zs ++ [(x % 65536).toNat, (x / 65536).toNat]) := by
  intro y hy
  rcases List.mem_append.1 hy with e | e
  · exact h y e
  · simp only [List.mem_cons, List.not_mem_nil, or_false] at e
    rcases e with e | e <;> omega
theorem cells_two (w : World) (a b : Value) (t : TypeId) : ∀ (j : Nat) (u : Value), [a, b][j]? = some u → (w.alloc (.cells #[a, b] t)).cell? ((⟨w.heap.size, 0, none⟩ : Addr).add j) = some u := by
  intro j u hu
  rw [add_mk, Row.cell (Row.new w t [a, b])]
  simpa using hu
theorem own_next2 {w wr w1 : World} {v v' : Value} {zs : List Nat} {x y : Int} {o : Obj} (hx : 0 ≤ x) (hy : 0 ≤ y) (hb : Below w.heap.size w wr) (hown : wr.ownsRow w.heap.size 3 1 v zs.length (digs zs))
    (hown' : w1.ownsRow w.heap.size 3 1 v' (zs.length + 2) (digs zs ++ [.int .i64 x, .int .i64 y])) (hg : (wr.alloc o).grownBy w1 v.ownBlock) :
    w1.ownsRow w.heap.size 3 1 v' (zs ++ [x.toNat, y.toNat]).length (digs (zs ++ [x.toNat, y.toNat])) ∧ Below w.heap.size w w1 := by
  have e1 : ((x.toNat : Nat) : Int) = x := Int.toNat_of_nonneg hx
  have e2 : ((y.toNat : Nat) : Int) = y := Int.toNat_of_nonneg hy
  refine ⟨by rw [List.length_append]; simpa [digs, e1, e2] using hown', ?_⟩
  exact (hb.alloc hb.size o).grown hg (by have := hb.size; simp; omega) (fun k hk => (hown.lt k hk).1)

set_option maxHeartbeats 4000000 in
theorem of_any (w : World) (B : Nat) (A : Option Addr) (n c : Nat) (xs : List Nat) (h : LRd w B A n c xs) (hB : B ≤ w.heap.size) (hM : n ≤ 4000000000000) :
    Calls Try.prog 17 #[.slice A n c] w (GivesN w (vb 4294967296 xs)) := by
  obtain ⟨i0, hi, hz0, hz1, hz2⟩ := info_parts info64
  have hcap := h.cap
  have hxl := Lib.hid h.len.out
  go_enter Try.func17, Try.ntmps17
  go_wp2_with fail
  go_loopw [3, 4] (OfRel n xs w) (fun _ i _ => n - (intOf i).toNat)
  case atStart => exact ⟨0, [], by omega, rfl, World.ownsRow_nil _ _ _ _, rfl, Dig.nil, Below.refl _ _, (by show _ = _; simp [S_zero])⟩
  case round =>
    obtain ⟨j, zs, hj, rfl, hown, hzl, hzd, hbw, HS⟩ := hrel
    have hzn : zs.length ≤ 2 * n := by have := hzl.out; omega
    have hsz := hbw.size
    by_cases h1 : j < n
    · obtain ⟨b, off, rfl, hb, hc⟩ := h.rd (by omega)
      have g1 := (hbw.cell (p := ⟨b, off + j, none⟩) (by show b < _; omega)).trans (hc j (by omega))
      have a1 := nth_nn xs j
      have a2 := h.lim.nth j
      have ST := Lib.hid (of_step hzl.out HS.out)
      clear hc
      go_wp2_with fail
      have t1 : (nth xs j).tmod 65536 = nth xs j % 65536 := Int.tmod_eq_emod_of_nonneg a1
      have t2 : (nth xs j).tdiv 65536 = nth xs j / 65536 := Int.tdiv_eq_ediv_of_nonneg a1
      have e1 : IntKind.i64.wrap ((nth xs j).tmod 65536) = nth xs j % 65536 := by rw [t1]; exact IntWalk.i64_in _ (by omega)
      have e2 : IntKind.i64.wrap (IntKind.u32.wrap ((nth xs j).tdiv 65536)) = nth xs j / 65536 := by rw [t2, IntWalk.u32_in _ (by omega)]; exact IntWalk.i64_in _ (by omega)
      clear t1 t2
      go_region_law (refine step_append_lies _ rfl (.tmp 11) (.tmp 24) 34 rfl w.heap.size 3 i0 (.int .i64 0) 1 8 Try.underlying34 hi hz0 hz1 hz2 rfl (by decide) _ _ _ (by rfl) (hown.alloc _).drew ⟨wr.heap.size, 0, none⟩ 2 2 [.int .i64 (nth xs j % 65536), .int .i64 (nth xs j / 65536)] (by rfl) rfl (by exact cells_two wr _ _ _) (fun u hu => by simp at hu; rcases hu with rfl | rfl <;> rfl) (by omega) (by unfold maxLen; omega) (by omega) (by first | (simp; omega) | omega) _ rfl ?_; intro g cap w1 hown' hgrow _ _)
      all_goals
        obtain ⟨ho, hb1⟩ := own_next2 (Int.emod_nonneg _ (by decide)) (Int.ediv_nonneg a1 (by decide)) hbw hown hown' ⟨hgrow.os, hgrow.tape, hgrow.output, hgrow.size, hgrow.block⟩
        clear hown hown' hgrow
        go_wp2_with fail
        go_roundw
        case rel => exact ⟨j + 1, _, by omega, by go_num, ho, (by show _ = _; rw [List.length_append, hzl.out]; simp; omega), of_dig hzd (nth xs j) ⟨a1, a2⟩, hb1, ST.out⟩
        case measure => simp [intOf]; omega
    · obtain rfl : j = n := by omega
      have HV := Lib.hid (show vb 65536 zs = vb 4294967296 xs by unfold vb; rw [hzl.out, hxl.out]; exact HS.out)
      obtain ⟨A', c', rfl, hc1, hc2⟩ := own_shape hown
      have hdr := own_drd hown hzd
      go_wp2_with fail
      refine (trimD_any _ _ _ _ _ _ hdr).mono ?_
      rintro e w' ⟨t, rfl, ht, rfl⟩
      go_wp2_with fail
      go_ret
      exact gives_own hown hzd ht hbw HV.out

/-- Two digits are a limb. -/
theorem li_nat {k z s u v x : Nat} (h : z = s) (hx : x = u + 65536 * v) : z + x * 4294967296 ^ k = s + u * 65536 ^ (2 * k) + v * 65536 ^ (2 * k + 1) := by
  have e : (4294967296 : Nat) ^ k = 65536 ^ (2 * k) := by rw [Nat.pow_mul]
  rw [e, Nat.pow_succ, h, hx]
  generalize 65536 ^ (2 * k) = P
  grind
def LiRel (n : Nat) (xs : List Nat) (w : World) (out i : Value) (wr : World) : Prop :=
  ∃ (k : Nat) (zs : List Nat), 2 * k ≤ n + 1 ∧ i = .int .i64 (2 * (k : Int)) ∧ wr.ownsRow w.heap.size 58 1 out zs.length (limbs zs) ∧ Hid (zs.length = k) ∧ Lim zs ∧ Below w.heap.size w wr ∧
    Hid (S 4294967296 (fun i => zs.getD i 0) k = S 65536 (fun i => xs.getD i 0) (2 * k)) ∧ Hid (∀ i, i < k → zs.getD i 0 = xs.getD (2 * i) 0 + 65536 * xs.getD (2 * i + 1) 0)
theorem li_step {zs xs : List Nat} {k : Nat} {x : Int} (hk : zs.length = k) (hx : x = nth xs (2 * k) + 65536 * nth xs (2 * k + 1)) (h : S 4294967296 (fun i => zs.getD i 0) k = S 65536 (fun i => xs.getD i 0) (2 * k)) :
    S 4294967296 (fun i => (zs ++ [x.toNat]).getD i 0) (k + 1) = S 65536 (fun i => xs.getD i 0) (2 * (k + 1)) := by
  rw [show 2 * (k + 1) = (2 * k + 1) + 1 by omega, S_snoc hk, S_succ, S_succ]
  refine li_nat h ?_
  unfold nth at hx
  omega
theorem li_all {zs xs : List Nat} {k : Nat} {x : Int} (hk : zs.length = k) (hx : x = nth xs (2 * k) + 65536 * nth xs (2 * k + 1)) (h : ∀ i, i < k → zs.getD i 0 = xs.getD (2 * i) 0 + 65536 * xs.getD (2 * i + 1) 0) :
    ∀ i, i < k + 1 → (zs ++ [x.toNat]).getD i 0 = xs.getD (2 * i) 0 + 65536 * xs.getD (2 * i + 1) 0 := by
  intro i hi
  rw [getD_append]
  rcases Nat.lt_or_ge i k with e | e
  · rw [if_pos (by omega)]; exact h i e
  · obtain rfl : i = k := by omega
    rw [if_neg (by omega), hk, Nat.sub_self]
    show x.toNat = _
    unfold nth at hx
    omega
theorem li_rep {zs xs : List Nat} {k n p : Nat} (hr : Rep 65536 xs p) (hn : xs.length = n) (hk : zs.length = k) (h1 : n ≤ 2 * k) (h2 : 2 * k ≤ n + 1) (hL : Lim zs) (h : S 4294967296 (fun i => zs.getD i 0) k = S 65536 (fun i => xs.getD i 0) (2 * k)) (ha : ∀ i, i < k → zs.getD i 0 = xs.getD (2 * i) 0 + 65536 * xs.getD (2 * i + 1) 0) : Rep 4294967296 zs p := by
  refine ⟨hL, ?_, fun m hm => ?_⟩
  · rw [← hr.val, ← vb_len (xs := xs) (n := 2 * k) (by omega), ← h]; unfold vb; rw [hk]
  · rw [ha m (by omega)]
    obtain ⟨t, ht⟩ : ∃ t, xs.length = t + 1 := ⟨xs.length - 1, by omega⟩
    have h3 := hr.top t ht
    rcases (show t = 2 * m ∨ t = 2 * m + 1 by omega) with e | e
    · rw [← e]; omega
    · rw [← e]; omega
theorem limbs_snoc (zs : List Nat) {v : Int} (hv : 0 ≤ v) : limbs (zs ++ [v.toNat]) = limbs zs ++ [.int .u32 v] := by
  have e : ((v.toNat : Nat) : Int) = v := Int.toNat_of_nonneg hv
  simp [limbs, e]
theorem ownL_next {w wr w1 : World} {v v' : Value} {zs : List Nat} {x : Int} {o : Obj} (hx : 0 ≤ x) (hb : Below w.heap.size w wr) (hown : wr.ownsRow w.heap.size 58 1 v zs.length (limbs zs))
    (hown' : w1.ownsRow w.heap.size 58 1 v' (zs.length + 1) (limbs zs ++ [.int .u32 x])) (hg : (wr.alloc o).grownBy w1 v.ownBlock) :
    w1.ownsRow w.heap.size 58 1 v' (zs ++ [x.toNat]).length (limbs (zs ++ [x.toNat])) ∧ Below w.heap.size w w1 := by
  refine ⟨by rw [limbs_snoc zs hx, List.length_append]; exact hown', ?_⟩
  exact (hb.alloc hb.size o).grown hg (by have := hb.size; simp; omega) (fun k hk => (hown.lt k hk).1)
theorem own_lrd {w : World} {base n c : Nat} {A : Option Addr} {zs : List Nat} (h : w.ownsRow base 58 1 (.slice A n c) n (limbs zs)) (hd : Lim zs) : LRd w w.heap.size A n c zs := by
  have hl : zs.length = n := by have := h.1; rw [List.length_map] at this; omega
  obtain ⟨A', c', e, h1, h2⟩ := own_shape h
  injection e with e1 e2 e3
  subst e3
  have hc : n ≤ c ∧ c ≤ 9223372036854775807 := ⟨h1, h2⟩
  rcases Nat.eq_zero_or_pos n with e | e
  · subst e
    exact ⟨hl, hc, hd, fun h0 => absurd h0 (by omega)⟩
  · obtain ⟨g, rfl, _, hR, _⟩ := R32.of_own h e
    have := hR.lrd0 hd (B := w.heap.size) (n := n) (c := c) hR.lt (by omega) hc
    rwa [List.take_of_length_le (by omega)] at this
theorem Lim.snoc {cs : List Nat} (h : Lim cs) {x : Nat} (hx : x < 4294967296) : Lim (cs ++ [x]) := by
  intro y hy
  rcases List.mem_append.1 hy with h1 | h1
  · exact h y h1
  · rw [List.mem_singleton] at h1; omega
theorem Lim.nil : Lim [] := by intro x hx; cases hx

set_option maxHeartbeats 4000000 in
theorem limbs_any (w : World) (B : Nat) (A : Option Addr) (n c p : Nat) (xs : List Nat) (h : DRd w B A n c xs) (hB : B ≤ w.heap.size) (hM : n ≤ 4000000000000) (hr : Rep 65536 xs p) :
    Calls Try.prog 26 #[.slice A n c] w (GivesL w p) := by
  obtain ⟨i0, hi, hz0, hz1, hz2⟩ := info_parts info32
  have hcap := h.cap
  have hxl := Lib.hid h.len.out
  go_enter Try.func26, Try.ntmps26
  go_wp2_with fail
  go_loopw [3, 4] (LiRel n xs w) (fun _ i _ => n + 1 - (intOf i).toNat)
  case atStart => exact ⟨0, [], by omega, rfl, World.ownsRow_nil _ _ _ _, rfl, Lim.nil, Below.refl _ _, (by show _ = _; simp [S_zero]), fun i hi => by omega⟩
  case round =>
    obtain ⟨j, zs, hj, rfl, hown, hzl, hzd, hbw, HS, HA⟩ := hrel
    have hzn : zs.length ≤ n := by have := hzl.out; omega
    have hsz := hbw.size
    by_cases h1 : 2 * j < n
    · obtain ⟨b, off, rfl, hb, hc⟩ := h.rd (by omega)
      have g1 := (hbw.cell (p := ⟨b, off + 2 * j, none⟩) (by show b < _; omega)).trans (hc (2 * j) (by omega))
      have a1 := nth_nn xs (2 * j)
      have a2 := h.lim.nth (2 * j)
      by_cases h2 : 2 * j + 1 < n
      · have g2 := (hbw.cell (p := ⟨b, off + (2 * j + 1), none⟩) (by show b < _; omega)).trans (hc (2 * j + 1) (by omega))
        have a3 := nth_nn xs (2 * j + 1)
        have a4 := h.lim.nth (2 * j + 1)
        have ST := Lib.hid (li_step (x := nth xs (2 * j) + nth xs (2 * j + 1) * 65536) hzl.out (by omega) HS.out)
        have SA := Lib.hid (li_all (x := nth xs (2 * j) + nth xs (2 * j + 1) * 65536) hzl.out (by omega) HA.out)
        clear hc
        go_wp2_with (at_builtin; refine wpList_append_own _ rfl _ _ 22 rfl w.heap.size 58 i0 (.int .u32 0) 1 4 Try.underlying22 hi hz0 hz1 hz2 rfl (by decide) _ _ _ rfl (hown.alloc _) ⟨wr.heap.size, 0, none⟩ 1 1 [.int .u32 (nth xs (2 * j) + nth xs (2 * j + 1) * 65536)] rfl rfl (cell_one_new _ _ _) (fun u hu => by simp at hu; subst hu; rfl) (by unfold maxLen; omega) (by omega) (by first | (simp; omega) | omega) ?_; intro v' w1 hown' hgrow _)
        obtain ⟨ho, hb1⟩ := ownL_next (by omega) hbw hown hown' hgrow
        clear hown hown' hgrow
        go_wp2_with fail
        go_roundw
        case rel => exact ⟨j + 1, _, by omega, (by first | (congr 1; done) | (congr 1; omega)), ho, (by show _ = _; rw [List.length_append, hzl.out]; rfl), hzd.snoc (by omega), hb1, ST.out, SA.out⟩
        case measure => simp [intOf]; omega
      · have HX := Lib.hid (nth_out (k := 2 * j + 1) (by rw [hxl.out]; omega) : nth xs (2 * j + 1) = 0)
        have ST := Lib.hid (li_step (x := nth xs (2 * j)) hzl.out (by rw [HX.out]; omega) HS.out)
        have SA := Lib.hid (li_all (x := nth xs (2 * j)) hzl.out (by rw [HX.out]; omega) HA.out)
        clear hc
        go_wp2_with (at_builtin; refine wpList_append_own _ rfl _ _ 22 rfl w.heap.size 58 i0 (.int .u32 0) 1 4 Try.underlying22 hi hz0 hz1 hz2 rfl (by decide) _ _ _ rfl (hown.alloc _) ⟨wr.heap.size, 0, none⟩ 1 1 [.int .u32 (nth xs (2 * j))] rfl rfl (cell_one_new _ _ _) (fun u hu => by simp at hu; subst hu; rfl) (by unfold maxLen; omega) (by omega) (by first | (simp; omega) | omega) ?_; intro v' w1 hown' hgrow _)
        obtain ⟨ho, hb1⟩ := ownL_next (by omega) hbw hown hown' hgrow
        clear hown hown' hgrow
        go_wp2_with fail
        go_roundw
        case rel => exact ⟨j + 1, _, by omega, (by first | (congr 1; done) | (congr 1; omega)), ho, (by show _ = _; rw [List.length_append, hzl.out]; rfl), hzd.snoc (by omega), hb1, ST.out, SA.out⟩
        case measure => simp [intOf]; omega
    · obtain ⟨A', c', rfl, hc1, hc2⟩ := own_shape hown
      have hdr := own_lrd hown hzd
      have HR := Lib.hid (li_rep hr hxl.out hzl.out (by omega) (by omega) hzd HS.out HA.out)
      go_wp2_with fail
      go_ret
      exact ⟨A', _, c', zs, rfl, hdr, HR.out, hbw⟩
end Go.Proofs.Ytjkogajdpkbjeaa
