/- The reference's Read and Numbers. -/
import Derived.Test.YtjkogajdpkbjeaaDig2
import Derived.Test.YtjkogajdpkbjeaaRefCmp
namespace Go.Proofs.Ytjkogajdpkbjeaa
open Go.RowKit
set_option maxHeartbeats 400000
set_option maxRecDepth 100000
set_option linter.unusedSimpArgs false
set_option linter.unusedVariables false

theorem max_ex (a b : Nat) : ∃ M, a ≤ M ∧ b ≤ M ∧ (M = a ∨ M = b) := by
  rcases Nat.le_total a b with e | e
  · exact ⟨b, e, Nat.le_refl _, .inr rfl⟩
  · exact ⟨a, Nat.le_refl _, e, .inl rfl⟩
/-- The value of the first i digits, the most significant one first. -/
def hv (y : Nat) (xs : List Nat) (i : Nat) : Nat := vb y (xs.take i).reverse
theorem hv_zero (y : Nat) (xs : List Nat) : hv y xs 0 = 0 := by unfold hv; simp [vb_nil]
theorem hv_succ {y i : Nat} {xs : List Nat} (h : i < xs.length) : hv y xs (i + 1) = hv y xs i * y + xs.getD i 0 := by
  unfold hv
  rw [List.take_succ_eq_append_getElem h, List.reverse_append, List.reverse_singleton, List.singleton_append, vb_cons, Nat.mul_comm, Nat.add_comm, List.getD_eq_getElem?_getD, List.getElem?_eq_getElem h]
  rfl
theorem hv_all {y n : Nat} {xs : List Nat} (h : xs.length = n) : hv y xs n = vb y xs.reverse := by unfold hv; rw [List.take_of_length_le (by omega)]
theorem hv_lt {y i : Nat} {xs : List Nat} (hd : Dig y xs) (hy : 0 < y) (hi : i ≤ xs.length) : hv y xs i < y ^ i := by
  have := vb_lt (b := y) (xs := (xs.take i).reverse) hy (fun x hx => hd x (List.mem_of_mem_take (List.mem_reverse.1 hx)))
  rw [List.length_reverse, List.length_take, Nat.min_eq_left hi] at this
  exact this
theorem hv_lt2 {y i : Nat} {xs : List Nat} (hd : Dig y xs) (hy : 0 < y ∧ y ≤ 65536) (hi : i ≤ xs.length) : hv y xs i < 65536 ^ i :=
  Nat.lt_of_lt_of_le (hv_lt hd hy.1 hi) (Nat.pow_le_pow_left hy.2 _)
def RdRel (n y : Nat) (xs : List Nat) (w : World) (out i : Value) (wr : World) : Prop :=
  ∃ (j : Nat), ∃ A k c zs, j ≤ n ∧ i = .int .i64 (j : Int) ∧ out = .slice A k c ∧ DRd wr wr.heap.size A k c zs ∧ Hid (Rep 65536 zs (hv y xs j)) ∧ Below w.heap.size w wr
theorem s_at {W v : World} {a : Addr} {u : Value} (h : Below W.heap.size W v) (ha : a.block < W.heap.size) (hc : W.cell? a = some u) : Below W.heap.size W v ∧ v.cell? a = some u := ⟨h, (h.cell ha).trans hc⟩
theorem s_nx {W v v' : World} {a : Addr} {u : Value} (h : Below W.heap.size W v) (hb : Below v.heap.size v v') (ha : a.block < W.heap.size) (hc : W.cell? a = some u) : Below W.heap.size W v' ∧ v'.cell? a = some u := s_at (s_next h hb (Nat.le_refl _)) ha hc

set_option maxHeartbeats 4000000 in
theorem read_any (w : World) (B : Nat) (A : Option Addr) (n c y : Nat) (xs : List Nat) (h : DRd w B A n c xs) (hB : B ≤ w.heap.size) (hn : n ≤ 100000000000) (hd : Dig y xs) (hy : 2 ≤ y ∧ y ≤ 36) :
    Calls Try.prog 38 #[.slice A n c, .int .i64 (y : Int)] w (GivesN w (vb y xs.reverse)) := by
  have hcap := h.cap
  have hxl := Lib.hid h.len.out
  go_enter Try.func38, Try.ntmps38
  go_wp2_with fail
  go_loopw [5, 6] (RdRel n y xs w) (fun _ i _ => n - (intOf i).toNat)
  case atStart => exact ⟨0, none, 0, 0, [], by omega, rfl, rfl, ⟨rfl, by omega, Dig.nil, fun h0 => absurd h0 (by omega)⟩, by rw [hv_zero]; exact ⟨Dig.nil, rfl, Top.nil⟩, Below.refl _ _⟩
  case round =>
    obtain ⟨i, A1, k1, c1, zs, hi, rfl, rfl, hO, hOr, hbw⟩ := hrel
    have hsz := hbw.size
    have hco := hO.cap
    by_cases h1 : i < n
    · obtain ⟨b, off, rfl, hb, hc⟩ := h.rd (by omega)
      obtain ⟨d, hd0⟩ : ∃ d, d = xs.getD i 0 := ⟨_, rfl⟩
      have HD := Lib.hid hd0
      have g1 : wr.cell? ⟨b, off + i, none⟩ = some (.int .i64 (d : Int)) := (hbw.cell (p := ⟨b, off + i, none⟩) (by show b < _; omega)).trans (by
        have := hc i (by omega)
        unfold nth at this
        rw [hd0]
        exact this)
      have hbb : b < wr.heap.size := by omega
      have hdi : d < 65536 := by have := Dig.at_ h.lim (by decide) i; omega
      have HV := Lib.hid (show hv y xs (i + 1) = hv y xs i * y + d by rw [hd0]; exact hv_succ (by rw [hxl.out]; exact h1))
      have HL := Lib.hid (hv_lt2 (i := i + 1) hd (by omega) (by rw [hxl.out]; omega))
      have hk1 : k1 ≤ i := rep_lenD hOr.out hO.len.out (hv_lt2 hd (by omega) (by rw [hxl.out]; omega))
      have G0 : Below wr.heap.size wr wr.drew := Below.drew (Below.refl _ _)
      have hyn : (y : Int) = ((y : Nat) : Int) := rfl
      clear hc hd0
      go_upto_region 5 with fail
      go_region_held3 (fun v => Below wr.heap.size wr v ∧ v.cell? ⟨b, off + i, none⟩ = some (.int .i64 (d : Int)))
        (first
          | exact s_at G0 hbb g1
          | (go_split_ands; exact s_nx (by assumption) hb14 hbb g1)
          | (refine s_nx (by assumption) hb14 hbb g1))
        (first
          | (go_at_call_of 32 (Value.int .i64 (y : Int)); try go_split_ands; refine (small_any _ y (by omega)).mono ?_; rintro e wp ⟨As, ks, cs, ss, rfl, hs, hrs, hb14⟩)
          | (go_at_call 21; try go_split_ands; refine (times_any _ _ A1 As k1 ks c1 cs zs ss ((hO.below (by assumption) (Nat.le_refl _)).more (Below.size (by assumption))) hs (Nat.le_refl _) (by omega) (by have := rep_lenD (M := 1) hrs hs.len.out (by omega); omega)).mono ?_; rintro e wt ⟨At, kt, ct, ts, rfl, ht, hrt, hb14⟩; rw [hOr.out.val, hrs.val] at hrt)
          | (go_at_call_of 32 (Value.int .i64 (d : Int)); try go_split_ands; refine (small_any _ d (by omega)).mono ?_; rintro e wd ⟨Ad, kd, cd, dd, rfl, hdd, hrd, hb14⟩; have ht2 := (ht.below hb14 (Nat.le_refl _)).more hb14.size)
          | (go_at_call 20; try go_split_ands; obtain ⟨MM, hM1, hM2, hM3⟩ := max_ex kt kd; have hkt := rep_lenD (M := i + 1) hrt ht2.len.out (by have := HL.out; rw [HV.out] at this; omega); have hkd := rep_lenD (M := 1) hrd hdd.len.out (by omega); refine (plus_any _ _ At Ad kt kd ct cd MM ts dd ht2 hdd (Nat.le_refl _) hM1 hM2 (by omega) hM3).mono ?_; rintro e wq ⟨Aq, kq, cq, qs, rfl, hq, hrq, hb14⟩; rw [hrt.val, hrd.val, ← HV.out] at hrq))
      all_goals (go_wp2_with fail)
      all_goals (try go_split_ands)
      all_goals go_roundw
      all_goals (first | (case measure => first | (simp [intOf]; done) | (simp [intOf]; omega)) | skip)
      all_goals (exact ⟨i + 1, _, _, _, qs, by omega, by go_num, rfl, hq, hrq, hbw.trans (Below.mono (by assumption) hsz)⟩)
    · obtain rfl : i = n := by omega
      have HA := Lib.hid (hv_all (y := y) (xs := xs) hxl.out)
      go_wp2_with fail
      go_ret
      exact ⟨_, _, _, zs, rfl, hO, by rw [← HA.out]; exact hOr.out, hbw⟩

theorem numbers_any (w : World) (B : Nat) (A D : Option Addr) (n m c d : Nat) (xs ys : List Nat) (h : DRd w B A n c xs) (k : DRd w B D m d ys) :
    Calls Try.prog 36 #[.slice A n c, .slice D m d] w (SamePost xs ys w) := by
  have hcap := h.cap
  have hcap2 := k.cap
  have hxl := Lib.hid h.len.out
  have hyl := Lib.hid k.len.out
  by_cases hnm : n = m
  · subst hnm
    go_enter Try.func36, Try.ntmps36
    go_wp2_with fail
    go_loopw [5] (SameRel n xs ys w) (fun v _ => n - (intOf v).toNat)
    case atStart => exact ⟨0, rfl, by omega, fun j h1 => by omega, 0, rfl⟩
    case round =>
      obtain ⟨j, rfl, h1, he, q, rfl⟩ := hrel
      have HE := Lib.hid he
      clear he
      by_cases h0 : j < n
      · obtain ⟨b, off, rfl, hb, hc⟩ := h.rd (by omega)
        obtain ⟨b', off', rfl, hb', hc'⟩ := k.rd (by omega)
        have g1 := hc j (by omega)
        have g2 := hc' j (by omega)
        have a1 := nth_nn xs j
        have a2 := h.lim.nth j
        have a3 := nth_nn ys j
        have a4 := k.lim.nth j
        clear hc hc'
        by_cases hx : nth xs j = nth ys j
        · have e1 : (nth xs j != nth ys j) = false := by rw [hx]; simp
          have HX := Lib.hid (nth_eq hx)
          clear hx
          go_wp2_with fail
          go_quiet (fail)
          go_wp2_with fail
          go_roundw
          case rel => exact ⟨j + 1, by go_num, by omega, fun i h3 => by rcases Nat.lt_or_ge i j with h5 | h5; exact HE.out i h5; rw [show i = j by omega]; exact HX.out, _, (by first | (rw [World.drewN_drewN, World.drewN_drewN]; done) | (rw [World.drewN_drewN]; done) | rfl)⟩
          case measure => simp [intOf]; omega
        · have e1 : (nth xs j != nth ys j) = true := bne_iff_ne.2 hx
          have HX := Lib.hid (same_not hx)
          clear hx
          go_wp2_with fail
          go_quiet (fail)
          go_wp2_with fail
          go_ret
          exact ⟨retb_of HX.out.symm, _, (by first | (rw [World.drewN_drewN, World.drewN_drewN]; done) | (rw [World.drewN_drewN]; done) | rfl)⟩
      · obtain rfl : j = n := by omega
        go_wp2_with fail
        go_ret
        exact ⟨retb_of (same_all hxl.out hyl.out HE.out).symm, q, rfl⟩
  · have h1 : ((n : Int) != (m : Int)) = true := by rw [bne_iff_ne]; omega
    go_enter Try.func36, Try.ntmps36
    go_wp2_with fail
    go_ret
    exact ⟨retb_of (same_len hxl.out hyl.out hnm).symm, 0, rfl⟩
end Go.Proofs.Ytjkogajdpkbjeaa
