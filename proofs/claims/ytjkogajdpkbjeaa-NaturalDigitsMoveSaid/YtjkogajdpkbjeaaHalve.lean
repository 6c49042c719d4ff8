/- The reference's Halve and Double. -/
import Derived.Test.YtjkogajdpkbjeaaTimes
import Derived.Deep.QuietTactic
import Derived.BigQuiet
namespace Go.Proofs.Ytjkogajdpkbjeaa
open Go.RowKit
set_option maxHeartbeats 400000
set_option maxRecDepth 100000
set_option linter.unusedSimpArgs false
set_option linter.unusedVariables false

theorem hv_nat {b n k y r u v : Nat} {xs rs : List Nat} (hk : k + 1 ≤ n) (hn : n ≤ rs.length) (e : u + y * v = r * b + xs.getD k 0)
    (h4 : S b (fun t => rs.getD (k + 1 + t) 0) (n - (k + 1)) * y + r = S b (fun t => xs.getD (k + 1 + t) 0) (n - (k + 1))) :
    S b (fun t => (rs.set k v).getD (k + t) 0) (n - k) * y + u = S b (fun t => xs.getD (k + t) 0) (n - k) := by
  rw [show n - k = (n - (k + 1)) + 1 by omega, S_front, S_front, getD_set _ _ _ _ (by omega), if_pos (by omega)]
  rw [S_ext (f := fun i => (rs.set k v).getD (k + (i + 1)) 0) (g := fun t => rs.getD (k + 1 + t) 0) (fun i hi => by rw [getD_set _ _ _ _ (by omega), if_neg (by omega)]; congr 1; omega)]
  rw [S_ext (f := fun i => xs.getD (k + (i + 1)) 0) (g := fun t => xs.getD (k + 1 + t) 0) (fun i hi => by congr 1; omega)]
  simp only [Nat.add_zero]
  rw [← h4]
  generalize xs.getD k 0 = x at *
  clear h4 hk hn
  grind
def HvIs (n y : Nat) (xs : List Nat) (k : Nat) (r : Int) (rs : List Nat) : Prop :=
  rs.length = n ∧ S 65536 (fun t => rs.getD (k + t) 0) (n - k) * y + r.toNat = S 65536 (fun t => xs.getD (k + t) 0) (n - k)
theorem hv_div (a : Nat) (y : Nat) (r : Int) (hr : 0 ≤ r) (b : Nat) :
    ((r * b + (a : Int)) % (y : Int)).toNat + y * ((r * b + (a : Int)) / (y : Int)).toNat = r.toNat * b + a := by
  obtain ⟨r, rfl⟩ := Int.eq_ofNat_of_zero_le hr
  rw [← Int.natCast_mul, ← Int.natCast_add, ← Int.natCast_ediv, ← Int.natCast_emod]
  simp only [Int.toNat_natCast]
  exact Nat.mod_add_div _ _
theorem hv_step {n k y : Nat} {xs rs : List Nat} {r : Int} (hk : k + 1 ≤ n) (hr : 0 ≤ r) (h : HvIs n y xs (k + 1) r rs) :
    HvIs n y xs k ((r * 65536 + nth xs k) % (y : Int)) (rs.set k ((r * 65536 + nth xs k) / (y : Int)).toNat) := by
  obtain ⟨h1, h4⟩ := h
  refine ⟨by rw [List.length_set, h1], ?_⟩
  have e := hv_div (xs.getD k 0) y r hr 65536
  unfold nth
  exact hv_nat hk (by omega) e h4
theorem hv_lim (hi lo : Int) (y : Nat) (hy : 0 < y ∧ y ≤ 65536) (hx : 0 ≤ hi ∧ hi < (y : Int)) (hc : 0 ≤ lo ∧ lo < 65536) :
    0 ≤ (hi * 65536 + lo) / (y : Int) ∧ (hi * 65536 + lo) / (y : Int) < 65536 ∧ 0 ≤ (hi * 65536 + lo) % (y : Int) ∧ (hi * 65536 + lo) % (y : Int) < y :=
  ⟨Int.ediv_nonneg (by omega) (by omega), Int.ediv_lt_of_lt_mul (by omega) (by omega), Int.emod_nonneg _ (by omega), Int.emod_lt_of_pos _ (by omega)⟩
theorem hv_last {n y : Nat} {xs rs : List Nat} {r : Int} (hx : xs.length = n) (hr : 0 ≤ r) (hy : r < (y : Int)) (h : HvIs n y xs 0 r rs) : vb 65536 rs = vb 65536 xs / y ∧ r = ((vb 65536 xs % y : Nat) : Int) := by
  obtain ⟨h1, h4⟩ := h
  simp only [Nat.zero_add, Nat.sub_zero] at h4
  rw [vb_len (xs := rs) (by omega), vb_len (xs := xs) (by omega)] at h4
  obtain ⟨r, rfl⟩ := Int.eq_ofNat_of_zero_le hr
  simp only [Int.toNat_natCast] at h4
  have hy' : r < y := by omega
  rw [← h4]
  constructor
  · rw [Nat.mul_comm, Nat.mul_add_div (by omega), Nat.div_eq_of_lt hy', Nat.add_zero]
  · rw [Nat.mul_comm, Nat.mul_add_mod, Nat.mod_eq_of_lt hy']
def HvRel (n y : Nat) (xs : List Nat) (w : World) (rest i : Value) (wr : World) : Prop :=
  ∃ (k : Nat) (r : Int) (rs : List Nat), k ≤ n ∧ i = .int .i64 ((k : Int) - 1) ∧ rest = .int .i64 r ∧ 0 ≤ r ∧ r < (y : Int) ∧ R64 wr w.heap.size rs ∧ Dig 65536 rs ∧ Below w.heap.size w wr ∧ Hid (HvIs n y xs k r rs)
def HvPost (w : World) (p y : Nat) (e : Ending) (w' : World) : Prop :=
  ∃ A k c zs, e = .returned (.tuple #[.slice A k c, .int .i64 ((p % y : Nat) : Int)]) ∧ DRd w' w'.heap.size A k c zs ∧ Rep 65536 zs (p / y) ∧ Below w.heap.size w w'

set_option maxHeartbeats 1000000 in
theorem halve_any (w : World) (B : Nat) (A : Option Addr) (n c y : Nat) (xs : List Nat) (h : DRd w B A n c xs) (hB : B ≤ w.heap.size) (hn : n ≤ 1000000000000) (hy : 0 < y ∧ y ≤ 65536) :
    Calls Try.prog 48 #[.slice A n c, .int .i64 (y : Int)] w (HvPost w (vb 65536 xs) y) := by
  have hcap := h.cap
  have hxl := Lib.hid h.len.out
  have hmk := mk64 n (by omega)
  have hr0 := R64.new w n
  have hy0 : ((y : Int) == 0) = false := beq_eq_false_iff_ne.2 (by omega)
  have hy1 : 0 < (y : Int) ∧ (y : Int) ≤ 65536 := by omega
  go_enter Try.func48, Try.ntmps48
  go_wp2_with fail
  go_loopw [7, 8] (HvRel n y xs w) (fun _ i _ => (intOf i + 1).toNat)
  case atStart => exact ⟨n, 0, List.replicate n 0, Nat.le_refl _, rfl, rfl, by omega, by omega, hr0, Dig.zeros _, bl1 _ _, ⟨by simp, by simp [S_zero]⟩⟩
  case round =>
    clear hr0
    obtain ⟨k, r, rs, hk, rfl, rfl, r0, r1, hR, hd, hbw, HI⟩ := hrel
    have hlen := Lib.hid HI.out.1
    have hlt := hR.lt
    by_cases h0 : k = 0
    · subst h0
      obtain ⟨hv1, hr2⟩ := hv_last hxl.out r0 r1 HI.out
      have HV := Lib.hid hv1
      clear hv1 HI
      subst hr2
      have hdr := hR.drdAll hd (B := wr.heap.size) (c := n) hlt hlen (by omega)
      go_wp2_with fail
      refine (trimD_any _ _ _ _ _ _ hdr).mono ?_
      rintro e w' ⟨t, rfl, ht, rfl⟩
      go_wp2_with fail
      go_ret2
      obtain ⟨A', k', c', zs, he, g1, g2, g3⟩ := gives_rowD hR hd hlen ht (c := n) (by omega) hbw HV.out
      injection he with he
      injection he with he1 he2 he3
      subst he1; subst he2; subst he3
      exact ⟨_, _, _, _, rfl, g1, g2, g3⟩
    · obtain ⟨j, rfl⟩ : ∃ j, k = j + 1 := ⟨k - 1, by omega⟩
      have ei : ((j + 1 : Nat) : Int) - 1 = (j : Int) := by omega
      rw [ei]
      clear ei h0
      obtain ⟨b, off, rfl, hb, hc⟩ := h.rd (by omega)
      have g1 := (hbw.cell (p := ⟨b, off + j, none⟩) (by show b < _; omega)).trans (hc j (by omega))
      have g3 := hR.cell (j := j) (by have := hlen.out; omega)
      have g4 := hR.frozen j
      have a1 := nth_nn xs j
      have a2 := h.lim.nth j
      have hq := hv_lim r (nth xs j) y hy ⟨r0, r1⟩ ⟨a1, a2⟩
      have ST := Lib.hid (hv_step hk r0 HI.out)
      have b1 : 0 ≤ r * 65536 + nth xs j := by omega
      have b2 : r * 65536 + nth xs j < 4294967296 := by omega
      clear hc
      go_wp2_with fail
      go_roundw
      case rel => exact ⟨j, _, _, by omega, rfl, rfl, hq.2.2.1, hq.2.2.2, hR.put _ hq.1, hd.set (by omega), hbw.setCell (Nat.le_refl _) _, ST.out⟩
      case measure => first | (simp [intOf]; done) | (simp [intOf]; omega)

theorem dbl_nat {b k c d r x z s : Nat} {e : Nat} (h : z + c * b ^ k = 2 * s + e) (hh : r + b * d = 2 * x + c) : z + r * b ^ k + d * b ^ (k + 1) = 2 * (s + x * b ^ k) + e := by
  rw [Nat.pow_succ]
  generalize b ^ k = P at *
  grind
def DbRel (n e0 : Nat) (xs : List Nat) (w : World) (carry out i : Value) (wr : World) : Prop :=
  ∃ (k : Nat) (c : Int) (zs : List Nat), k ≤ n ∧ i = .int .i64 k ∧ carry = .int .i64 c ∧ 0 ≤ c ∧ c ≤ 1 ∧ wr.ownsRow w.heap.size 3 1 out zs.length (digs zs) ∧ Hid (zs.length = k) ∧ Dig 65536 zs ∧ Below w.heap.size w wr ∧
    Hid (S 65536 (fun i => zs.getD i 0) k + c.toNat * 65536 ^ k = 2 * S 65536 (fun i => xs.getD i 0) k + e0)
theorem dbl_step {zs xs : List Nat} {k e0 : Nat} {c t : Int} (hk : zs.length = k) (hc : 0 ≤ c) (ht : t = 2 * nth xs k + c)
    (h : S 65536 (fun i => zs.getD i 0) k + c.toNat * 65536 ^ k = 2 * S 65536 (fun i => xs.getD i 0) k + e0) :
    S 65536 (fun i => (zs ++ [(t % 65536).toNat]).getD i 0) (k + 1) + (t / 65536).toNat * 65536 ^ (k + 1) = 2 * S 65536 (fun i => xs.getD i 0) (k + 1) + e0 := by
  rw [S_snoc hk, S_succ]
  refine dbl_nat h ?_
  unfold nth at ht
  omega
theorem dbl_last0 {xs zs : List Nat} {n e0 : Nat} (hr : zs.length = n) (hx : xs.length = n)
    (h : S 65536 (fun i => zs.getD i 0) n + (0 : Int).toNat * 65536 ^ n = 2 * S 65536 (fun i => xs.getD i 0) n + e0) : vb 65536 zs = 2 * vb 65536 xs + e0 := by
  rw [vb_len (xs := xs) (by omega), vb_len (xs := zs) (by omega)] at h
  simpa using h
theorem dbl_last1 {xs zs : List Nat} {n e0 : Nat} (hr : zs.length = n) (hx : xs.length = n)
    (h : S 65536 (fun i => zs.getD i 0) n + (1 : Int).toNat * 65536 ^ n = 2 * S 65536 (fun i => xs.getD i 0) n + e0) : vb 65536 (zs ++ [(1 : Int).toNat]) = 2 * vb 65536 xs + e0 := by
  rw [vb_len (xs := xs) (by omega), vb_len (xs := zs) (by omega)] at h
  rw [vb_snoc, hr]
  simp only [show (1 : Int).toNat = 1 from rfl] at *
  omega
set_option maxHeartbeats 1000000 in
theorem double_any (w : World) (B : Nat) (A : Option Addr) (n c : Nat) (one : Bool) (xs : List Nat) (h : DRd w B A n c xs) (hB : B ≤ w.heap.size) (hn : n ≤ 1000000000000) :
    Calls Try.prog 49 #[.slice A n c, .bool one] w (GivesN w (2 * vb 65536 xs + one.toNat)) := by
  obtain ⟨i0, hi, hz0, hz1, hz2⟩ := info_parts info64
  have hcap := h.cap
  have hxl := Lib.hid h.len.out
  obtain ⟨e0, he0⟩ : ∃ e0 : Nat, e0 = one.toNat := ⟨_, rfl⟩
  rw [← he0]
  cases one
  all_goals
    go_enter Try.func49, Try.ntmps49
    go_wp2_with fail
    go_loopw [5, 6, 7] (DbRel n e0 xs w) (fun _ _ i _ => n - (intOf i).toNat)
    case atStart => exact ⟨0, _, [], by omega, rfl, rfl, by decide, by decide, World.ownsRow_nil _ _ _ _, rfl, Dig.nil, Below.refl _ _, (by show _ = _; simp [S_zero, he0])⟩
    case round =>
      obtain ⟨j, q, zs, hj, rfl, rfl, q0, q1, hown, hzl, hzd, hbw, HS⟩ := hrel
      have hzn : zs.length ≤ n := by have := hzl.out; omega
      have hsz := hbw.size
      by_cases h1 : j < n
      · obtain ⟨b, off, rfl, hb, hc⟩ := h.rd (by omega)
        have g1 := (hbw.cell (p := ⟨b, off + j, none⟩) (by show b < _; omega)).trans (hc j (by omega))
        have a1 := nth_nn xs j
        have a2 := h.lim.nth j
        clear hc
        have ST := Lib.hid (dbl_step (t := 2 * nth xs j + q) hzl.out q0 rfl HS.out)
        go_wp2_with (at_builtin; refine wpList_append_own _ rfl _ _ 34 rfl w.heap.size 3 i0 (.int .i64 0) 1 8 Try.underlying34 hi hz0 hz1 hz2 rfl (by decide) _ _ _ rfl (hown.alloc _) ⟨wr.heap.size, 0, none⟩ 1 1 [.int .i64 ((2 * nth xs j + q) % 65536)] rfl rfl (cell_one_new _ _ _) (fun u hu => by simp at hu; subst hu; rfl) (by unfold maxLen; omega) (by omega) (by first | (simp; omega) | omega) ?_; intro v' w1 hown' hgrow _)
        obtain ⟨ho, hb1⟩ := own_next (Int.emod_nonneg _ (by decide)) hbw hown hown' hgrow
        clear hown hown' hgrow
        go_wp2_with fail
        go_roundw
        case rel => exact ⟨j + 1, _, _, by omega, by go_num, rfl, Int.ediv_nonneg (by omega) (by decide), by omega, ho, (by show _ = _; rw [List.length_append, hzl.out]; rfl), hzd.snoc (by omega), hb1, ST.out⟩
        case measure => simp [intOf]; omega
      · obtain rfl : j = n := by omega
        by_cases hq : q = 0
        · subst hq
          have HV := Lib.hid (dbl_last0 (xs := xs) hzl.out hxl.out HS.out)
          obtain ⟨A', c', rfl, hc1, hc2⟩ := own_shape hown
          have hdr := own_drd hown hzd
          go_wp2_with fail
          refine (trimD_any _ _ _ _ _ _ hdr).mono ?_
          rintro e w' ⟨t, rfl, ht, rfl⟩
          go_wp2_with fail
          go_ret
          exact gives_own hown hzd ht hbw HV.out
        · obtain rfl : q = 1 := by omega
          have HV := Lib.hid (dbl_last1 (xs := xs) hzl.out hxl.out HS.out)
          clear hq
          go_wp2_with (at_builtin; refine wpList_append_own _ rfl _ _ 34 rfl w.heap.size 3 i0 (.int .i64 0) 1 8 Try.underlying34 hi hz0 hz1 hz2 rfl (by decide) _ _ _ rfl (hown.alloc _) ⟨wr.heap.size, 0, none⟩ 1 1 [.int .i64 1] rfl rfl (cell_one_new _ _ _) (fun u hu => by simp at hu; subst hu; rfl) (by unfold maxLen; omega) (by omega) (by first | (simp; omega) | omega) ?_; intro v' w1 hown' hgrow _)
          obtain ⟨ho, hb1⟩ := own_next (by decide) hbw hown hown' hgrow
          clear hown hown' hgrow
          have hzd1 : Dig 65536 (zs ++ [(1 : Int).toNat]) := hzd.snoc (by decide)
          obtain ⟨A', c', rfl, hc1, hc2⟩ := own_shape ho
          have hdr := own_drd ho hzd1
          go_wp2_with fail
          refine (trimD_any _ _ _ _ _ _ hdr).mono ?_
          rintro e w' ⟨t, rfl, ht, rfl⟩
          go_wp2_with fail
          go_ret
          exact gives_own ho hzd1 ht hb1 HV.out
end Go.Proofs.Ytjkogajdpkbjeaa
