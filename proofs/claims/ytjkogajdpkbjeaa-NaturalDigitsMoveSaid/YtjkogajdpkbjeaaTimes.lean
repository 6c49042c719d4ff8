/- The reference's Times. -/
import Derived.Test.YtjkogajdpkbjeaaPlus
import Derived.Deep.QuietTactic
import Derived.BigQuiet
import Derived.Test.YtjkogajdpkbjeaaAddMul
namespace Go.Proofs.Ytjkogajdpkbjeaa
open Go.RowKit
set_option maxHeartbeats 400000
set_option maxRecDepth 100000
set_option linter.unusedSimpArgs false
set_option linter.unusedVariables false

theorem gives_rowD {w w' : World} {g n c k p : Nat} {cs : List Nat} (hR : R64 w' g cs) (hl : Dig 65536 cs) (hn : Hid (cs.length = n)) (ht : TrimTo n cs k) (hc : n ≤ c ∧ c ≤ 9223372036854775807)
    (hb : Below w.heap.size w w') (hv : vb 65536 cs = p) : GivesN w p (.returned (.slice (some ⟨g, 0, none⟩) k c)) w' := by
  have := ht.le
  subst hv
  exact ⟨_, _, _, _, rfl, hR.drd0 hl hR.lt (by rw [hn.out]; exact this) (by omega), trimmedD ht hn.out hl, hb⟩
theorem R64.drdAll {w : World} {g : Nat} {cs : List Nat} (h : R64 w g cs) (hl : Dig 65536 cs) {B n c : Nat} (hB : g < B) (hn : Hid (cs.length = n)) (hc : n ≤ c ∧ c ≤ 9223372036854775807) : DRd w B (some ⟨g, 0, none⟩) n c cs := by
  have := h.drd0 hl (n := n) hB (by rw [hn.out]; exact Nat.le_refl _) hc
  rwa [List.take_of_length_le (by rw [hn.out]; exact Nat.le_refl _)] at this
theorem S_set {b N p v : Nat} {rs : List Nat} (hp : p < N) (hl : p < rs.length) : S b (fun i => (rs.set p v).getD i 0) N + rs.getD p 0 * b ^ p = S b (fun i => rs.getD i 0) N + v * b ^ p := by
  obtain ⟨d, rfl⟩ := Nat.le.dest (show p + 1 ≤ N from hp)
  rw [S_add b (fun i => (rs.set p v).getD i 0) (p + 1) d, S_add b (fun i => rs.getD i 0) (p + 1) d, S_succ b (fun i => (rs.set p v).getD i 0) p, S_succ b (fun i => rs.getD i 0) p, getD_set _ _ _ _ hl, if_pos rfl]
  rw [S_ext (f := fun i => (rs.set p v).getD i 0) (g := fun i => rs.getD i 0) (k := p) (fun j hj => by rw [getD_set _ _ _ _ hl, if_neg (by omega)])]
  rw [S_ext (f := fun i => (rs.set p v).getD (p + 1 + i) 0) (g := fun i => rs.getD (p + 1 + i) 0) (fun j hj => by rw [getD_set _ _ _ _ hl, if_neg (by omega)])]
  omega
theorem tm_nat {b i k c d r v x y s s' s0 t : Nat} (h : s + c * b ^ (i + k) = s0 + x * b ^ i * t) (hs : s' + r * b ^ (i + k) = s + v * b ^ (i + k)) (e : r + c + x * y = v + b * d) :
    s' + d * b ^ (i + (k + 1)) = s0 + x * b ^ i * (t + y * b ^ k) := by
  rw [show i + (k + 1) = (i + k) + 1 by omega, Nat.pow_succ]
  rw [Nat.pow_add] at h hs ⊢
  generalize b ^ i = Q at *
  generalize b ^ k = P at *
  have e2 : s' + d * (Q * P * b) + r * (Q * P) = s0 + x * Q * (t + y * P) + r * (Q * P) := by grind
  omega
def TmIs (N i : Nat) (ys rs0 : List Nat) (x : Int) (k : Nat) (c : Int) (rs : List Nat) : Prop :=
  rs.length = N ∧ S 65536 (fun t => rs.getD t 0) N + c.toNat * 65536 ^ (i + k) = S 65536 (fun t => rs0.getD t 0) N + x.toNat * 65536 ^ i * S 65536 (fun t => ys.getD t 0) k
theorem tm_step {N i k : Nat} {ys rs0 rs : List Nat} {x c t : Int} (h : TmIs N i ys rs0 x k c rs) (hp : i + k < N) (hx : 0 ≤ x) (hc : 0 ≤ c) (ht0 : 0 ≤ t) (ht : t = nth rs (i + k) + c + x * nth ys k) :
    TmIs N i ys rs0 x (k + 1) (t / 65536) (rs.set (i + k) (t % 65536).toNat) := by
  obtain ⟨h1, h2⟩ := h
  refine ⟨by rw [List.length_set, h1], ?_⟩
  rw [S_succ]
  refine tm_nat h2 (S_set hp (by omega)) ?_
  unfold nth at ht
  obtain ⟨x, rfl⟩ := Int.eq_ofNat_of_zero_le hx
  obtain ⟨c, rfl⟩ := Int.eq_ofNat_of_zero_le hc
  rw [← Int.natCast_mul] at ht
  simp only [Int.toNat_natCast] at *
  generalize x * ys.getD k 0 = xy at *
  clear h2
  omega
/-- Behind the digits of ys there is a carry at most once. -/
theorem tm_far {N i k m : Nat} {xs ys rs0 rs : List Nat} {c : Int} (h : TmIs N i ys rs0 (nth xs i) k c rs) (hk : m ≤ k) (hy : ys.length = m) (dx : Dig 65536 xs) (dy : Dig 65536 ys) (hc : 0 < c)
    (h0 : S 65536 (fun t => rs0.getD t 0) N = S 65536 (fun t => xs.getD t 0) i * S 65536 (fun t => ys.getD t 0) m) : k ≤ m := by
  obtain ⟨h1, h2⟩ := h
  rcases Nat.lt_or_ge m k with e | e
  · exfalso
    rw [vb_len (xs := ys) (n := k) (by omega)] at h2
    rw [vb_len (xs := ys) (n := m) (by omega)] at h0
    have e1 : S 65536 (fun t => xs.getD t 0) (i + 1) < 65536 ^ (i + 1) := S_lt (by decide) (fun j _ => Dig.at_ dx (by decide) j)
    have e2 : vb 65536 ys < 65536 ^ m := by rw [← hy]; exact vb_lt (by decide) dy
    have e3 : S 65536 (fun t => xs.getD t 0) (i + 1) * vb 65536 ys < 65536 ^ (i + k) := by
      have a1 : S 65536 (fun t => xs.getD t 0) (i + 1) * vb 65536 ys < 65536 ^ (i + 1) * 65536 ^ m := Nat.mul_lt_mul'' e1 e2
      rw [← Nat.pow_add] at a1
      have a2 : 65536 ^ (i + 1 + m) ≤ 65536 ^ (i + k) := Nat.pow_le_pow_right (by decide) (by omega)
      omega
    rw [S_succ, Nat.add_mul, ← h0] at e3
    have e4 : 1 * 65536 ^ (i + k) ≤ c.toNat * 65536 ^ (i + k) := Nat.mul_le_mul_right _ (by omega)
    unfold nth at h2
    rw [Int.toNat_natCast] at h2
    omega
  · exact e
theorem tm_next {N i k m : Nat} {xs ys rs0 rs : List Nat} (h : TmIs N i ys rs0 (nth xs i) k 0 rs) (hk : m ≤ k) (hy : ys.length = m)
    (h0 : S 65536 (fun t => rs0.getD t 0) N = S 65536 (fun t => xs.getD t 0) i * S 65536 (fun t => ys.getD t 0) m) :
    S 65536 (fun t => rs.getD t 0) N = S 65536 (fun t => xs.getD t 0) (i + 1) * S 65536 (fun t => ys.getD t 0) m := by
  obtain ⟨h1, h2⟩ := h
  rw [vb_len (xs := ys) (n := k) (by omega)] at h2
  rw [vb_len (xs := ys) (n := m) (by omega)] at h0 ⊢
  unfold nth at h2
  rw [Int.toNat_natCast] at h2
  rw [S_succ, Nat.add_mul, ← h0, ← h2]
  simp
def TmRel (n m N : Nat) (xs ys : List Nat) (w : World) (i : Value) (wr : World) : Prop :=
  ∃ (k : Nat) (rs : List Nat), k ≤ n ∧ i = .int .i64 k ∧ R64 wr w.heap.size rs ∧ Hid (rs.length = N) ∧ Dig 65536 rs ∧ Below w.heap.size w wr ∧
    Hid (S 65536 (fun i => rs.getD i 0) N = S 65536 (fun i => xs.getD i 0) k * S 65536 (fun i => ys.getD i 0) m)
def TiRel (m N i : Nat) (ys rs0 : List Nat) (x : Int) (w : World) (carry k : Value) (wr : World) : Prop :=
  ∃ (j : Nat) (c : Int) (rs : List Nat), j ≤ m + 1 ∧ k = .int .i64 j ∧ carry = .int .i64 c ∧ 0 ≤ c ∧ c < 65536 ∧ R64 wr w.heap.size rs ∧ Dig 65536 rs ∧ Below w.heap.size w wr ∧ Hid (TmIs N i ys rs0 x j c rs)
theorem tm_prod (x y : Int) (hx : 0 ≤ x ∧ x < 65536) (hy : 0 ≤ y ∧ y < 65536) : 0 ≤ x * y ∧ x * y ≤ 4294836225 := by
  constructor
  · exact Int.mul_nonneg hx.1 hy.1
  · have : x * y ≤ 65535 * 65535 := Int.mul_le_mul (by omega) (by omega) hy.1 (by omega)
    omega

set_option maxHeartbeats 4000000 in
theorem times_any (w : World) (B : Nat) (A D : Option Addr) (n m c d : Nat) (xs ys : List Nat) (h : DRd w B A n c xs) (k : DRd w B D m d ys) (hB : B ≤ w.heap.size) (hn : n ≤ 1000000000000) (hm : m ≤ 1000000000000) :
    Calls Try.prog 21 #[.slice A n c, .slice D m d] w (GivesN w (vb 65536 xs * vb 65536 ys)) := by
  have hcap := h.cap
  have hcap2 := k.cap
  have hxl := Lib.hid h.len.out
  have hyl := Lib.hid k.len.out
  have hmk := mk64 (n + m + 1) (by omega)
  rw [Int.natCast_add, Int.natCast_add, Int.natCast_one] at hmk
  have hr0 := R64.new w (n + m + 1)
  go_enter Try.func21, Try.ntmps21
  go_wp2_with fail
  go_loopw [6] (TmRel n m (n + m + 1) xs ys w) (fun i _ => n - (intOf i).toNat)
  case atStart => exact ⟨0, List.replicate (n + m + 1) 0, Nat.zero_le _, rfl, hr0, (by show _ = _; simp), Dig.zeros _, bl1 _ _, (by show _ = _; rw [S_zeros (m := 0) (Nat.zero_le _) (fun j _ _ => replicate_getD _ _)]; simp [S_zero])⟩
  case round =>
    obtain ⟨i, rs0, hi, rfl, hR0, hl0, hd0, hb0, HS⟩ := hrel
    by_cases hin : i < n
    · obtain ⟨b, off, rfl, hb, hc⟩ := h.rd (by omega)
      have HC := Lib.hid (hc i (by omega))
      have a1 := nth_nn xs i
      have a2 := h.lim.nth i
      have HSt := Lib.hid (show TmIs (n + m + 1) i ys rs0 (nth xs i) 0 0 rs0 from ⟨hl0.out, by simp [S_zero]⟩)
      clear hc
      obtain ⟨wo, rfl⟩ : ∃ wo : World, wo = wr := ⟨_, rfl⟩
      go_wp2_with fail
      go_loopw [7, 8] (TiRel m (n + m + 1) i ys rs0 (nth xs i) w) (fun _ k _ => m + 2 - (intOf k).toNat)
      case atStart => exact ⟨0, 0, rs0, by omega, rfl, rfl, by omega, by omega, hR0, hd0, hb0, HSt.out⟩
      case round =>
        clear hR0 hb0
        obtain ⟨j, q, rs, hj, rfl, rfl, q0, q1, hR, hd, hbw, HI⟩ := hrel
        have hlen := Lib.hid HI.out.1
        have hlt := hR.lt
        by_cases hjm : j < m
        · obtain ⟨b', off', rfl, hb', hc'⟩ := k.rd (by omega)
          have g1 := (hbw.cell (p := ⟨b, off + i, none⟩) (by show b < _; omega)).trans HC.out
          have g2 := (hbw.cell (p := ⟨b', off' + j, none⟩) (by show b' < _; omega)).trans (hc' j (by omega))
          have g3 := hR.cell (j := i + j) (by have := hlen.out; omega)
          have g4 := hR.frozen (i + j)
          have a3 := nth_nn ys j
          have a4 := k.lim.nth j
          have a5 := nth_nn rs (i + j)
          have a6 := hd.nth (i + j)
          have a7 := tm_prod (nth xs i) (nth ys j) ⟨a1, a2⟩ ⟨a3, a4⟩
          have ST := Lib.hid (tm_step HI.out (by omega) a1 q0 (by omega) rfl)
          have w1 : IntKind.i64.wrap (nth xs i * nth ys j) = nth xs i * nth ys j := IntWalk.i64_in _ (by omega)
          have w2 : IntKind.i64.wrap (nth rs (i + j) + q + nth xs i * nth ys j) = nth rs (i + j) + q + nth xs i * nth ys j := IntWalk.i64_in _ (by omega)
          clear hc'
          go_wp2_with fail
          go_quiet (fail)
          clear w1 w2
          go_wp2_with fail
          go_roundw
          case rel => exact ⟨j + 1, _, _, by omega, by go_num, rfl, Int.ediv_nonneg (by omega) (by decide), by omega, (hR.drewN _).put _ (Int.emod_nonneg _ (by decide)), hd.set (by omega), (below_drewN hbw _).setCell (Nat.le_refl _) _, ST.out⟩
          case measure => first | (simp [intOf]; done) | (simp [intOf]; omega)
        · by_cases hq : 0 < q
          · have hj2 := tm_far HI.out (by omega) hyl.out h.lim k.lim hq HS.out
            obtain rfl : j = m := by omega
            have HY := Lib.hid (nth_out (k := j) (by rw [hyl.out]; omega) : nth ys j = 0)
            have g3 := hR.cell (j := i + j) (by have := hlen.out; omega)
            have g4 := hR.frozen (i + j)
            have a5 := nth_nn rs (i + j)
            have a6 := hd.nth (i + j)
            have ST := Lib.hid (tm_step (t := nth rs (i + j) + q) HI.out (by omega) a1 q0 (by omega) (by rw [HY.out]; omega))
            go_wp2_with fail
            go_roundw
            case rel => exact ⟨j + 1, _, _, by omega, by go_num, rfl, Int.ediv_nonneg (by omega) (by decide), by omega, hR.put _ (Int.emod_nonneg _ (by decide)), hd.set (by omega), hbw.setCell (Nat.le_refl _) _, ST.out⟩
            case measure => first | (simp [intOf]; done) | (simp [intOf]; omega)
          · obtain rfl : q = 0 := by omega
            have SN := Lib.hid (tm_next HI.out (by omega) hyl.out HS.out)
            go_wp2_with fail
            go_roundw
            case rel => exact ⟨i + 1, rs, by omega, by go_num, hR, hlen.out, hd, hbw, SN.out⟩
            case measure => first | (simp [intOf]; done) | (simp [intOf]; omega)
    · obtain rfl : i = n := by omega
      have HV := Lib.hid (show vb 65536 rs0 = vb 65536 xs * vb 65536 ys by unfold vb; rw [hl0.out, hxl.out, hyl.out]; exact HS.out)
      have hlt := hR0.lt
      have hdr := hR0.drdAll hd0 (B := wr.heap.size) (c := i + m + 1) hlt hl0 (by omega)
      go_wp2_with fail
      refine (trimD_any _ _ _ _ _ _ hdr).mono ?_
      rintro e w' ⟨t, rfl, ht, rfl⟩
      go_wp2_with fail
      go_ret
      exact gives_rowD hR0 hd0 hl0 ht (by omega) hb0 HV.out
end Go.Proofs.Ytjkogajdpkbjeaa
