/- The reference's Binary and Small. -/
import Derived.Test.YtjkogajdpkbjeaaOnes
import Derived.Deep.QuietTactic
import Derived.BigQuiet
namespace Go.Proofs.Ytjkogajdpkbjeaa
open Go.RowKit
set_option maxHeartbeats 400000
set_option maxRecDepth 100000
set_option linter.unusedSimpArgs false
set_option linter.unusedVariables false

def BiRel (n : Nat) (xs : List Nat) (w : World) (out i : Value) (wr : World) : Prop :=
  ∃ (j : Nat) (zs : List Nat), 16 * j ≤ n + 15 ∧ i = .int .i64 (16 * (j : Int)) ∧ wr.ownsRow w.heap.size 3 1 out zs.length (digs zs) ∧ Hid (zs.length = j) ∧ Dig 65536 zs ∧ Below w.heap.size w wr ∧
    Hid (S 65536 (fun i => zs.getD i 0) j = S 2 (fun i => xs.getD i 0) (16 * j))
def BjRel (j : Nat) (xs : List Nat) (x k : Value) : Prop :=
  ∃ (t : Nat) (v : Int), t ≤ 16 ∧ k = .int .i64 ((t : Int) - 1) ∧ x = .int .i64 v ∧ 0 ≤ v ∧ v < 65536 ∧ Hid (v < 2 ^ (16 - t)) ∧ Hid (v.toNat = S 2 (fun i => xs.getD (16 * j + t + i) 0) (16 - t))
theorem bi_front {xs : List Nat} {j t : Nat} {v u : Int} (ht : t < 16) (hv : 0 ≤ v) (hu : u = 2 * v + (xs.getD (16 * j + t) 0 : Nat)) (h : v.toNat = S 2 (fun i => xs.getD (16 * j + (t + 1) + i) 0) (16 - (t + 1))) :
    u.toNat = S 2 (fun i => xs.getD (16 * j + t + i) 0) (16 - t) := by
  rw [show 16 - t = (16 - (t + 1)) + 1 by omega, S_front, S_ext (g := fun i => xs.getD (16 * j + (t + 1) + i) 0) (fun i _ => by congr 1; omega), ← h]
  simp only [Nat.add_zero]
  omega
theorem bi_lim {v u : Int} {t d : Nat} (ht : t < 16) (hv : v < 2 ^ (16 - (t + 1))) (hu : u = 2 * v + (d : Nat)) (hd : d ≤ 1) : u < 2 ^ (16 - t) := by
  rw [show 16 - t = (16 - (t + 1)) + 1 by omega, Int.pow_succ]
  omega
theorem bi_small {v : Int} {t : Nat} (h : v < 2 ^ (16 - t)) : v < 65536 := by
  have : (2 : Int) ^ (16 - t) ≤ 2 ^ 16 := by
    have := Nat.pow_le_pow_right (n := 2) (by decide) (show 16 - t ≤ 16 by omega)
    exact_mod_cast this
  have e : (2 : Int) ^ 16 = 65536 := by decide
  omega
theorem bi_next {zs xs : List Nat} {j : Nat} {v : Int} (hz : zs.length = j) (h : S 65536 (fun i => zs.getD i 0) j = S 2 (fun i => xs.getD i 0) (16 * j)) (hv : v.toNat = S 2 (fun i => xs.getD (16 * j + 0 + i) 0) (16 - 0)) :
    S 65536 (fun i => (zs ++ [v.toNat]).getD i 0) (j + 1) = S 2 (fun i => xs.getD i 0) (16 * (j + 1)) := by
  rw [S_snoc hz, show 16 * (j + 1) = 16 * j + 16 by omega, S_add, h, hv, show (65536 : Nat) ^ j = 2 ^ (16 * j) by rw [Nat.pow_mul]]
  simp only [Nat.add_zero, Nat.sub_zero, Nat.mul_comm]
theorem bit_le {xs : List Nat} (h : Dig 2 xs) (j : Nat) : xs.getD j 0 ≤ 1 := by have := Dig.at_ h (by decide) j; omega

set_option maxHeartbeats 4000000 in
theorem binary_any (w : World) (B : Nat) (A : Option Addr) (n c : Nat) (xs : List Nat) (h : ORd w B A n c xs) (hB : B ≤ w.heap.size) (hM : n ≤ 100000000000) :
    Calls Try.prog 56 #[.slice A n c] w (GivesN w (vb 2 xs)) := by
  obtain ⟨i0, hi, hz0, hz1, hz2⟩ := info_parts info64
  have hcap := h.cap
  have hxl := Lib.hid h.len.out
  go_enter Try.func56, Try.ntmps56
  go_wp2_with fail
  go_loopw [3, 4] (BiRel n xs w) (fun _ i _ => n + 16 - (intOf i).toNat)
  case atStart => exact ⟨0, [], by omega, rfl, World.ownsRow_nil _ _ _ _, rfl, Dig.nil, Below.refl _ _, (by show _ = _; simp [S_zero])⟩
  case round =>
    obtain ⟨j, zs, hj, rfl, hown, hzl, hzd, hbw, HS⟩ := hrel
    have hsz := hbw.size
    have hzn : zs.length ≤ n := by have := hzl.out; omega
    by_cases h1 : 16 * j < n
    · obtain ⟨b, off, rfl, hb, hc⟩ := h.rd (by omega)
      have HC := Lib.hid (show ∀ i, i < n → wr.cell? ⟨b, off + i, none⟩ = some (.bool (bt xs i)) from fun i hi => (hbw.cell (p := ⟨b, off + i, none⟩) (by show b < _; omega)).trans (hc i hi))
      clear hc
      obtain ⟨wo, hwo⟩ : ∃ wo : World, wo = wr := ⟨_, rfl⟩
      go_wp2_with fail
      go_loop [5, 6] (BjRel j xs) (fun _ k => (intOf k + 1).toNat)
      case atStart => exact ⟨16, 0, by omega, rfl, rfl, by omega, by omega, (by show _ < _; decide), (by show _ = _; simp [S_zero])⟩
      case round =>
        obtain ⟨t, v, ht, rfl, rfl, v0, v1, hvl, hvs⟩ := hrel
        by_cases h2 : t = 0
        · subst h2
          have SN := Lib.hid (bi_next hzl.out HS.out hvs.out)
          clear HC
          go_wp2_with (at_builtin; refine wpList_append_own _ rfl _ _ 34 rfl w.heap.size 3 i0 (.int .i64 0) 1 8 Try.underlying34 hi hz0 hz1 hz2 rfl (by decide) _ _ _ rfl (hown.alloc _) ⟨wr.heap.size, 0, none⟩ 1 1 [.int .i64 v] rfl rfl (cell_one_new _ _ _) (fun u hu => by simp at hu; subst hu; rfl) (by unfold maxLen; omega) (by omega) (by first | (simp; omega) | omega) ?_; intro v' w1 hown' hgrow _)
          obtain ⟨ho, hb1⟩ := own_next v0 hbw hown hown' hgrow
          clear hown hown' hgrow
          go_wp2_with fail
          go_roundw
          case rel => exact ⟨j + 1, _, by omega, by go_num, ho, (by show _ = _; rw [List.length_append, hzl.out]; rfl), hzd.snoc (by omega), hb1, SN.out⟩
          case measure => simp [intOf]; omega
        · obtain ⟨s, rfl⟩ : ∃ s, t = s + 1 := ⟨t - 1, by omega⟩
          have ei : ((s + 1 : Nat) : Int) - 1 = (s : Int) := by omega
          rw [ei]
          clear ei h2
          by_cases h3 : 16 * j + s < n
          · have g1 := HC.out (16 * j + s) h3
            by_cases hx : bt xs (16 * j + s) = true
            · have HX := bt_true hx
              have SV := Lib.hid (bi_front (u := 2 * v + 1) (by omega) v0 (by rw [HX]; rfl) hvs.out)
              have SL := Lib.hid (bi_lim (u := 2 * v + 1) (d := 1) (by omega) hvl.out (by rfl) (by omega))
              have s1 := bi_small SL.out
              rw [hx] at g1
              clear HX hx
              go_wp2_with fail
              go_round
              case rel => exact ⟨s, 2 * v + 1, by omega, rfl, by go_num, by omega, s1, SL, SV⟩
              case measure => first | (simp [intOf]; done) | (simp [intOf]; omega)
            · have hx' : bt xs (16 * j + s) = false := by simpa using hx
              have HX := bt_false h.lim hx'
              have SV := Lib.hid (bi_front (u := 2 * v) (by omega) v0 (by rw [HX]; omega) hvs.out)
              have SL := Lib.hid (bi_lim (u := 2 * v) (d := 0) (by omega) hvl.out (by omega) (by omega))
              have s1 := bi_small SL.out
              rw [hx'] at g1
              clear HX hx hx'
              go_wp2_with fail
              go_round
              case rel => exact ⟨s, 2 * v, by omega, rfl, by go_num, by omega, s1, SL, SV⟩
              case measure => first | (simp [intOf]; done) | (simp [intOf]; omega)
          · have HX : xs.getD (16 * j + s) 0 = 0 := getD_none (by rw [hxl.out]; omega)
            have SV := Lib.hid (bi_front (u := 2 * v) (by omega) v0 (by rw [HX]; omega) hvs.out)
            have SL := Lib.hid (bi_lim (u := 2 * v) (d := 0) (by omega) hvl.out (by omega) (by omega))
            have s1 := bi_small SL.out
            clear HX
            go_wp2_with fail
            go_round
            case rel => exact ⟨s, 2 * v, by omega, rfl, by go_num, by omega, s1, SL, SV⟩
            case measure => first | (simp [intOf]; done) | (simp [intOf]; omega)
    · have HV := Lib.hid (show vb 65536 zs = vb 2 xs by rw [← vb_len (b := 2) (xs := xs) (n := 16 * j) (by rw [hxl.out]; omega), ← HS.out]; unfold vb; rw [hzl.out])
      obtain ⟨A', c', rfl, hc1, hc2⟩ := own_shape hown
      have hdr := own_drd hown hzd
      go_wp2_with fail
      refine (trimD_any _ _ _ _ _ _ hdr).mono ?_
      rintro e w' ⟨t, rfl, ht, rfl⟩
      go_wp2_with fail
      go_ret
      exact gives_own hown hzd ht hbw HV.out

def SmlRel (N : Nat) (w : World) (n out : Value) (wr : World) : Prop :=
  ∃ (m : Nat) (zs : List Nat), n = .int .i64 (m : Int) ∧ m ≤ 9223372036854775807 ∧ wr.ownsRow w.heap.size 3 1 out zs.length (digs zs) ∧ zs.length ≤ 4 ∧ Dig 65536 zs ∧ Below w.heap.size w wr ∧ Hid (vb 65536 zs + 65536 ^ zs.length * m = N) ∧ Hid (m = 0 → Top zs)
theorem sml_len {N m l v : Nat} (h : v + 65536 ^ l * m = N) (hm : 0 < m) (hN : N ≤ 9223372036854775807) : l < 4 := by
  rcases Nat.lt_or_ge l 4 with e | e
  · exact e
  · exfalso
    have h1 : 65536 ^ 4 ≤ 65536 ^ l := Nat.pow_le_pow_right (by decide) e
    have h2 : 65536 ^ l * 1 ≤ 65536 ^ l * m := Nat.mul_le_mul_left _ hm
    have h3 : (65536 : Nat) ^ 4 = 18446744073709551616 := by decide
    omega
theorem sml_nat {v P d m m' N : Nat} (h : v + P * m = N) (e : d + 65536 * m' = m) : v + P * d + P * 65536 * m' = N := by subst e; rw [← h]; grind
theorem sml_step {N m : Nat} {zs : List Nat} (h : vb 65536 zs + 65536 ^ zs.length * m = N) : vb 65536 (zs ++ [((m : Int) % 65536).toNat]) + 65536 ^ (zs ++ [((m : Int) % 65536).toNat]).length * (m / 65536) = N := by
  rw [vb_snoc, List.length_append, List.length_singleton, Nat.pow_succ]
  exact sml_nat h (by omega)
theorem sml_top {m : Nat} {zs : List Nat} (hm : 0 < m) (h : m / 65536 = 0) : Top (zs ++ [((m : Int) % 65536).toNat]) := by
  intro i hi
  rw [List.length_append, List.length_singleton] at hi
  obtain rfl : i = zs.length := by omega
  rw [getD_append, if_neg (by omega), Nat.sub_self]
  show ((m : Int) % 65536).toNat ≠ 0
  omega
set_option maxHeartbeats 1000000 in
theorem small_any (w : World) (N : Nat) (hN : N ≤ 9223372036854775807) :
    Calls Try.prog 32 #[.int .i64 (N : Int)] w (GivesN w N) := by
  obtain ⟨i0, hi, hz0, hz1, hz2⟩ := info_parts info64
  go_enter Try.func32, Try.ntmps32
  go_wp2_with fail
  go_loopw [0, 3] (SmlRel N w) (fun n _ _ => (intOf n).toNat)
  case atStart => exact ⟨N, [], rfl, hN, World.ownsRow_nil _ _ _ _, by simp, Dig.nil, Below.refl _ _, (by show _ = _; simp [vb_nil]), fun _ => Top.nil⟩
  case round =>
    obtain ⟨m, zs, rfl, hm, hown, hzl, hzd, hbw, HS, HT⟩ := hrel
    have hsz := hbw.size
    by_cases h0 : m = 0
    · subst h0
      obtain ⟨A', c', rfl, hc1, hc2⟩ := own_shape hown
      have hdr := own_drd hown hzd
      have HR := Lib.hid (show Rep 65536 zs N from ⟨hzd, by have := HS.out; simpa using this, HT.out rfl⟩)
      go_wp2_with fail
      go_ret
      exact ⟨_, _, _, _, rfl, hdr, HR.out, hbw⟩
    · have hl := sml_len HS.out (by omega) hN
      have ST := Lib.hid (sml_step HS.out)
      have TT := Lib.hid (fun e => sml_top (zs := zs) (show 0 < m by omega) e)
      have hm0 : 0 < (m : Int) := by omega
      clear h0
      go_wp2_with (at_builtin; refine wpList_append_own _ rfl _ _ 34 rfl w.heap.size 3 i0 (.int .i64 0) 1 8 Try.underlying34 hi hz0 hz1 hz2 rfl (by decide) _ _ _ rfl (hown.alloc _) ⟨wr.heap.size, 0, none⟩ 1 1 [.int .i64 ((m : Int) % 65536)] rfl rfl (cell_one_new _ _ _) (fun u hu => by simp at hu; subst hu; rfl) (by unfold maxLen; omega) (by omega) (by first | (simp; omega) | omega) ?_; intro v' w1 hown' hgrow _)
      obtain ⟨ho, hb1⟩ := own_next (Int.emod_nonneg _ (by decide)) hbw hown hown' hgrow
      clear hown hown' hgrow
      go_wp2_with fail
      go_roundw
      case rel => exact ⟨m / 65536, _, by go_num, by omega, ho, by simp; omega, hzd.snoc (by omega), hb1, ST.out, TT.out⟩
      case measure => simp [intOf]; omega
end Go.Proofs.Ytjkogajdpkbjeaa
