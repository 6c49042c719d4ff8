/- Package natural: product. -/
import Derived.Test.YtjkogajdpkbjeaaAddMul
namespace Go.Proofs.Ytjkogajdpkbjeaa
open Go.RowKit
set_option maxHeartbeats 400000
set_option maxRecDepth 100000
set_option linter.unusedSimpArgs false
set_option linter.unusedVariables false

/-- k limbs of xs are done. -/
def PrRel (n m : Nat) (xs ys : List Nat) (w : World) (i : Value) (wr : World) : Prop :=
  ∃ (k : Nat) (rs : List Nat), k ≤ n ∧ i = .int .i64 k ∧ R32 wr w.heap.size rs ∧ Hid (rs.length = n + m) ∧ Lim rs ∧ Below w.heap.size w wr ∧
    Hid ((∀ i, k + m ≤ i → rs.getD i 0 = 0) ∧ S 4294967296 (fun i => rs.getD i 0) (k + m) = S 4294967296 (fun i => xs.getD i 0) k * S 4294967296 (fun i => ys.getD i 0) m)
theorem pr_step {n m k : Nat} {xs ys rs rs' : List Nat} {q : Int} (hx : xs.length = n) (hrl : rs.length = n + m) (hk : k < n) (hq : 0 ≤ q)
    (h : (∀ i, k + m ≤ i → rs.getD i 0 = 0) ∧ S 4294967296 (fun i => rs.getD i 0) (k + m) = S 4294967296 (fun i => xs.getD i 0) k * S 4294967296 (fun i => ys.getD i 0) m)
    (a : AmIs k m rs ys (nth xs k) m q rs') :
    (∀ i, k + 1 + m ≤ i → (rs'.set (k + m) q.toNat).getD i 0 = 0) ∧ S 4294967296 (fun i => (rs'.set (k + m) q.toNat).getD i 0) (k + 1 + m) = S 4294967296 (fun i => xs.getD i 0) (k + 1) * S 4294967296 (fun i => ys.getD i 0) m := by
  obtain ⟨h1, h2⟩ := h
  obtain ⟨a1, a2, a3⟩ := a
  refine ⟨fun i hi => ?_, ?_⟩
  · rw [getD_set _ _ _ _ (by omega), if_neg (by omega), a2 i (by omega)]; exact h1 i (by omega)
  · rw [show k + 1 + m = (k + m) + 1 by omega, S_succ, getD_set _ _ _ _ (by omega), if_pos rfl]
    rw [S_ext (g := fun i => rs'.getD i 0) (fun j hj => by rw [getD_set _ _ _ _ (by omega), if_neg (by omega)])]
    rw [S_add] at h2 ⊢
    rw [S_ext (f := fun i => rs'.getD i 0) (g := fun i => rs.getD i 0) (fun j hj => a2 j (by omega)), S_succ]
    unfold nth at a3
    rw [Nat.pow_add]
    rw [Int.toNat_natCast] at a3
    generalize S 4294967296 (fun j => rs'.getD (k + j) 0) m = s1 at *
    generalize S 4294967296 (fun j => rs.getD (k + j) 0) m = s2 at *
    generalize S 4294967296 (fun j => rs.getD j 0) k = s3 at *
    generalize S 4294967296 (fun j => ys.getD j 0) m = s4 at *
    generalize S 4294967296 (fun j => xs.getD j 0) k = s5 at *
    generalize 4294967296 ^ m = P at *
    generalize 4294967296 ^ k = Q at *
    generalize xs.getD k 0 = x at *
    generalize q.toNat = q' at *
    grind
theorem pr_last {n m : Nat} {xs ys rs : List Nat} (hx : xs.length = n) (hy : ys.length = m) (hr : rs.length = n + m)
    (h : (∀ i, n + m ≤ i → rs.getD i 0 = 0) ∧ S 4294967296 (fun i => rs.getD i 0) (n + m) = S 4294967296 (fun i => xs.getD i 0) n * S 4294967296 (fun i => ys.getD i 0) m) : vb 4294967296 rs = vb 4294967296 xs * vb 4294967296 ys := by
  unfold vb; rw [hx, hy, hr]; exact h.2
theorem below_of_grown {w wr wr' : World} {g : Nat} (h : Below g w wr) (hg : wr.grownBy wr' (some g)) (hs : g < wr.heap.size) : Below g w wr' :=
  h.grown hg (by omega) (fun k hk => by injection hk; omega)

theorem product_any (w : World) (B : Nat) (A D : Option Addr) (n m c d : Nat) (xs ys : List Nat) (h : LRd w B A n c xs) (k : LRd w B D m d ys) (hB : B ≤ w.heap.size) (hn : n ≤ 1000000000) (hm : m ≤ 1000000000) :
    Calls Try.prog 44 #[.slice A n c, .slice D m d] w (GivesL w (vb 4294967296 xs * vb 4294967296 ys)) := by
  have hcap := h.cap
  have hcap2 := k.cap
  have hmk := mk32 (n + m) (by omega)
  rw [Int.natCast_add] at hmk
  have hr0 := R32.new w (n + m)
  go_enter Try.func44, Try.ntmps44
  go_wp2_with fail
  go_loopw [16] (PrRel n m xs ys w) (fun i _ => n - (intOf i).toNat)
  case atStart => exact ⟨0, List.replicate (n + m) 0, Nat.zero_le _, rfl, hr0, (by show _ = _; simp), Lim.zeros _, bl1 _ _, (by refine ⟨fun i _ => replicate_getD _ _, ?_⟩; rw [S_zeros (m := 0) (Nat.zero_le _) (fun j _ _ => replicate_getD _ _)]; simp [S_zero])⟩
  case round =>
    obtain ⟨j, rs, hj, rfl, hR, hrl, hrL, hbw, HS⟩ := hrel
    by_cases hjm : j < n
    · obtain ⟨b, off, rfl, hb, hc⟩ := h.rd (by omega)
      have g1 := (hbw.cell (p := ⟨b, off + j, none⟩) (by show b < _; omega)).trans (hc j (by omega))
      have a1 := nth_nn xs j
      have a2 := h.lim.nth j
      have hlt := hR.lt
      have k1 := k.below hbw hB
      clear hc
      go_wp2_with fail
      refine (addMultiple_any _ B w.heap.size j D m _ d rs ys (nth xs j) hR hrL k1 hB (by have := hrl.out; omega) ⟨a1, a2⟩ (by omega)).mono ?_
      rintro e w1 ⟨q, rs', rfl, q0, q1, hR1, hrL1, hg1, HA⟩
      have HA' := Lib.hid HA
      clear HA
      have hb1 := below_of_grown hbw hg1 hlt
      have g3 := hR1.cell (j := j + m) (by have := HA'.out.1; have := hrl.out; omega)
      have g4 := hR1.frozen (j + m)
      have ST := Lib.hid (pr_step h.len.out hrl.out hjm q0 HS.out HA'.out)
      go_wp2_with fail
      go_roundw
      case rel => exact ⟨j + 1, _, by omega, by go_num, hR1.put _ q0, (by show _ = _; rw [List.length_set, HA'.out.1]; exact hrl.out), hrL1.set (by omega), hb1.setCell (Nat.le_refl _) _, ST.out⟩
      case measure => simp [intOf]; omega
    · obtain rfl : j = n := by omega
      have hv2 := Lib.hid (pr_last h.len.out k.len.out hrl.out HS.out)
      go_wp2_with fail
      refine (trim_any _ _ _ _ _ _ (hR.lrdAll hrL hR.lt hrl (by omega))).mono ?_
      rintro e w' ⟨t, rfl, ht, rfl⟩
      go_wp2_with fail
      go_ret
      exact gives_row hR hrL hrl ht (by omega) hbw hv2.out
end Go.Proofs.Ytjkogajdpkbjeaa
