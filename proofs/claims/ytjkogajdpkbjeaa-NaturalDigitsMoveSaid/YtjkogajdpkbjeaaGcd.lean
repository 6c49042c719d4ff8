/- Gcd: Euclid's algorithm. -/
import Derived.Test.YtjkogajdpkbjeaaExp3
import Derived.Deep.QuietTactic
import Derived.BigQuiet
import Derived.Deep.LoopGhost
namespace Go.Proofs.Ytjkogajdpkbjeaa
open Go.RowKit
set_option maxHeartbeats 400000
set_option maxRecDepth 100000
set_option linter.unusedSimpArgs false
set_option linter.unusedVariables false

theorem clone_l {n : Nat} {xs : List Nat} {w w' : World} {e : Ending} (h : ClonePost n xs w e w') (hl : xs.length = n) (hx : Lim xs) :
    ∃ A c, e = .returned (.slice A n c) ∧ LRd w' w'.heap.size A n c xs ∧ Below w.heap.size w w' := by
  obtain ⟨A, c, rfl, h1, h2, hb, hr⟩ := h
  exact ⟨A, c, rfl, clone_lrd hl hx h1 h2 hr, hb⟩
theorem gcd_next {p v g : Nat} (h : Nat.gcd p v = g) : Nat.gcd v (p % v) = g := by
  rw [← h, Nat.gcd_comm p v, Nat.gcd_rec v p, Nat.gcd_comm]
theorem rep_small {xs : List Nat} {v n k : Nat} (h : Rep 4294967296 xs v) (hl : xs.length = n) {ys : List Nat} (hy : Lim ys) (hk : ys.length = k) (hv : v ≤ vb 4294967296 ys) : n ≤ k := by
  rw [← hl]
  refine h.length_le (by decide) (Nat.lt_of_le_of_lt hv ?_)
  rw [← hk]; exact vb_lt (by decide) hy

theorem gcd_bad1 (w : World) (B : Nat) (A D : Option Addr) (n m c d : Nat) (xs ys : List Nat) (h : LRd w B A n c xs) (k : LRd w B D m d ys) (hB : B ≤ w.heap.size) (hx : vld xs = false) :
    Calls Try.prog 24 #[.slice A n c, .slice D m d] w (GivesF w 0 6 (-1)) := by
  have h1 := fun (o : Obj) => h.below (bl1 w o) hB
  have k1 := fun (o : Obj) => k.below (bl1 w o) hB
  go_enter Try.func24, Try.ntmps24
  go_wp2_with fail
  refine (checkBoth_bad1 _ B A D n m c d xs (h1 _) (by simp; omega) hx).mono ?_
  rintro e w1 ⟨rfl, hb⟩
  obtain ⟨hc, hf⟩ := bcell hb
  have hz : w.heap.size < w1.heap.size := by have := hb.size; simp at this; omega
  go_wp2_with fail
  go_region
  go_wp2_with fail
  refine bodyPost_ret (v := .tuple #[.slice none 0 0, flt 6 (-1)]) (by simp [results, Try.results24, go_sem, hc, hf, hz]) rfl ⟨none, 0, 0, [], rfl, nil_lrd _, nil_rep, ?_⟩
  (repeat (first | exact Below.refl _ _ | exact hb | refine Below.setCell ?_ (by simp; done) _ | refine Below.alloc ?_ (by first | omega | (simp; done) | (simp; omega)) _ | refine Below.drew ?_ | refine below_drewN ?_ _ | refine Below.trans ?_ (Below.mono hb (by first | omega | (simp; done) | (simp; omega)))))

theorem gcd_bad2 (w : World) (B : Nat) (A D : Option Addr) (n m c d : Nat) (xs ys : List Nat) (h : LRd w B A n c xs) (k : LRd w B D m d ys) (hB : B ≤ w.heap.size) (hx : vld xs = true) (hy : vld ys = false) :
    Calls Try.prog 24 #[.slice A n c, .slice D m d] w (GivesF w 0 6 (-2)) := by
  have h1 := fun (o : Obj) => h.below (bl1 w o) hB
  have k1 := fun (o : Obj) => k.below (bl1 w o) hB
  go_enter Try.func24, Try.ntmps24
  go_wp2_with fail
  refine (checkBoth_bad2 _ B A D n m c d xs ys (h1 _) (k1 _) (by simp; omega) hx hy).mono ?_
  rintro e w1 ⟨rfl, hb⟩
  obtain ⟨hc, hf⟩ := bcell hb
  have hz : w.heap.size < w1.heap.size := by have := hb.size; simp at this; omega
  go_wp2_with fail
  go_region
  go_wp2_with fail
  refine bodyPost_ret (v := .tuple #[.slice none 0 0, flt 6 (-2)]) (by simp [results, Try.results24, go_sem, hc, hf, hz]) rfl ⟨none, 0, 0, [], rfl, nil_lrd _, nil_rep, ?_⟩
  (repeat (first | exact Below.refl _ _ | exact hb | refine Below.setCell ?_ (by simp; done) _ | refine Below.alloc ?_ (by first | omega | (simp; done) | (simp; omega)) _ | refine Below.drew ?_ | refine below_drewN ?_ _ | refine Below.trans ?_ (Below.mono hb (by first | omega | (simp; done) | (simp; omega)))))

def GcdRel (g : Nat) (w : World) (v : Nat) (s7 s8 : Value) (wr : World) : Prop :=
  ∃ A1 k1 c1 xs A2 k2 c2 ys p, s7 = .slice A1 k1 c1 ∧ s8 = .slice A2 k2 c2 ∧ k1 ≤ 600 ∧ k2 ≤ 600 ∧ LRd wr wr.heap.size A1 k1 c1 xs ∧ LRd wr wr.heap.size A2 k2 c2 ys ∧ Hid (Rep 4294967296 xs p) ∧ Hid (Rep 4294967296 ys v) ∧ Hid (Nat.gcd p v = g) ∧ Below w.heap.size w wr
set_option maxHeartbeats 1000000 in
theorem gcd_ok (w : World) (B : Nat) (A D : Option Addr) (n m c d : Nat) (xs ys : List Nat) (h : LRd w B A n c xs) (k : LRd w B D m d ys) (hB : B ≤ w.heap.size) (hx : vld xs = true) (hy : vld ys = true) :
    Calls Try.prog 24 #[.slice A n c, .slice D m d] w (GivesF w (Nat.gcd (vb 4294967296 xs) (vb 4294967296 ys)) 0 0) := by
  have h1 := fun (o : Obj) => h.below (bl1 w o) hB
  have k1 := fun (o : Obj) => k.below (bl1 w o) hB
  have hn : n ≤ 600 := by have := (vld_top hx).2; have := h.len.out; omega
  have hm : m ≤ 600 := by have := (vld_top hy).2; have := k.len.out; omega
  obtain ⟨g, hg⟩ : ∃ g, g = Nat.gcd (vb 4294967296 xs) (vb 4294967296 ys) := ⟨_, rfl⟩
  have HG := Lib.hid hg
  rw [← hg]
  clear hg
  have hT1 := Lib.hid (vld_top hx).1
  have hT2 := Lib.hid (vld_top hy).1
  go_enter Try.func24, Try.ntmps24
  go_wp2_with fail
  refine (checkBoth_ok _ B A D n m c d xs ys (h1 _) (k1 _) (by simp; omega) hx hy).mono ?_
  rintro e w1 ⟨rfl, hb⟩
  obtain ⟨hc, hf⟩ := bcell hb
  have hz : w.heap.size < w1.heap.size := by have := hb.size; simp at this; omega
  have hb' : Below w.heap.size w w1 := (bl1 w _).trans (hb.mono (by simp))
  have h2 := fun (o : Obj) => (h.below hb' hB).alloc (by omega) o
  have k2 := fun (o : Obj) => (k.below hb' hB).alloc (by omega) o
  go_wp2_with fail
  refine (clone_any _ B A n c xs (h2 _) (by first | omega | (simp; omega)) (by omega)).mono ?_
  intro e w2 hcl
  obtain ⟨A1, c1, rfl, hL1, hb2⟩ := clone_l hcl h.len.out h.lim
  have hz2 : w1.heap.size < w2.heap.size := by have := hb2.size; simp at this; omega
  have k3 := (k2 _).below hb2 (by first | omega | (simp; omega))
  go_wp2_with fail
  refine (clone_any _ B D m d ys k3 (by omega) (by omega)).mono ?_
  intro e w3 hcl2
  obtain ⟨A2, c2, rfl, hL2, hb3⟩ := clone_l hcl2 k.len.out k.lim
  have hz3 := hb3.size
  have hL1' := (hL1.below hb3 (Nat.le_refl _)).more hz3
  obtain ⟨hc2, hf2⟩ := bcell hb2
  obtain ⟨hc3, hf3⟩ := bcell hb3
  have c0 : w3.cell? ⟨w.heap.size, 0, none⟩ = some (.int .i64 0) := by rw [hc3 w.heap.size 0 (by omega), hc2 w.heap.size 0 (by first | omega | (simp; omega))]; simp [go_sem, hc, hz]
  have c1' : w3.cell? ⟨w.heap.size, 1, none⟩ = some (.int .i64 0) := by rw [hc3 w.heap.size 1 (by omega), hc2 w.heap.size 1 (by first | omega | (simp; omega))]; simp [go_sem, hc, hz]
  have f0 : w3.frozen? ⟨w.heap.size, 0, none⟩ = false := by rw [hf3 w.heap.size 0 (by omega), hf2 w.heap.size 0 (by first | omega | (simp; omega))]; simp [go_sem, hf, hz]
  have f1 : w3.frozen? ⟨w.heap.size, 1, none⟩ = false := by rw [hf3 w.heap.size 1 (by omega), hf2 w.heap.size 1 (by first | omega | (simp; omega))]; simp [go_sem, hf, hz]
  have hbw3 : Below w.heap.size w w3 := by
    (repeat (first | exact Below.refl _ _ | exact hb3 | exact hb2 | exact hb | refine Below.trans ?_ (Below.mono hb3 (by first | omega | (simp; done) | (simp; omega))) | refine Below.trans ?_ (Below.mono hb2 (by first | omega | (simp; done) | (simp; omega))) | refine Below.alloc ?_ (by first | omega | (simp; done) | (simp; omega)) _ | exact hb'))
  clear hc hf hc2 hf2 hc3 hf3 hcl hcl2
  go_wp2_with fail
  go_loopg [7, 8] (vb 4294967296 ys) (fun v s7 s8 wr => GcdRel g w3 v s7 s8 wr)
  case atStart => exact ⟨_, _, _, _, _, _, _, _, _, rfl, rfl, hn, hm, hL1', hL2, ⟨h.lim, rfl, hT1.out⟩, ⟨k.lim, rfl, hT2.out⟩, HG.out.symm, Below.refl _ _⟩
  case round =>
    obtain ⟨B1, q1, e1, zs, B2, q2, e2, us, p, rfl, rfl, hq1, hq2, hZ, hU, hZr, hUr, hgcd, hbw⟩ := hrel
    have hsz := hbw.size
    have hcapz := hZ.cap
    have hcapu := hU.cap
    by_cases h0 : q2 = 0
    · subst h0
      have HV := Lib.hid (show gk = 0 by have := hUr.out.val; rw [← this, List.eq_nil_of_length_eq_zero hU.len.out, vb_nil])
      obtain ⟨hc4, hf4⟩ := bcell hbw
      have d0 := (hc4 w.heap.size 0 (by omega)).trans c0
      have d1 := (hc4 w.heap.size 1 (by omega)).trans c1'
      have g0 := (hf4 w.heap.size 0 (by omega)).trans f0
      have g1 := (hf4 w.heap.size 1 (by omega)).trans f1
      clear hc4 hf4 c0 c1' f0 f1
      go_wp2_with fail
      refine bodyPost_ret (v := .tuple #[.slice B1 q1 e1, flt 0 0]) (by simp [results, Try.results24, go_sem, d0, d1]) rfl ⟨B1, q1, e1, zs, rfl, ?_, ?_, ?_⟩
      · exact ((hZ.setI d0 _).setI (by rw [World.cell?_setCell_other _ _ _ _ (by simp)]; exact d1) _).more (by simp [World.setCell])
      · have := hgcd.out; rw [HV.out, Nat.gcd_zero_right] at this; rw [← this]; exact hZr.out
      · (repeat (first | exact Below.refl _ _ | exact hbw3 | refine Below.setCell ?_ (by simp; done) _ | refine Below.trans ?_ (Below.mono hbw (by first | omega | (simp; done) | (simp; omega)))))
    · have hq0 : 0 < q2 := by omega
      clear h0
      go_wp2_with fail
      refine (divide_any wr wr.heap.size B1 B2 q1 q2 e1 e2 zs us hZ hU (Nat.le_refl _) (by omega) hZr.out.top hUr.out.top hq0).mono ?_
      rintro e w5 ⟨A3, k3, c3, zs3, A4, k4, c4, zs4, rfl, hQ, hQr, hM, hMr, hb5⟩
      have hpos := Lib.hid (show 0 < gk from by
        rcases Nat.eq_zero_or_pos gk with e | e
        · exfalso
          have h7 := hUr.out
          rw [e] at h7
          have h8 := h7.length_le (m := 0) (by decide) (by decide)
          have := hU.len.out
          omega
        · exact e)
      rw [hUr.out.val, hZr.out.val] at hMr
      have HM := Lib.hid hMr
      clear hMr hQr hQ
      have hk4 : k4 ≤ q2 := rep_small HM.out hM.len.out hU.lim hU.len.out (by rw [hUr.out.val]; exact Nat.le_of_lt (Nat.mod_lt _ hpos.out))
      have hU5 := (hU.below hb5 (Nat.le_refl _)).more hb5.size
      have hb6 : Below w3.heap.size w3 w5 := hbw.trans (hb5.mono (by omega))
      go_wp2_with fail
      go_roundg (p % gk)
      case measure => exact Nat.mod_lt _ hpos.out
      case rel => exact ⟨_, _, _, _, _, _, _, _, _, rfl, rfl, hq2, by omega, hU5, hM, hUr, HM, gcd_next hgcd.out, hb6⟩
end Go.Proofs.Ytjkogajdpkbjeaa
