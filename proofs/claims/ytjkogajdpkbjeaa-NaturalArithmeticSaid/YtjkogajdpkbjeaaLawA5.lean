/- NaturalArithmetic: the law, where the difference is no number. -/
import Derived.Test.YtjkogajdpkbjeaaLawL
namespace Go.Proofs.Ytjkogajdpkbjeaa
open Go.RowKit
set_option maxHeartbeats 400000
set_option maxRecDepth 100000
set_option linter.unusedSimpArgs false
set_option linter.unusedVariables false

set_option maxHeartbeats 8000000 in
theorem arith_fit_lt (w : World) (A D : Option Addr) (n m c d : Nat) (xs ys : List Nat) (h : LRd w w.heap.size A n c xs) (k : LRd w w.heap.size D m d ys) (hx : vld xs = true) (hy : vld ys = true) (p q : Nat) (hp : vb 4294967296 xs = p) (hq : vb 4294967296 ys = q) (hs : p + q < Big) (hl : p < q) :
    Calls Try.prog 3 #[.slice A n c, .slice D m d] w fun e w' => e = .returned (.bool true) ∧ Below w.heap.size w w' := by
  have hcap := h.cap
  have hcap2 := k.cap
  go_enter Try.func3, Try.ntmps3
  go_wp2_with fail
  refine (pairFault_ok w _ A D n m c d xs ys h k (Nat.le_refl _) hx hy).mono ?_
  rintro e w1 ⟨rfl, hb1⟩
  have hs1 := hb1.size
  have H1 := (h.below hb1 (Nat.le_refl _)).alloc hs1 (.cells #[.int .i64 0, .int .i64 0] 24)
  have K1 := (k.below hb1 (Nat.le_refl _)).alloc hs1 (.cells #[.int .i64 0, .int .i64 0] 24)
  have P1 := FC.new w1 0 0
  have E1 : Below w.heap.size w (w1.alloc (.cells #[.int .i64 0, .int .i64 0] 24)) := hb1.alloc hs1 _
  go_wp2_with fail
  refine (add_fit _ _ A D n m c d p q xs ys H1 K1 (by have := E1.size; omega) hx hy hp hq hs).mono ?_
  rintro e w2 ⟨A1, j1, c1, z1, rfl, hl1, hr1, hb2⟩
  have hs2 := next_lt hb2
  have H2 := (H1.below hb2 (by have := E1.size; omega)).alloc (by have := E1.size; have := hb2.size; omega) (.cells #[.int .i64 0, .int .i64 0] 24)
  have K2 := (K1.below hb2 (by have := E1.size; omega)).alloc (by have := E1.size; have := hb2.size; omega) (.cells #[.int .i64 0, .int .i64 0] 24)
  have E2 : Below w.heap.size w (w2.alloc (.cells #[.int .i64 0, .int .i64 0] 24)) := (E1.trans (hb2.mono (by have := E1.size; omega))).alloc (by have := E1.size; have := hb2.size; omega) _
  have P1 := (P1.below hb2 P1.lt).alloc (.cells #[.int .i64 0, .int .i64 0] 24)
  have P2 := FC.new w2 0 0
  have hl1 := hl1.alloc (Nat.le_refl _) (.cells #[.int .i64 0, .int .i64 0] 24)
  clear H1 K1 E1 hb2
  go_wp2_with fail
  refine (sub_lt _ _ A D n m c d p q xs ys H2 K2 (by have := E2.size; omega) hx hy hp hq hl).mono ?_
  rintro e w3 ⟨A2, j2, c2, z2, rfl, hl2, hr2, hb3⟩
  have hs3 := next_lt hb3
  have H3 := (H2.below hb3 (by have := E2.size; omega)).alloc (by have := E2.size; have := hb3.size; omega) (.cells #[.int .i64 4, .int .i64 (-2)] 24)
  have K3 := (K2.below hb3 (by have := E2.size; omega)).alloc (by have := E2.size; have := hb3.size; omega) (.cells #[.int .i64 4, .int .i64 (-2)] 24)
  have E3 : Below w.heap.size w (w3.alloc (.cells #[.int .i64 4, .int .i64 (-2)] 24)) := (E2.trans (hb3.mono (by have := E2.size; omega))).alloc (by have := E2.size; have := hb3.size; omega) _
  have P1 := (P1.below hb3 P1.lt).alloc (.cells #[.int .i64 4, .int .i64 (-2)] 24)
  have P2 := (P2.below hb3 P2.lt).alloc (.cells #[.int .i64 4, .int .i64 (-2)] 24)
  have P3 := FC.new w3 4 (-2)
  have hl1 := (hl1.below hb3 (by first | omega | (simp; done) | (simp; omega))).alloc (by have := hb3.size; simp at this; omega) (.cells #[.int .i64 4, .int .i64 (-2)] 24)
  have hl2 := hl2.alloc (Nat.le_refl _) (.cells #[.int .i64 4, .int .i64 (-2)] 24)
  clear H2 K2 E2 hb3
  go_wp2_with fail
  refine (mul_u _ _ A D n m c d p q xs ys H3 K3 (by have := E3.size; omega) hx hy hp hq ).mono ?_
  rintro e w4 ⟨mv, m1, m2, hmu, A3, j3, c3, z3, rfl, hl3, hr3, hb4⟩
  have hs4 := next_lt hb4
  have H4 := (H3.below hb4 (by have := E3.size; omega)).alloc (by have := E3.size; have := hb4.size; omega) (.cells #[.int .i64 m1, .int .i64 m2] 24)
  have K4 := (K3.below hb4 (by have := E3.size; omega)).alloc (by have := E3.size; have := hb4.size; omega) (.cells #[.int .i64 m1, .int .i64 m2] 24)
  have E4 : Below w.heap.size w (w4.alloc (.cells #[.int .i64 m1, .int .i64 m2] 24)) := (E3.trans (hb4.mono (by have := E3.size; omega))).alloc (by have := E3.size; have := hb4.size; omega) _
  have P1 := (P1.below hb4 P1.lt).alloc (.cells #[.int .i64 m1, .int .i64 m2] 24)
  have P2 := (P2.below hb4 P2.lt).alloc (.cells #[.int .i64 m1, .int .i64 m2] 24)
  have P3 := (P3.below hb4 P3.lt).alloc (.cells #[.int .i64 m1, .int .i64 m2] 24)
  have P4 := FC.new w4 m1 m2
  have hl1 := (hl1.below hb4 (by first | omega | (simp; done) | (simp; omega))).alloc (by have := hb4.size; simp at this; omega) (.cells #[.int .i64 m1, .int .i64 m2] 24)
  have hl2 := (hl2.below hb4 (by first | omega | (simp; done) | (simp; omega))).alloc (by have := hb4.size; simp at this; omega) (.cells #[.int .i64 m1, .int .i64 m2] 24)
  have hl3 := hl3.alloc (Nat.le_refl _) (.cells #[.int .i64 m1, .int .i64 m2] 24)
  clear H3 K3 E3 hb4
  go_wp2_with fail
  refine (cmp_v _ _ A D n m c d p q xs ys H4 K4 (by have := E4.size; omega) hx hy hp hq ).mono ?_
  rintro e w5 ⟨r, hr, rfl, hb5⟩
  have hs5 := next_lt hb5
  have H5 := (H4.below hb5 (by have := E4.size; omega)).alloc (by have := E4.size; have := hb5.size; omega) (.cells #[.int .i64 0, .int .i64 0] 24)
  have K5 := (K4.below hb5 (by have := E4.size; omega)).alloc (by have := E4.size; have := hb5.size; omega) (.cells #[.int .i64 0, .int .i64 0] 24)
  have E5 : Below w.heap.size w (w5.alloc (.cells #[.int .i64 0, .int .i64 0] 24)) := (E4.trans (hb5.mono (by have := E4.size; omega))).alloc (by have := E4.size; have := hb5.size; omega) _
  have P1 := (P1.below hb5 P1.lt).alloc (.cells #[.int .i64 0, .int .i64 0] 24)
  have P2 := (P2.below hb5 P2.lt).alloc (.cells #[.int .i64 0, .int .i64 0] 24)
  have P3 := (P3.below hb5 P3.lt).alloc (.cells #[.int .i64 0, .int .i64 0] 24)
  have P4 := (P4.below hb5 P4.lt).alloc (.cells #[.int .i64 0, .int .i64 0] 24)
  have P5 := FC.new w5 0 0
  have hl1 := (hl1.below hb5 (by first | omega | (simp; done) | (simp; omega))).alloc (by have := hb5.size; simp at this; omega) (.cells #[.int .i64 0, .int .i64 0] 24)
  have hl2 := (hl2.below hb5 (by first | omega | (simp; done) | (simp; omega))).alloc (by have := hb5.size; simp at this; omega) (.cells #[.int .i64 0, .int .i64 0] 24)
  have hl3 := (hl3.below hb5 (by first | omega | (simp; done) | (simp; omega))).alloc (by have := hb5.size; simp at this; omega) (.cells #[.int .i64 0, .int .i64 0] 24)
  clear H4 K4 E4 hb5
  have G0 : Below (w5.heap.size + 1) (w5.alloc (.cells #[.int .i64 0, .int .i64 0] 24)) (w5.alloc (.cells #[.int .i64 0, .int .i64 0] 24)).drew := Below.drew (Below.refl _ _)
  have hwB : w.heap.size ≤ w5.heap.size + 1 := by have := E5.size; simp at this; omega
  have z5 : (w5.alloc (.cells #[.int .i64 0, .int .i64 0] 24)).heap.size = w5.heap.size + 1 := by simp
  go_upto_region 6 with fail
  go_cut [62] (fun s62 wx => s62 = .bool false ∧ Below (w5.heap.size + 1) (w5.alloc (.cells #[.int .i64 0, .int .i64 0] 24)) wx)
  case first =>
    go_region_with (first
      | (go_at_call 13; refine (sums_any _).mono ?_; rintro e w6 ⟨rfl, hb6⟩; obtain ⟨S6, q10, q11, q20, q21⟩ := r6_next z5 P1 P2 G0 hb6)
      | (go_at_call 14; refine (valid_t _ _ A n c xs (H5.below S6 hwB) hx).mono ?_; rintro e w' ⟨rfl, rfl⟩)
      | (go_at_call 15; refine (nok_t _ _ A n c xs (H5.below S6 hwB) hx).mono ?_; rintro e w' ⟨rfl, rfl⟩)
      | (go_at_call 16; refine (at_any _ _ _).mono ?_; rintro e w7 ⟨rfl, hb7⟩; have S6' := S6; obtain ⟨S6, q10, q11, q20, q21⟩ := r6_next z5 P1 P2 S6' hb7))
    all_goals (go_wp2_with fail; go_meet; exact ⟨rfl, S6⟩)
  case rest =>
  obtain ⟨rfl, hS⟩ := hcut
  have hsz := hS.size
  rw [z5] at hsz
  obtain rfl := nil_len hr2 hl2.len.out
  have H6 := H5.below hS hwB
  have K6 := K5.below hS hwB
  have P1 := P1.below hS (by have := P1.lt; omega)
  have P2 := P2.below hS (by have := P2.lt; omega)
  have P3 := P3.below hS (by have := P3.lt; omega)
  have P4 := P4.below hS (by have := P4.lt; omega)
  have P5 := P5.below hS (by have := P5.lt; omega)
  have hl1 := hl1.below hS (by omega)
  have hl2 := hl2.below hS (by omega)
  have hl3 := hl3.below hS (by omega)
  have hn : n ≤ 600 := by have := (vld_top hx).2; have := h.len.out; omega
  have hm : m ≤ 600 := by have := (vld_top hy).2; have := k.len.out; omega
  have E6 := E5.trans (hS.mono hwB)
  clear E5 H5 K5 hS G0
  obtain ⟨q10, q11, q12⟩ := id P1
  go_wp2_with fail
  refine (of_fresh _ _ A n c xs H6 E6.size (by omega)).mono ?_
  rintro e w7 ⟨⟨A7, k7, c7, ds, rfl, hd7, hrd7, hb7⟩, hf7⟩
  have hf7 := hf7 A7 k7 c7 rfl
  have K7 := K6.below hb7 E6.size
  have E7 := E6.trans (hb7.mono E6.size)
  go_wp2_with fail
  refine (of_fresh _ _ D m d ys K7 E7.size (by omega)).mono ?_
  rintro e w8 ⟨⟨A8, k8, c8, es, rfl, hd8, hrd8, hb8⟩, hf8⟩
  have hf8 := hf8 A8 k8 c8 rfl
  have hwc := hb7.size
  have hg7 : w1.heap.size < wc.heap.size := P1.lt
  have E8 := E7.trans (hb8.mono E7.size)
  have hd7 := (hd7.below hb8 (Nat.le_refl _)).more hb8.size
  rw [hp] at hrd7
  rw [hq] at hrd8
  go_wp2_with fail
  refine (compareD_any _ _ A7 A8 k7 k8 c7 c8 ds es hd7 hd8).mono ?_
  rintro e w9 ⟨r', rfl, hcr, kk, hkk⟩
  obtain rfl : r = r' := hr.unique (cmp_rep (by decide) hcr hd7.len.out hd8.len.out hrd7 hrd8)
  have E9 : Below w.heap.size w w9 := by rw [hkk]; exact below_drewN E8 kk
  have hd7 : DRd w9 w8.heap.size A7 k7 c7 ds := by rw [hkk]; exact hd7.drewN kk
  have hd8 : DRd w9 w8.heap.size A8 k8 c8 es := by rw [hkk]; exact hd8.drewN kk
  have hz9 : w9.heap.size = w8.heap.size := by rw [hkk]; rfl
  have P1 := (P1.below hb7 P1.lt).below hb8 (by have := P1.lt; have := hb7.size; omega)
  have P1 : FC w9 w1.heap.size 0 0 := by rw [hkk]; exact P1.drewN kk
  have P1' := P1.drew
  have P2 := (P2.below hb7 P2.lt).below hb8 (by have := P2.lt; have := hb7.size; omega)
  have P2 : FC w9 w2.heap.size 0 0 := by rw [hkk]; exact P2.drewN kk
  have P2' := P2.drew
  have P3 := (P3.below hb7 P3.lt).below hb8 (by have := P3.lt; have := hb7.size; omega)
  have P3 : FC w9 w3.heap.size 4 (-2) := by rw [hkk]; exact P3.drewN kk
  have P3' := P3.drew
  have P4 := (P4.below hb7 P4.lt).below hb8 (by have := P4.lt; have := hb7.size; omega)
  have P4 : FC w9 w4.heap.size m1 m2 := by rw [hkk]; exact P4.drewN kk
  have P4' := P4.drew
  have P5 := (P5.below hb7 P5.lt).below hb8 (by have := P5.lt; have := hb7.size; omega)
  have P5 : FC w9 w5.heap.size 0 0 := by rw [hkk]; exact P5.drewN kk
  have P5' := P5.drew
  have hl1 := (hl1.below hb7 (by omega)).below hb8 (by have := hb7.size; omega)
  have hl1 : LRd w9 w2.heap.size A1 j1 c1 z1 := by rw [hkk]; exact hl1.drewN kk
  have hl2 := (hl2.below hb7 (by omega)).below hb8 (by have := hb7.size; omega)
  have hl2 : LRd w9 w3.heap.size A2 0 c2 z2 := by rw [hkk]; exact hl2.drewN kk
  have hl3 := (hl3.below hb7 (by omega)).below hb8 (by have := hb7.size; omega)
  have hl3 : LRd w9 w4.heap.size A3 j3 c3 z3 := by rw [hkk]; exact hl3.drewN kk
  clear hkk
  have hrr := hr
  unfold CmpV at hrr
  obtain rfl : r = -1 := by omega
  clear hrr
  go_upto_region 13 with fail
  go_cut [] (fun wx => FC wx w1.heap.size 4 (-2) ∧ FC wx w2.heap.size 0 0 ∧ FC wx w3.heap.size 4 (-2) ∧ FC wx w4.heap.size m1 m2 ∧ FC wx w5.heap.size 0 0 ∧ LRd wx w2.heap.size A1 j1 c1 z1 ∧ LRd wx w4.heap.size A3 j3 c3 z3 ∧ DRd wx w8.heap.size A7 k7 c7 ds ∧ DRd wx w8.heap.size A8 k8 c8 es ∧ Below w.heap.size w wx ∧ w8.heap.size ≤ wx.heap.size)
  case first =>
    go_wp2_with fail
    refine (at_any _ _ _).mono ?_
    rintro e w10 ⟨rfl, hb10⟩
    have R1 := P1.below hb10 P1.lt
    have R2 := P2.below hb10 P2.lt
    have R3 := P3.below hb10 P3.lt
    have R4 := P4.below hb10 P4.lt
    have R5 := P5.below hb10 P5.lt
    have r10 := R1.c0
    have r11 := R1.c1
    have r13 := R1.fz 0
    have r14 := R1.fz 1
    have R6 := (hl1.below hb10 (by have := P5.lt; omega)).setI (p := ⟨w1.heap.size, 0, none⟩) r10 (.int .i64 4)
    have R7 := (hl3.below hb10 (by have := P5.lt; omega)).setI (p := ⟨w1.heap.size, 0, none⟩) r10 (.int .i64 4)
    have r12 : (w10.setCell ⟨w1.heap.size, 0, none⟩ (.int .i64 4)).cell? ⟨w1.heap.size, 1, none⟩ = some (.int .i64 0) := (World.cell?_setCell_other w10 ⟨w1.heap.size, 0, none⟩ ⟨w1.heap.size, 1, none⟩ _ (fun e => by injection e; omega)).trans r11
    have R6 := R6.setI r12 (.int .i64 (-2))
    have R7 := R7.setI r12 (.int .i64 (-2))
    have R8 := ((hd7.below hb10 (by omega)).setF hf7 hg7 0 (.int .i64 4)).setF hf7 hg7 1 (.int .i64 (-2))
    have R9 := ((hd8.below hb10 (by omega)).setF hf8 (by omega : w1.heap.size < _) 0 (.int .i64 4)).setF hf8 (by omega : w1.heap.size < _) 1 (.int .i64 (-2))
    have q1 := (R1.store 4 (-2))
    have q2 := (R2.set (g' := w1.heap.size) (by omega) 0 (.int .i64 4)).set (g' := w1.heap.size) (by omega) 1 (.int .i64 (-2))
    have q3 := (R3.set (g' := w1.heap.size) (by omega) 0 (.int .i64 4)).set (g' := w1.heap.size) (by omega) 1 (.int .i64 (-2))
    have q4 := (R4.set (g' := w1.heap.size) (by omega) 0 (.int .i64 4)).set (g' := w1.heap.size) (by omega) 1 (.int .i64 (-2))
    have q5 := (R5.set (g' := w1.heap.size) (by omega) 0 (.int .i64 4)).set (g' := w1.heap.size) (by omega) 1 (.int .i64 (-2))
    have q6 : Below w.heap.size w ((w10.setCell ⟨w1.heap.size, 0, none⟩ (.int .i64 4)).setCell ⟨w1.heap.size, 1, none⟩ (.int .i64 (-2))) := ((E9.trans (hb10.mono E9.size)).setCell (by simp; omega) _).setCell (by simp; omega) _
    have q7 : w8.heap.size ≤ ((w10.setCell ⟨w1.heap.size, 0, none⟩ (.int .i64 4)).setCell ⟨w1.heap.size, 1, none⟩ (.int .i64 (-2))).heap.size := by have := hb10.size; simp; omega
    clear R2 R3 R4 R5 P1 P1' P2 P2' P3 P3' P4 P4' P5 P5' hl1 hl2 hl3 hd7 hd8
    go_wp2_with fail
    go_meet
    exact ⟨q1, q2, q3, q4, q5, R6, R7, R8, R9, q6, q7⟩
  case rest =>
  clear P1 P1' P2 P2' P3 P3' P4 P4' P5 P5' hl1 hl2 hl3 hd7 hd8 E9 hf7 hf8
  obtain ⟨P1, P2, P3, P4, P5, hl1, hl3, hd7, hd8, E9, hz9⟩ := hcut
  have P2' := P2.drew
  have P4' := P4.drew
  have P5' := P5.drew
  generalize wc = w9 at *
  have hpB : p < Big := by rw [← hp]; exact vld_lt h.lim hx
  have hqB : q < Big := by rw [← hq]; exact vld_lt k.lim hy
  have hk7 := fitD_len hrd7 hd7.len.out hpB
  have hk8 := fitD_len hrd8 hd8.len.out hqB
  obtain ⟨MM, hM1, hM2, hM3⟩ : ∃ MM, k7 ≤ MM ∧ k8 ≤ MM ∧ (MM = k7 ∨ MM = k8) := by
    rcases Nat.le_total k7 k8 with e | e
    · exact ⟨k8, e, Nat.le_refl _, .inr rfl⟩
    · exact ⟨k7, Nat.le_refl _, e, .inl rfl⟩
  have hzz : w8.heap.size ≤ w9.drew.heap.size := by simpa using hz9
  have g1 := P1.lt
  have hs9 : w5.heap.size < w9.heap.size := P5.lt
  have D7 := hd7.drew
  have D8 := hd8.drew
  have G9 : Below w9.heap.size w9 w9.drew := Below.drew (Below.refl _ _)
  have M7 := hl1.drew
  have M8 := hl3.drew
  obtain ⟨a10, a11, _⟩ := id P2'
  obtain ⟨a20, a21, _⟩ := id P5'
  obtain ⟨a30, a31, _⟩ := id P4'
  have le9 : w8.heap.size ≤ w9.heap.size := by omega
  have le2 : w2.heap.size ≤ w9.heap.size := by omega
  have le4 : w4.heap.size ≤ w9.heap.size := by omega
  have hM4 : MM ≤ 10000000000000 := by omega
  have hk7' : k7 ≤ 1000000000000 := by omega
  have hk8' : k8 ≤ 1000000000000 := by omega
  go_upto_region 14 with fail
  go_cut [136] (fun s wx => s = .bool false ∧ Below w9.heap.size w9 wx)
  case first =>
    go_region_held3 (fun v => Below w9.heap.size w9 v ∧ v.cell? ⟨w2.heap.size, 0, none⟩ = some (.int .i64 0) ∧ v.cell? ⟨w2.heap.size, 1, none⟩ = some (.int .i64 0) ∧ v.cell? ⟨w4.heap.size, 0, none⟩ = some (.int .i64 m1) ∧ v.cell? ⟨w4.heap.size, 1, none⟩ = some (.int .i64 m2) ∧ v.cell? ⟨w5.heap.size, 0, none⟩ = some (.int .i64 0) ∧ v.cell? ⟨w5.heap.size, 1, none⟩ = some (.int .i64 0))
      (first
        | exact r14_at P2 P4 P5 G9
        | (go_split_ands; exact r14_next P2 P4 P5 (by assumption) hb14)
        | (refine r14_next P2 P4 P5 (by assumption) hb14))
      (first
      | (go_at_call 20; try go_split_ands; refine (plus_any _ w8.heap.size A7 A8 k7 k8 c7 c8 MM ds es (hd7.below (by assumption) le9) (hd8.below (by assumption) le9) (le_at2 hz9 (by assumption)) hM1 hM2 hM4 hM3).mono ?_; rintro e wp ⟨Ap, kp, cp, ps, rfl, hdp, hrp, hb14⟩; rw [hrd7.val, hrd8.val] at hrp)
      | (go_at_call_of 19 (Value.slice A1 j1 c1); try go_split_ands; refine (is_u _ _ A1 Ap j1 kp c1 cp (p + q) (p + q) 0 0 z1 ps (l_at hl1 (by assumption) le2) hdp (Nat.le_refl _) hr1 hrp (.inl ⟨hs, rfl, rfl, rfl⟩)).mono ?_; rintro e wi ⟨rfl, hb14⟩)
      | (go_at_call 21; try go_split_ands; refine (times_any _ w8.heap.size A7 A8 k7 k8 c7 c8 ds es (hd7.below (by assumption) le9) (hd8.below (by assumption) le9) (le_at2 hz9 (by assumption)) hk7' hk8').mono ?_; rintro e wt ⟨At, kt, ct, ts, rfl, hdt, hrt, hb14⟩; rw [hrd7.val, hrd8.val] at hrt)
      | (go_at_call_of 19 (Value.slice A3 j3 c3); try go_split_ands; refine (is_u _ _ A3 At j3 kt c3 ct (p * q) mv m1 m2 z3 ts (l_at hl3 (by assumption) le4) hdt (Nat.le_refl _) hr3 hrt hmu).mono ?_; rintro e wj ⟨rfl, hb14⟩))
    all_goals (go_wp2_with fail; go_meet; (try go_split_ands); exact ⟨rfl, by assumption⟩)
  case rest =>
  obtain ⟨rfl, hS⟩ := hcut
  have sc := hS.size
  have E10 := E9.trans (hS.mono (by have := E9.size; omega))
  have hd7 := hd7.below hS (by omega)
  have hd8 := hd8.below hS (by omega)
  have P1 := P1.below hS P1.lt
  have P3 := P3.below hS P3.lt
  have z1 := P1.c0
  have z2 := P1.c1
  have z3 := P3.c0
  have z4 := P3.c1
  go_wp2_with fail
  refine (is_err _ A2 none 0 c2 0 4 (-2) (by decide)).mono ?_
  rintro e wn ⟨rfl, hbn⟩
  go_wp2_with fail
  go_ret
  refine ⟨by first | rfl | (simp; done), E10.trans (hbn.mono E10.size)⟩
end Go.Proofs.Ytjkogajdpkbjeaa
