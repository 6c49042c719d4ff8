/- The program's combine: lemmas; and. -/
import Derived.Test.YtpjfoggohhlbdaaVBit3
import Derived.Test.YtpjfoggohhlbdaaVAri1
import Derived.Deep.RegionHeld3
import Derived.Deep.DeepCutAuto
namespace Go.Proofs.Ytpjfoggohhlbdaa
open Go.RowKit
set_option maxHeartbeats 400000
set_option maxRecDepth 100000
set_option linter.unusedSimpArgs false
set_option linter.unusedVariables false

def CombPost (f : Bool → Bool → Bool) (a b : Int) (w : World) (e : Ending) (w' : World) : Prop := ∃ z, ZOp f a b z ∧ GivesVL w z e w'
theorem cplv (w : World) (B : Nat) (m : Bool) (A : Option Addr) (n c : Nat) (xs : List Nat) (N : Nat) (HA : LRd w B A n c xs) (hB : B ≤ w.heap.size) (oa : (IV.mk m A n c xs).ok = true) (hN : n ≤ N) (hN2 : N ≤ 600) :
    Calls Try.prog 116 #[intv m A n c, .int .i64 (N : Int)] w (CplPost (IV.mk m A n c xs) N w) := complement_any w B (IV.mk m A n c xs) N HA hB oa hN hN2
theorem val_high {a : IV} (oa : a.ok = true) (hl : Lim a.xs) {N j : Nat} (hn : a.xs.length ≤ N) (hj : 32 * N ≤ j) : zbit a.val j = a.neg := by
  have h1 : 32 * a.xs.length ≤ j := by omega
  cases hn : a.neg
  · rw [IV.vpos hn]
    exact vb_high hl h1
  · have h2 := IV.neg_lt oa hl hn
    rw [IV.vneg hn] at h2 ⊢
    have h3 : -((vb 4294967296 a.xs : Nat) : Int) = Int.negSucc (vb 4294967296 a.xs - 1) := by rw [Int.negSucc_eq]; omega
    rw [h3]
    show (!((vb 4294967296 a.xs - 1).testBit j)) = true
    rw [testBit_high]; rfl
    have h4 := vb_lt (b := 4294967296) (xs := a.xs) (by decide) hl
    have h5 : 4294967296 ^ a.xs.length = 2 ^ (32 * a.xs.length) := by rw [Nat.pow_mul]
    have h6 : 2 ^ (32 * a.xs.length) ≤ 2 ^ j := Nat.pow_le_pow_right (by decide) h1
    omega
def CbRel (op : Nat → Nat → Nat) (N gr BY : Nat) (cx cy : List Nat) (W : World) (i : Value) (wr : World) : Prop :=
  ∃ j rs, j ≤ N ∧ i = .int .i64 ((j : Nat) : Int) ∧ R32 wr gr rs ∧ rs.length = N ∧ Lim rs ∧ Hid (∀ t, t < j → rs.getD t 0 = (op (cx.getD t 0) (cy.getD t 0)) ^^^ BY) ∧ Below gr W wr
theorem cb_step {op : Nat → Nat → Nat} {j N BY : Nat} {cx cy rs : List Nat} (hl : rs.length = N) (hj : j < N) (h : ∀ t, t < j → rs.getD t 0 = (op (cx.getD t 0) (cy.getD t 0)) ^^^ BY) :
    ∀ t, t < j + 1 → (rs.set j ((op (cx.getD j 0) (cy.getD j 0)) ^^^ BY)).getD t 0 = (op (cx.getD t 0) (cy.getD t 0)) ^^^ BY := by
  intro t ht
  rw [getD_set _ _ _ _ (by omega)]
  by_cases e : j = t
  · subst e; rw [if_pos rfl]
  · rw [if_neg e]; exact h t (by omega)
theorem xor_lt {x y : Nat} (hx : x < 4294967296) (hy : y < 4294967296) : x ^^^ y < 4294967296 := Nat.xor_lt_two_pow (n := 32) hx hy
theorem and_lt {x y : Nat} (hx : x < 4294967296) (hy : y < 4294967296) : x &&& y < 4294967296 := Nat.lt_of_le_of_lt Nat.and_le_left hx
theorem or_lt {x y : Nat} (hx : x < 4294967296) (hy : y < 4294967296) : x ||| y < 4294967296 := Nat.or_lt_two_pow (n := 32) hx hy
theorem sgl_lt (m : Bool) : sgl m < 4294967296 := by cases m <;> decide
theorem sgl_and (p q : Bool) : sgl p &&& sgl q = sgl (p && q) := by cases p <;> cases q <;> decide
theorem sgl_or (p q : Bool) : sgl p ||| sgl q = sgl (p || q) := by cases p <;> cases q <;> decide
theorem sgl_xor (p q : Bool) : sgl p ^^^ sgl q = sgl (p != q) := by cases p <;> cases q <;> decide
theorem xlittrue {x : Nat} (h : x < 4294967296) : bits BinOp.xor IntKind.u32 (x : Int) 4294967295 = ((x ^^^ 4294967295 : Nat) : Int) := u32_xor_nat x 4294967295 h (by decide)
theorem xlitfalse {x : Nat} (h : x < 4294967296) : bits BinOp.xor IntKind.u32 (x : Int) 0 = ((x ^^^ 0 : Nat) : Int) := u32_xor_nat x 0 h (by decide)
theorem yr_vl {w w' : World} {z z' f1 f2 : Int} {e : Ending} (h : YR z z' f1 f2) (k : GivesVF w z' f1 f2 e w') : GivesVL w z e w' := by
  rcases h with ⟨h1, rfl, rfl, rfl⟩ | ⟨h1, rfl, rfl, rfl⟩
  · exact .inl ⟨h1, k⟩
  · exact .inr ⟨h1, k⟩
theorem top_lt_big : Top128 < Big := by
  obtain ⟨m, hm⟩ : ∃ m, m = 128 := ⟨_, rfl⟩
  rw [top128 hm, big_pow (m := m + 472) (by omega)]
  exact Nat.pow_lt_pow_right (by decide) (by omega)
set_option maxHeartbeats 8000000 in
theorem comb_and_false (w : World) (a b : IV) (HA : a.at w w.heap.size) (HB : b.at w w.heap.size) (oa : a.ok = true) (ob : b.ok = true) (HNB : Hid ((fun p q => p && q) a.neg b.neg = false)) :
    Calls Try.prog 93 #[a.v, b.v, (.func (Fn.func 94) #[] #[])] w (CombPost (fun p q => p && q) a.val b.val w) := by
  have hf : ffault [a, b] 0 = (0, 0) := two_ok oa ob
  have BYE := Lib.hid (show ((sgl a.neg &&& sgl b.neg : Nat) : Int) = 0 by have h := HNB.out; rw [sgl_and]; show ((sgl ((fun p q => p && q) a.neg b.neg) : Nat) : Int) = _; rw [h]; rfl)
  have hlA : a.n ≤ 128 := by have := (IV.vld oa).2; have := HA.len.out; omega
  have hlB : b.n ≤ 128 := by have := (IV.vld ob).2; have := HB.len.out; omega
  have LA := Lib.hid HA.lim
  have LB := Lib.hid HB.lim
  have LNA := Lib.hid HA.len.out
  have LNB := Lib.hid HB.len.out
  replace HA : LRd w w.heap.size a.A a.n a.c a.xs := HA
  replace HB : LRd w w.heap.size b.A b.n b.c b.xs := HB
  have E : Below w.heap.size w w := Below.refl _ _
  have IR := Lib.hid (irow2 ((((w.alloc a.cells).alloc b.cells).alloc (.cells #[.bool false, .slice none 0 0] 24)).alloc (.cells #[.int .i64 0, .int .i64 0] 26)) w.heap.size a b ((((HA.alloc (Nat.le_refl _) _).alloc (by simp) _).alloc (by simp; omega) _).alloc (by simp; omega) _) ((((HB.alloc (Nat.le_refl _) _).alloc (by simp) _).alloc (by simp; omega) _).alloc (by simp; omega) _) (by simp; omega))
  go_enter Try.func93, Try.ntmps93
  go_wp2_with fail
  obtain ⟨V0, hV0⟩ : ∃ V0 : World, V0 = (((((w.alloc (.cells #[.bool a.neg, .slice a.A a.n a.c] 24)).alloc (.cells #[.bool b.neg, .slice b.A b.n b.c] 24)).alloc (.cells #[.bool false, .slice none 0 0] 24)).alloc (.cells #[.int .i64 0, .int .i64 0] 26)).alloc (.cells #[.bool a.neg, .slice a.A a.n a.c, .bool b.neg, .slice b.A b.n b.c] 24)) := ⟨_, rfl⟩
  have bV0 : Below w.heap.size w V0 := by rw [hV0]; (repeat (first | with_reducible exact Below.refl _ _ | with_reducible refine Below.drew ?_ | with_reducible refine below_drewN ?_ _ | with_reducible refine Below.setCell ?_ (by first | (simp; done) | (simp; omega) | omega) _ | with_reducible refine Below.alloc ?_ (by first | (simp; done) | (simp; omega) | omega) _))
  have zV0 : w.heap.size + 5 ≤ V0.heap.size := by rw [hV0]; simp
  have PA : Bk2 V0 (w.heap.size) (.bool a.neg) (.slice a.A a.n a.c) := by rw [hV0]; exact (((((Bk2.newAt _ _ (by simp) _ _ _).alloc _).alloc _).alloc _).alloc _)
  have PB : Bk2 V0 (w.heap.size + 1) (.bool b.neg) (.slice b.A b.n b.c) := by rw [hV0]; exact ((((Bk2.newAt _ _ (by simp) _ _ _).alloc _).alloc _).alloc _)
  have PR : Bk2 V0 (w.heap.size + 2) (.bool false) (.slice none 0 0) := by rw [hV0]; exact (((Bk2.newAt _ _ (by simp) _ _ _).alloc _).alloc _)
  have PF : Bk2 V0 (w.heap.size + 3) (.int .i64 0) (.int .i64 0) := by rw [hV0]; exact ((Bk2.newAt _ _ (by simp) _ _ _).alloc _)
  replace IR : Hid (IRow V0 w.heap.size (w.heap.size + 4) [a, b]) := by have h9 := IR.out; rw [hV0]; rw [show ((((w.alloc a.cells).alloc b.cells).alloc (.cells #[.bool false, .slice none 0 0] 24)).alloc (.cells #[.int .i64 0, .int .i64 0] 26)).heap.size = w.heap.size + 4 by simp] at h9; exact h9
  rw [← hV0]
  clear hV0
  replace E : Below w.heap.size w V0 := E.trans (bV0.mono E.size)
  replace HA : LRd V0 (w.heap.size) a.A a.n a.c a.xs := HA.below bV0 (by omega)
  replace HB : LRd V0 (w.heap.size) b.A b.n b.c b.xs := HB.below bV0 (by omega)
  clear bV0
  (with_reducible refine (check_any _ w.heap.size (w.heap.size + 4) 2 [a, b] IR.out rfl (by omega) (by omega)).mono ?_)
  rintro e w1 ⟨rfl, hb1⟩
  have sw1 := hb1.size
  replace E : Below w.heap.size w w1 := E.trans (hb1.mono E.size)
  replace HA : LRd w1 (w.heap.size) a.A a.n a.c a.xs := HA.below hb1 (by omega)
  replace HB : LRd w1 (w.heap.size) b.A b.n b.c b.xs := HB.below hb1 (by omega)
  replace PA : Bk2 w1 (w.heap.size) (.bool a.neg) (.slice a.A a.n a.c) := PA.below hb1 PA.lt
  replace PB : Bk2 w1 (w.heap.size + 1) (.bool b.neg) (.slice b.A b.n b.c) := PB.below hb1 PB.lt
  replace PR : Bk2 w1 (w.heap.size + 2) (.bool false) (.slice none 0 0) := PR.below hb1 PR.lt
  replace PF : Bk2 w1 (w.heap.size + 3) (.int .i64 0) (.int .i64 0) := PF.below hb1 PF.lt
  clear hb1
  rw [hf]
  clear IR
  have t_PA0 : (w1.alloc (.cells #[.int .i64 0, .int .i64 0] 26)).cell? ⟨w.heap.size, 0, none⟩ = some ((.bool a.neg)) := (PA.alloc _).c0
  have t_PA1 : (w1.alloc (.cells #[.int .i64 0, .int .i64 0] 26)).cell? ⟨w.heap.size, 1, none⟩ = some ((.slice a.A a.n a.c)) := (PA.alloc _).c1
  have t_PB0 : (w1.alloc (.cells #[.int .i64 0, .int .i64 0] 26)).cell? ⟨w.heap.size + 1, 0, none⟩ = some ((.bool b.neg)) := (PB.alloc _).c0
  have t_PB1 : (w1.alloc (.cells #[.int .i64 0, .int .i64 0] 26)).cell? ⟨w.heap.size + 1, 1, none⟩ = some ((.slice b.A b.n b.c)) := (PB.alloc _).c1
  go_upto_region 5 with fail
  clear t_PA0 t_PA1 t_PB0 t_PB1
  obtain ⟨V1, hV1⟩ : ∃ V1 : World, V1 = (w1.alloc (.cells #[.int .i64 0, .int .i64 0] 26)) := ⟨_, rfl⟩
  have bV1 : Below w1.heap.size w1 V1 := by rw [hV1]; (repeat (first | with_reducible exact Below.refl _ _ | with_reducible refine Below.drew ?_ | with_reducible refine below_drewN ?_ _ | with_reducible refine Below.setCell ?_ (by first | (simp; done) | (simp; omega) | omega) _ | with_reducible refine Below.alloc ?_ (by first | (simp; done) | (simp; omega) | omega) _))
  have zV1 : w1.heap.size + 1 ≤ V1.heap.size := by rw [hV1]; simp
  have F8 : Bk2 V1 (w1.heap.size) (.int .i64 0) (.int .i64 0) := by rw [hV1]; exact (Bk2.newAt _ _ (by simp) _ _ _)
  rw [← hV1]
  clear hV1
  replace E : Below w.heap.size w V1 := E.trans (bV1.mono E.size)
  replace HA : LRd V1 (w.heap.size) a.A a.n a.c a.xs := HA.below bV1 (by omega)
  replace HB : LRd V1 (w.heap.size) b.A b.n b.c b.xs := HB.below bV1 (by omega)
  replace PA : Bk2 V1 (w.heap.size) (.bool a.neg) (.slice a.A a.n a.c) := PA.below bV1 PA.lt
  replace PB : Bk2 V1 (w.heap.size + 1) (.bool b.neg) (.slice b.A b.n b.c) := PB.below bV1 PB.lt
  replace PR : Bk2 V1 (w.heap.size + 2) (.bool false) (.slice none 0 0) := PR.below bV1 PR.lt
  replace PF : Bk2 V1 (w.heap.size + 3) (.int .i64 0) (.int .i64 0) := PF.below bV1 PF.lt
  clear bV1
  clear F8
  obtain ⟨N, hN, hnA, hnB, hN2⟩ : ∃ N : Nat, max (a.n : Int) (b.n : Int) = (N : Int) ∧ a.n ≤ N ∧ b.n ≤ N ∧ N ≤ 128 := ⟨max a.n b.n, by omega, by omega, by omega, by omega⟩
  rw [hN]
  clear hN
  have G0 : Below V1.heap.size V1 V1.drew := Below.drew (Below.refl _ _)
  have HS := Lib.hid (fun (u : World) (hu : Below V1.heap.size V1 u) => (⟨hu, (PA.below hu PA.lt).c0, (PA.below hu PA.lt).c1, (PB.below hu PB.lt).c0, (PB.below hu PB.lt).c1⟩ : Below V1.heap.size V1 u ∧ u.cell? ⟨w.heap.size, 0, none⟩ = some (.bool a.neg) ∧ u.cell? ⟨w.heap.size, 1, none⟩ = some (.slice a.A a.n a.c) ∧ u.cell? ⟨w.heap.size + 1, 0, none⟩ = some (.bool b.neg) ∧ u.cell? ⟨w.heap.size + 1, 1, none⟩ = some (.slice b.A b.n b.c)))
  go_region_held3 (fun u => Below V1.heap.size V1 u ∧ u.cell? ⟨w.heap.size, 0, none⟩ = some (.bool a.neg) ∧ u.cell? ⟨w.heap.size, 1, none⟩ = some (.slice a.A a.n a.c) ∧ u.cell? ⟨w.heap.size + 1, 0, none⟩ = some (.bool b.neg) ∧ u.cell? ⟨w.heap.size + 1, 1, none⟩ = some (.slice b.A b.n b.c)) (first | with_reducible exact HS.out _ G0 | with_reducible exact HS.out _ B2 | with_reducible exact HS.out _ B1 | fail)
    (first
      | (go_at_call 116; (with_reducible refine (cplv _ w.heap.size a.neg a.A a.n a.c a.xs N (HA.below G0 (by omega)) (by have := G0.size; omega) oa hnA (by omega)).mono ?_); rintro e u1 ⟨gx, cx, rfl, hRx, hlx, hLx, hgx, hbx, hb1⟩; have B1 : Below V1.heap.size V1 u1 := bnext G0 hb1; have HBX := Lib.hid hbx; clear hbx)
      | (go_at_call 116; (with_reducible refine (cplv _ w.heap.size b.neg b.A b.n b.c b.xs N (HB.below B1 (by omega)) (by have := B1.size; omega) ob hnB (by omega)).mono ?_); rintro e u2 ⟨gy, cy, rfl, hRy, hly, hLy, hgy, hby, hb2⟩; have B2 : Below V1.heap.size V1 u2 := bnext B1 hb2; have HBY := Lib.hid hby; clear hby; have hRx2 := hRx.below hb2 hRx.lt)
      | fail)
  clear HS G0 hRx hb1 hb2 B1
  have hgx2 : gx < u2.heap.size := hRx2.lt
  have hgy2 : gy < u2.heap.size := hRy.lt
  have s2 := B2.size
  have hmk := mk32 N (by omega)
  replace E : Below w.heap.size w u2 := E.trans (B2.mono E.size)
  replace HA : LRd u2 (w.heap.size) a.A a.n a.c a.xs := HA.below B2 (by omega)
  replace HB : LRd u2 (w.heap.size) b.A b.n b.c b.xs := HB.below B2 (by omega)
  replace PA : Bk2 u2 (w.heap.size) (.bool a.neg) (.slice a.A a.n a.c) := PA.below B2 PA.lt
  replace PB : Bk2 u2 (w.heap.size + 1) (.bool b.neg) (.slice b.A b.n b.c) := PB.below B2 PB.lt
  replace PR : Bk2 u2 (w.heap.size + 2) (.bool false) (.slice none 0 0) := PR.below B2 PR.lt
  replace PF : Bk2 u2 (w.heap.size + 3) (.int .i64 0) (.int .i64 0) := PF.below B2 PF.lt
  clear B2
  clear HA HB
  have t_PA0 : (u2.alloc (.cells (Array.replicate N (Value.int .u32 0)) 66)).cell? ⟨w.heap.size, 0, none⟩ = some ((.bool a.neg)) := (PA.alloc _).c0
  have t_PA1 : (u2.alloc (.cells (Array.replicate N (Value.int .u32 0)) 66)).cell? ⟨w.heap.size, 1, none⟩ = some ((.slice a.A a.n a.c)) := (PA.alloc _).c1
  have t_PB0 : (u2.alloc (.cells (Array.replicate N (Value.int .u32 0)) 66)).cell? ⟨w.heap.size + 1, 0, none⟩ = some ((.bool b.neg)) := (PB.alloc _).c0
  have t_PB1 : (u2.alloc (.cells (Array.replicate N (Value.int .u32 0)) 66)).cell? ⟨w.heap.size + 1, 1, none⟩ = some ((.slice b.A b.n b.c)) := (PB.alloc _).c1
  go_upto_region 7 with fail
  clear t_PA0 t_PA1 t_PB0 t_PB1
  obtain ⟨V2, hV2⟩ : ∃ V2 : World, V2 = (u2.alloc (.cells (Array.replicate N (Value.int .u32 0)) 66)) := ⟨_, rfl⟩
  have bV2 : Below u2.heap.size u2 V2 := by rw [hV2]; (repeat (first | with_reducible exact Below.refl _ _ | with_reducible refine Below.drew ?_ | with_reducible refine below_drewN ?_ _ | with_reducible refine Below.setCell ?_ (by first | (simp; done) | (simp; omega) | omega) _ | with_reducible refine Below.alloc ?_ (by first | (simp; done) | (simp; omega) | omega) _))
  have zV2 : u2.heap.size + 1 ≤ V2.heap.size := by rw [hV2]; simp
  have HR : R32 V2 u2.heap.size (List.replicate N 0) := by rw [hV2]; have := R32.new u2 N; simpa using this
  replace hRx2 : R32 V2 gx cx := hRx2.below bV2 hRx2.lt
  replace hRy : R32 V2 gy cy := hRy.below bV2 hRy.lt
  rw [← hV2]
  clear hV2
  replace E : Below w.heap.size w V2 := E.trans (bV2.mono E.size)
  replace PA : Bk2 V2 (w.heap.size) (.bool a.neg) (.slice a.A a.n a.c) := PA.below bV2 PA.lt
  replace PB : Bk2 V2 (w.heap.size + 1) (.bool b.neg) (.slice b.A b.n b.c) := PB.below bV2 PB.lt
  replace PR : Bk2 V2 (w.heap.size + 2) (.bool false) (.slice none 0 0) := PR.below bV2 PR.lt
  replace PF : Bk2 V2 (w.heap.size + 3) (.int .i64 0) (.int .i64 0) := PF.below bV2 PF.lt
  clear bV2
  clear hmk
  have G0 : Below V2.heap.size V2 V2.drew := Below.drew (Below.refl _ _)
  have HS := Lib.hid (fun (u : World) (hu : Below V2.heap.size V2 u) => (⟨hu, (PA.below hu PA.lt).c0, (PA.below hu PA.lt).c1, (PB.below hu PB.lt).c0, (PB.below hu PB.lt).c1⟩ : Below V2.heap.size V2 u ∧ u.cell? ⟨w.heap.size, 0, none⟩ = some (.bool a.neg) ∧ u.cell? ⟨w.heap.size, 1, none⟩ = some (.slice a.A a.n a.c) ∧ u.cell? ⟨w.heap.size + 1, 0, none⟩ = some (.bool b.neg) ∧ u.cell? ⟨w.heap.size + 1, 1, none⟩ = some (.slice b.A b.n b.c)))
  go_region_held3 (fun u => Below V2.heap.size V2 u ∧ u.cell? ⟨w.heap.size, 0, none⟩ = some (.bool a.neg) ∧ u.cell? ⟨w.heap.size, 1, none⟩ = some (.slice a.A a.n a.c) ∧ u.cell? ⟨w.heap.size + 1, 0, none⟩ = some (.bool b.neg) ∧ u.cell? ⟨w.heap.size + 1, 1, none⟩ = some (.slice b.A b.n b.c)) (first | with_reducible exact HS.out _ G0 | with_reducible exact HS.out _ B2 | with_reducible exact HS.out _ B1 | fail)
    (first
      | (go_at_call 117; (with_reducible refine (signLimb_any _ a.neg a.A a.n a.c).mono ?_); rintro e u3 ⟨rfl, hb3⟩; have B1 : Below V2.heap.size V2 u3 := bnext G0 hb3)
      | (go_at_call 117; (with_reducible refine (signLimb_any _ b.neg b.A b.n b.c).mono ?_); rintro e u4 ⟨rfl, hb4⟩; have B2 : Below V2.heap.size V2 u4 := bnext B1 hb4)
      | (go_at_call 94; (with_reducible refine (limb_and _ (sgl a.neg) (sgl b.neg) (sgl_lt _) (sgl_lt _)).mono ?_); rintro e u5 ⟨rfl, rfl⟩; rw [BYE.out])
      | fail)
  clear HS G0
  have s4 := B2.size
  replace HR := HR.below B2 HR.lt
  replace hRx2 := hRx2.below B2 hRx2.lt
  replace hRy := hRy.below B2 hRy.lt
  replace E : Below w.heap.size w u4 := E.trans (B2.mono E.size)
  replace PA : Bk2 u4 (w.heap.size) (.bool a.neg) (.slice a.A a.n a.c) := PA.below B2 PA.lt
  replace PB : Bk2 u4 (w.heap.size + 1) (.bool b.neg) (.slice b.A b.n b.c) := PB.below B2 PB.lt
  replace PR : Bk2 u4 (w.heap.size + 2) (.bool false) (.slice none 0 0) := PR.below B2 PR.lt
  replace PF : Bk2 u4 (w.heap.size + 3) (.int .i64 0) (.int .i64 0) := PF.below B2 PF.lt
  clear B2
  clear PA PB
  have LX := Lib.hid hLx
  have LY := Lib.hid hLy
  obtain ⟨gr, hgr⟩ : ∃ gr, gr = u2.heap.size := ⟨_, rfl⟩
  have hgxr : gx < gr := by rw [hgr]; omega
  have hgyr : gy < gr := by rw [hgr]; omega
  have hrw : w.heap.size + 4 ≤ gr := by rw [hgr]; omega
  rw [← hgr] at HR ⊢
  clear hgr hLx hLy
  go_wp2_with fail
  go_loopw [47] (CbRel (fun p q : Nat => p &&& q) N gr 0 cx cy u4) (fun i _ => N - (intOf i).toNat)
  case atStart => exact ⟨0, List.replicate N 0, by omega, rfl, HR, by simp, Lim.zeros N, Lib.hid (fun t ht => absurd ht (Nat.not_lt_zero t)), Below.refl _ _⟩
  case round =>
    obtain ⟨j, rs, hj, rfl, hR, hrl, hrL, HI, hbw⟩ := hrel
    have hsw := hbw.size
    have hgrl := hR.lt
    by_cases h1 : j < N
    · have hcx := (hbw.cell (p := ⟨gx, j, none⟩) hgxr).trans (hRx2.cell (j := j) (by omega))
      have hcy := (hbw.cell (p := ⟨gy, j, none⟩) hgyr).trans (hRy.cell (j := j) (by omega))
      have hcr := hR.cell (j := j) (by omega)
      have hfr := hR.frozen j
      have hx9 : cx.getD j 0 < 4294967296 := Dig.at_ (b := 4294967296) (xs := cx) LX.out (by decide) j
      have hy9 : cy.getD j 0 < 4294967296 := Dig.at_ (b := 4294967296) (xs := cy) LY.out (by decide) j
      have hst := Lib.hid (cb_step (op := (fun p q : Nat => p &&& q)) (BY := 0) (cx := cx) (cy := cy) hrl h1 HI.out)
      have hz9 : (cx.getD j 0) &&& (cy.getD j 0) < 4294967296 := and_lt hx9 hy9
      have hz8 : ((cx.getD j 0) &&& (cy.getD j 0)) ^^^ 0 < 4294967296 := xor_lt hz9 (by decide)
      have hput := hR.put j (v := (((cx.getD j 0 &&& cy.getD j 0) ^^^ 0 : Nat) : Int)) (by omega)
      rw [Int.toNat_natCast] at hput
      have hxo := xlitfalse hz9
      have HPUT := Lib.hid hput
      have HXO := Lib.hid hxo
      have hset : Lim (rs.set j ((cx.getD j 0 &&& cy.getD j 0) ^^^ 0)) := hrL.set hz8
      have HSET := Lib.hid hset
      clear hput hxo hset
      unfold nth at hcx hcy hcr
      obtain ⟨X, hX⟩ : ∃ X, X = cx.getD j 0 := ⟨_, rfl⟩
      obtain ⟨Y, hY⟩ : ∃ Y, Y = cy.getD j 0 := ⟨_, rfl⟩
      rw [← hX] at hcx hx9 hst HPUT HXO HSET
      rw [← hY] at hcy hy9 hst HPUT HXO HSET
      obtain ⟨Z, hZ⟩ : ∃ Z, Z = rs.getD j 0 := ⟨_, rfl⟩
      rw [← hZ] at hcr
      clear hX hY hZ hz9 hz8
      have HS := Lib.hid (fun (u : World) (hu : Below gr wr u) => (⟨(hu.cell (p := ⟨gx, j, none⟩) hgxr).trans hcx, (hu.cell (p := ⟨gy, j, none⟩) hgyr).trans hcy⟩ : u.cell? ⟨gx, j, none⟩ = some (.int .u32 (X : Int)) ∧ u.cell? ⟨gy, j, none⟩ = some (.int .u32 (Y : Int))))
      have G0 : Below gr wr wr.drew := Below.drew (Below.refl _ _)
      go_upto_region 11 with fail
      go_region_held3 (fun u => u.cell? ⟨gx, j, none⟩ = some (.int .u32 (X : Int)) ∧ u.cell? ⟨gy, j, none⟩ = some (.int .u32 (Y : Int)))
        (first | with_reducible exact HS.out _ G0 | (refine HS.out _ ?_; (repeat (first | with_reducible exact Below.refl _ _ | with_reducible refine Below.drew ?_ | with_reducible refine below_drewN ?_ _ | with_reducible refine Below.setCell ?_ (by first | (simp; done) | omega) _)); done) | fail)
        (first
          | (go_at_call 94; (with_reducible refine (limb_and _ X Y hx9 hy9).mono ?_); rintro e u5 ⟨rfl, rfl⟩)
          | fail)
      all_goals (go_wp2_with fail)
      all_goals
        go_roundw
        (case rel => exact ⟨j + 1, _, by omega, by go_num, (by first | exact HPUT.out | (rw [HXO.out]; exact HPUT.out) | (rw [HXO.out]; exact HPUT.out.drew)), by rw [List.length_set]; exact hrl, HSET.out, hst, (by first | exact hbw.setCell (by simp) _ | exact Below.drew (hbw.setCell (by simp) _))⟩)
        (case measure => first | (simp [intOf]; done) | (simp [intOf]; omega))

    · obtain rfl : j = N := by omega
      have sww := hbw.size
      have E2 : Below w.heap.size w wr := E.trans (hbw.mono (by have := E.size; omega))
      have PR2 : Bk2 wr (w.heap.size + 2) (.bool false) (.slice none 0 0) := PR.below hbw (by omega)
      have PF2 : Bk2 wr (w.heap.size + 3) (.int .i64 0) (.int .i64 0) := PF.below hbw (by omega)
      clear E PR PF
      have E := E2
      have PR := PR2
      have PF := PF2
      clear E2 PR2 PF2
      have hL0 := hR.lrdAll hrL (B := wr.heap.size) (n := j) (c := j) hgrl (Lib.hid hrl) ⟨Nat.le_refl _, by omega⟩
      have HZ := Lib.hid (show ZOp (fun p q => p && q) a.val b.val (snum false (vb 4294967296 rs)) by
        have h9 := comb_math (f := (fun p q => p && q)) (a := a.val) (b := b.val) (sa := a.neg) (sb := b.neg) hrl hrL (fun t ht => val_high oa LA.out (by have := LNA.out; omega) ht) (fun t ht => val_high ob LB.out (by have := LNB.out; omega) ht) (fun i k hi hk => by
          have h1 := HI.out i hi
          have h2 := HBX.out i k hi hk
          have h3 := HBY.out i k hi hk
          rw [h1, Nat.testBit_xor, Nat.testBit_and, h2, h3]
          have h4 : (0 : Nat).testBit k = ((fun p q => p && q) a.neg b.neg) := (Nat.zero_testBit k).trans HNB.out.symm
          rw [h4]
          all_goals (cases (zbit (IV.mk a.neg a.A a.n a.c a.xs).val (32 * i + k)) <;> cases (zbit (IV.mk b.neg b.A b.n b.c b.xs).val (32 * i + k)) <;> rfl))
        rw [HNB.out] at h9
        exact h9)
      clear HI hbw hRx2 hRy HR
      go_wp2_with fail
      refine (itrim_any _ wr.heap.size (some ⟨gr, 0, none⟩) j j rs hL0).mono ?_
      rintro e w6 ⟨k, rfl, ht6, rfl⟩
      have hk6 := ht6.le
      have HT6 := Lib.hid (trimmed ht6 hrl hrL)
      have hL6 : LRd wr wr.heap.size (some ⟨gr, 0, none⟩) k j (rs.take k) := hR.lrd0 hrL hgrl (by omega) ⟨hk6, by omega⟩
      have hk128 : k ≤ 128 := by omega
      have HV6 := Lib.hid (lt128 HT6.out hL6.len.out hk128)
      have HVL := Lib.hid (show vld (rs.take k) = true from rep_v128 HT6.out HV6.out)
      clear ht6 hR hrL hrl
      clear hL0
      go_wp2_with fail
      refine (ilimited_any _ false (some ⟨gr, 0, none⟩) k j (vb 4294967296 rs) (rs.take k) hL6 HT6.out).mono ?_
      rintro e w9 hv
      rw [show sval false (vb 4294967296 rs) = snum false (vb 4294967296 rs) from rfl] at hv
      clear hL6
      obtain ⟨z4, f4, g4, hy4, m4, A4, k4, c4, x4, rfl, hl4, hr4, hb4⟩ := vl_yr hv
      clear hv
      have R4 := Lib.hid hr4
      have Y4 := Lib.hid hy4
      have sw9 := hb4.size
      clear hr4 hy4
      replace E : Below w.heap.size w w9 := E.trans (hb4.mono E.size)
      replace PR : Bk2 w9 (w.heap.size + 2) (.bool false) (.slice none 0 0) := PR.below hb4 PR.lt
      replace PF : Bk2 w9 (w.heap.size + 3) (.int .i64 0) (.int .i64 0) := PF.below hb4 PF.lt
      clear hb4
      have y_PR0 : w9.cell? ⟨w.heap.size + 2, 0, none⟩ = some ((.bool false)) := PR.c0
      have z_PR0 : w9.frozen? ⟨w.heap.size + 2, 0, none⟩ = false := PR.z0
      have y_PR1 : w9.cell? ⟨w.heap.size + 2, 1, none⟩ = some ((.slice none 0 0)) := PR.c1
      have z_PR1 : w9.frozen? ⟨w.heap.size + 2, 1, none⟩ = false := PR.z1
      have lt_PR := PR.lt
      have y_PF0 : w9.cell? ⟨w.heap.size + 3, 0, none⟩ = some ((.int .i64 0)) := PF.c0
      have z_PF0 : w9.frozen? ⟨w.heap.size + 3, 0, none⟩ = false := PF.z0
      have y_PF1 : w9.cell? ⟨w.heap.size + 3, 1, none⟩ = some ((.int .i64 0)) := PF.c1
      have z_PF1 : w9.frozen? ⟨w.heap.size + 3, 1, none⟩ = false := PF.z1
      have lt_PF := PF.lt
      go_wp2_with fail
      clear y_PR0 z_PR0 y_PR1 z_PR1 lt_PR y_PF0 z_PF0 y_PF1 z_PF1 lt_PF
      obtain ⟨U2PR, hU2PR⟩ : ∃ U2PR : World, U2PR = ((w9.setCell ⟨w.heap.size + 2, 0, none⟩ (.bool m4)).setCell ⟨w.heap.size + 2, 1, none⟩ (.slice A4 k4 c4)) := ⟨_, rfl⟩
      have zU2PR : U2PR.heap.size = w9.heap.size := by rw [hU2PR]; simp [World.setCell]
      replace E : Below w.heap.size w U2PR := by rw [hU2PR]; exact (E.setCell (by first | (simp; done) | (simp; omega)) _).setCell (by first | (simp; done) | (simp; omega)) _
      replace PF : Bk2 U2PR (w.heap.size + 3) (.int .i64 0) (.int .i64 0) := by rw [hU2PR]; exact PF.far2 (by omega) _ _
      replace hl4 : LRd U2PR (w9.heap.size) A4 k4 c4 x4 := by rw [hU2PR]; first | exact hl4.setB PR (by simp) (by simp) _ _ | exact hl4.setFar2 (by omega) _ _
      replace PR : Bk2 U2PR (w.heap.size + 2) (.bool m4) (.slice A4 k4 c4) := by rw [hU2PR]; exact PR.set _ _
      rw [← hU2PR]
      clear hU2PR
      have zU2PR' := Nat.le_of_eq zU2PR
      replace zU2PR := Nat.le_of_eq zU2PR.symm
      obtain ⟨U2PF, hU2PF⟩ : ∃ U2PF : World, U2PF = ((U2PR.setCell ⟨w.heap.size + 3, 0, none⟩ (.int .i64 f4)).setCell ⟨w.heap.size + 3, 1, none⟩ (.int .i64 g4)) := ⟨_, rfl⟩
      have zU2PF : U2PF.heap.size = U2PR.heap.size := by rw [hU2PF]; simp [World.setCell]
      replace E : Below w.heap.size w U2PF := by rw [hU2PF]; exact (E.setCell (by first | (simp; done) | (simp; omega)) _).setCell (by first | (simp; done) | (simp; omega)) _
      replace PR : Bk2 U2PF (w.heap.size + 2) (.bool m4) (.slice A4 k4 c4) := by rw [hU2PF]; exact PR.far2 (by omega) _ _
      replace hl4 : LRd U2PF (w9.heap.size) A4 k4 c4 x4 := by rw [hU2PF]; first | exact hl4.setB PF (by simp) (by simp) _ _ | exact hl4.setFar2 (by omega) _ _
      replace PF : Bk2 U2PF (w.heap.size + 3) (.int .i64 f4) (.int .i64 g4) := by rw [hU2PF]; exact PF.set _ _
      rw [← hU2PF]
      clear hU2PF
      have zU2PF' := Nat.le_of_eq zU2PF
      replace zU2PF := Nat.le_of_eq zU2PF.symm
      obtain ⟨f0, f1, _, _, _⟩ := PF
      obtain ⟨r0, r1, _, _, _⟩ := PR
      refine bodyPost_ret (v := .tuple #[intv m4 A4 k4 c4, flt f4 g4]) (by simp [results, Try.results93, go_sem, f0, f1, r0, r1]) rfl ⟨_, HZ.out, yr_vl Y4.out ⟨m4, A4, k4, c4, x4, rfl, hl4.more (by omega), R4.out, E⟩⟩
set_option maxHeartbeats 8000000 in
theorem comb_and_true (w : World) (a b : IV) (HA : a.at w w.heap.size) (HB : b.at w w.heap.size) (oa : a.ok = true) (ob : b.ok = true) (HNB : Hid ((fun p q => p && q) a.neg b.neg = true)) :
    Calls Try.prog 93 #[a.v, b.v, (.func (Fn.func 94) #[] #[])] w (CombPost (fun p q => p && q) a.val b.val w) := by
  have hf : ffault [a, b] 0 = (0, 0) := two_ok oa ob
  have BYE := Lib.hid (show ((sgl a.neg &&& sgl b.neg : Nat) : Int) = 4294967295 by have h := HNB.out; rw [sgl_and]; show ((sgl ((fun p q => p && q) a.neg b.neg) : Nat) : Int) = _; rw [h]; rfl)
  have hlA : a.n ≤ 128 := by have := (IV.vld oa).2; have := HA.len.out; omega
  have hlB : b.n ≤ 128 := by have := (IV.vld ob).2; have := HB.len.out; omega
  have LA := Lib.hid HA.lim
  have LB := Lib.hid HB.lim
  have LNA := Lib.hid HA.len.out
  have LNB := Lib.hid HB.len.out
  replace HA : LRd w w.heap.size a.A a.n a.c a.xs := HA
  replace HB : LRd w w.heap.size b.A b.n b.c b.xs := HB
  have E : Below w.heap.size w w := Below.refl _ _
  have IR := Lib.hid (irow2 ((((w.alloc a.cells).alloc b.cells).alloc (.cells #[.bool false, .slice none 0 0] 24)).alloc (.cells #[.int .i64 0, .int .i64 0] 26)) w.heap.size a b ((((HA.alloc (Nat.le_refl _) _).alloc (by simp) _).alloc (by simp; omega) _).alloc (by simp; omega) _) ((((HB.alloc (Nat.le_refl _) _).alloc (by simp) _).alloc (by simp; omega) _).alloc (by simp; omega) _) (by simp; omega))
  go_enter Try.func93, Try.ntmps93
  go_wp2_with fail
  obtain ⟨V0, hV0⟩ : ∃ V0 : World, V0 = (((((w.alloc (.cells #[.bool a.neg, .slice a.A a.n a.c] 24)).alloc (.cells #[.bool b.neg, .slice b.A b.n b.c] 24)).alloc (.cells #[.bool false, .slice none 0 0] 24)).alloc (.cells #[.int .i64 0, .int .i64 0] 26)).alloc (.cells #[.bool a.neg, .slice a.A a.n a.c, .bool b.neg, .slice b.A b.n b.c] 24)) := ⟨_, rfl⟩
  have bV0 : Below w.heap.size w V0 := by rw [hV0]; (repeat (first | with_reducible exact Below.refl _ _ | with_reducible refine Below.drew ?_ | with_reducible refine below_drewN ?_ _ | with_reducible refine Below.setCell ?_ (by first | (simp; done) | (simp; omega) | omega) _ | with_reducible refine Below.alloc ?_ (by first | (simp; done) | (simp; omega) | omega) _))
  have zV0 : w.heap.size + 5 ≤ V0.heap.size := by rw [hV0]; simp
  have PA : Bk2 V0 (w.heap.size) (.bool a.neg) (.slice a.A a.n a.c) := by rw [hV0]; exact (((((Bk2.newAt _ _ (by simp) _ _ _).alloc _).alloc _).alloc _).alloc _)
  have PB : Bk2 V0 (w.heap.size + 1) (.bool b.neg) (.slice b.A b.n b.c) := by rw [hV0]; exact ((((Bk2.newAt _ _ (by simp) _ _ _).alloc _).alloc _).alloc _)
  have PR : Bk2 V0 (w.heap.size + 2) (.bool false) (.slice none 0 0) := by rw [hV0]; exact (((Bk2.newAt _ _ (by simp) _ _ _).alloc _).alloc _)
  have PF : Bk2 V0 (w.heap.size + 3) (.int .i64 0) (.int .i64 0) := by rw [hV0]; exact ((Bk2.newAt _ _ (by simp) _ _ _).alloc _)
  replace IR : Hid (IRow V0 w.heap.size (w.heap.size + 4) [a, b]) := by have h9 := IR.out; rw [hV0]; rw [show ((((w.alloc a.cells).alloc b.cells).alloc (.cells #[.bool false, .slice none 0 0] 24)).alloc (.cells #[.int .i64 0, .int .i64 0] 26)).heap.size = w.heap.size + 4 by simp] at h9; exact h9
  rw [← hV0]
  clear hV0
  replace E : Below w.heap.size w V0 := E.trans (bV0.mono E.size)
  replace HA : LRd V0 (w.heap.size) a.A a.n a.c a.xs := HA.below bV0 (by omega)
  replace HB : LRd V0 (w.heap.size) b.A b.n b.c b.xs := HB.below bV0 (by omega)
  clear bV0
  (with_reducible refine (check_any _ w.heap.size (w.heap.size + 4) 2 [a, b] IR.out rfl (by omega) (by omega)).mono ?_)
  rintro e w1 ⟨rfl, hb1⟩
  have sw1 := hb1.size
  replace E : Below w.heap.size w w1 := E.trans (hb1.mono E.size)
  replace HA : LRd w1 (w.heap.size) a.A a.n a.c a.xs := HA.below hb1 (by omega)
  replace HB : LRd w1 (w.heap.size) b.A b.n b.c b.xs := HB.below hb1 (by omega)
  replace PA : Bk2 w1 (w.heap.size) (.bool a.neg) (.slice a.A a.n a.c) := PA.below hb1 PA.lt
  replace PB : Bk2 w1 (w.heap.size + 1) (.bool b.neg) (.slice b.A b.n b.c) := PB.below hb1 PB.lt
  replace PR : Bk2 w1 (w.heap.size + 2) (.bool false) (.slice none 0 0) := PR.below hb1 PR.lt
  replace PF : Bk2 w1 (w.heap.size + 3) (.int .i64 0) (.int .i64 0) := PF.below hb1 PF.lt
  clear hb1
  rw [hf]
  clear IR
  have t_PA0 : (w1.alloc (.cells #[.int .i64 0, .int .i64 0] 26)).cell? ⟨w.heap.size, 0, none⟩ = some ((.bool a.neg)) := (PA.alloc _).c0
  have t_PA1 : (w1.alloc (.cells #[.int .i64 0, .int .i64 0] 26)).cell? ⟨w.heap.size, 1, none⟩ = some ((.slice a.A a.n a.c)) := (PA.alloc _).c1
  have t_PB0 : (w1.alloc (.cells #[.int .i64 0, .int .i64 0] 26)).cell? ⟨w.heap.size + 1, 0, none⟩ = some ((.bool b.neg)) := (PB.alloc _).c0
  have t_PB1 : (w1.alloc (.cells #[.int .i64 0, .int .i64 0] 26)).cell? ⟨w.heap.size + 1, 1, none⟩ = some ((.slice b.A b.n b.c)) := (PB.alloc _).c1
  go_upto_region 5 with fail
  clear t_PA0 t_PA1 t_PB0 t_PB1
  obtain ⟨V1, hV1⟩ : ∃ V1 : World, V1 = (w1.alloc (.cells #[.int .i64 0, .int .i64 0] 26)) := ⟨_, rfl⟩
  have bV1 : Below w1.heap.size w1 V1 := by rw [hV1]; (repeat (first | with_reducible exact Below.refl _ _ | with_reducible refine Below.drew ?_ | with_reducible refine below_drewN ?_ _ | with_reducible refine Below.setCell ?_ (by first | (simp; done) | (simp; omega) | omega) _ | with_reducible refine Below.alloc ?_ (by first | (simp; done) | (simp; omega) | omega) _))
  have zV1 : w1.heap.size + 1 ≤ V1.heap.size := by rw [hV1]; simp
  have F8 : Bk2 V1 (w1.heap.size) (.int .i64 0) (.int .i64 0) := by rw [hV1]; exact (Bk2.newAt _ _ (by simp) _ _ _)
  rw [← hV1]
  clear hV1
  replace E : Below w.heap.size w V1 := E.trans (bV1.mono E.size)
  replace HA : LRd V1 (w.heap.size) a.A a.n a.c a.xs := HA.below bV1 (by omega)
  replace HB : LRd V1 (w.heap.size) b.A b.n b.c b.xs := HB.below bV1 (by omega)
  replace PA : Bk2 V1 (w.heap.size) (.bool a.neg) (.slice a.A a.n a.c) := PA.below bV1 PA.lt
  replace PB : Bk2 V1 (w.heap.size + 1) (.bool b.neg) (.slice b.A b.n b.c) := PB.below bV1 PB.lt
  replace PR : Bk2 V1 (w.heap.size + 2) (.bool false) (.slice none 0 0) := PR.below bV1 PR.lt
  replace PF : Bk2 V1 (w.heap.size + 3) (.int .i64 0) (.int .i64 0) := PF.below bV1 PF.lt
  clear bV1
  clear F8
  obtain ⟨N, hN, hnA, hnB, hN2⟩ : ∃ N : Nat, max (a.n : Int) (b.n : Int) = (N : Int) ∧ a.n ≤ N ∧ b.n ≤ N ∧ N ≤ 128 := ⟨max a.n b.n, by omega, by omega, by omega, by omega⟩
  rw [hN]
  clear hN
  have G0 : Below V1.heap.size V1 V1.drew := Below.drew (Below.refl _ _)
  have HS := Lib.hid (fun (u : World) (hu : Below V1.heap.size V1 u) => (⟨hu, (PA.below hu PA.lt).c0, (PA.below hu PA.lt).c1, (PB.below hu PB.lt).c0, (PB.below hu PB.lt).c1⟩ : Below V1.heap.size V1 u ∧ u.cell? ⟨w.heap.size, 0, none⟩ = some (.bool a.neg) ∧ u.cell? ⟨w.heap.size, 1, none⟩ = some (.slice a.A a.n a.c) ∧ u.cell? ⟨w.heap.size + 1, 0, none⟩ = some (.bool b.neg) ∧ u.cell? ⟨w.heap.size + 1, 1, none⟩ = some (.slice b.A b.n b.c)))
  go_region_held3 (fun u => Below V1.heap.size V1 u ∧ u.cell? ⟨w.heap.size, 0, none⟩ = some (.bool a.neg) ∧ u.cell? ⟨w.heap.size, 1, none⟩ = some (.slice a.A a.n a.c) ∧ u.cell? ⟨w.heap.size + 1, 0, none⟩ = some (.bool b.neg) ∧ u.cell? ⟨w.heap.size + 1, 1, none⟩ = some (.slice b.A b.n b.c)) (first | with_reducible exact HS.out _ G0 | with_reducible exact HS.out _ B2 | with_reducible exact HS.out _ B1 | fail)
    (first
      | (go_at_call 116; (with_reducible refine (cplv _ w.heap.size a.neg a.A a.n a.c a.xs N (HA.below G0 (by omega)) (by have := G0.size; omega) oa hnA (by omega)).mono ?_); rintro e u1 ⟨gx, cx, rfl, hRx, hlx, hLx, hgx, hbx, hb1⟩; have B1 : Below V1.heap.size V1 u1 := bnext G0 hb1; have HBX := Lib.hid hbx; clear hbx)
      | (go_at_call 116; (with_reducible refine (cplv _ w.heap.size b.neg b.A b.n b.c b.xs N (HB.below B1 (by omega)) (by have := B1.size; omega) ob hnB (by omega)).mono ?_); rintro e u2 ⟨gy, cy, rfl, hRy, hly, hLy, hgy, hby, hb2⟩; have B2 : Below V1.heap.size V1 u2 := bnext B1 hb2; have HBY := Lib.hid hby; clear hby; have hRx2 := hRx.below hb2 hRx.lt)
      | fail)
  clear HS G0 hRx hb1 hb2 B1
  have hgx2 : gx < u2.heap.size := hRx2.lt
  have hgy2 : gy < u2.heap.size := hRy.lt
  have s2 := B2.size
  have hmk := mk32 N (by omega)
  replace E : Below w.heap.size w u2 := E.trans (B2.mono E.size)
  replace HA : LRd u2 (w.heap.size) a.A a.n a.c a.xs := HA.below B2 (by omega)
  replace HB : LRd u2 (w.heap.size) b.A b.n b.c b.xs := HB.below B2 (by omega)
  replace PA : Bk2 u2 (w.heap.size) (.bool a.neg) (.slice a.A a.n a.c) := PA.below B2 PA.lt
  replace PB : Bk2 u2 (w.heap.size + 1) (.bool b.neg) (.slice b.A b.n b.c) := PB.below B2 PB.lt
  replace PR : Bk2 u2 (w.heap.size + 2) (.bool false) (.slice none 0 0) := PR.below B2 PR.lt
  replace PF : Bk2 u2 (w.heap.size + 3) (.int .i64 0) (.int .i64 0) := PF.below B2 PF.lt
  clear B2
  clear HA HB
  have t_PA0 : (u2.alloc (.cells (Array.replicate N (Value.int .u32 0)) 66)).cell? ⟨w.heap.size, 0, none⟩ = some ((.bool a.neg)) := (PA.alloc _).c0
  have t_PA1 : (u2.alloc (.cells (Array.replicate N (Value.int .u32 0)) 66)).cell? ⟨w.heap.size, 1, none⟩ = some ((.slice a.A a.n a.c)) := (PA.alloc _).c1
  have t_PB0 : (u2.alloc (.cells (Array.replicate N (Value.int .u32 0)) 66)).cell? ⟨w.heap.size + 1, 0, none⟩ = some ((.bool b.neg)) := (PB.alloc _).c0
  have t_PB1 : (u2.alloc (.cells (Array.replicate N (Value.int .u32 0)) 66)).cell? ⟨w.heap.size + 1, 1, none⟩ = some ((.slice b.A b.n b.c)) := (PB.alloc _).c1
  go_upto_region 7 with fail
  clear t_PA0 t_PA1 t_PB0 t_PB1
  obtain ⟨V2, hV2⟩ : ∃ V2 : World, V2 = (u2.alloc (.cells (Array.replicate N (Value.int .u32 0)) 66)) := ⟨_, rfl⟩
  have bV2 : Below u2.heap.size u2 V2 := by rw [hV2]; (repeat (first | with_reducible exact Below.refl _ _ | with_reducible refine Below.drew ?_ | with_reducible refine below_drewN ?_ _ | with_reducible refine Below.setCell ?_ (by first | (simp; done) | (simp; omega) | omega) _ | with_reducible refine Below.alloc ?_ (by first | (simp; done) | (simp; omega) | omega) _))
  have zV2 : u2.heap.size + 1 ≤ V2.heap.size := by rw [hV2]; simp
  have HR : R32 V2 u2.heap.size (List.replicate N 0) := by rw [hV2]; have := R32.new u2 N; simpa using this
  replace hRx2 : R32 V2 gx cx := hRx2.below bV2 hRx2.lt
  replace hRy : R32 V2 gy cy := hRy.below bV2 hRy.lt
  rw [← hV2]
  clear hV2
  replace E : Below w.heap.size w V2 := E.trans (bV2.mono E.size)
  replace PA : Bk2 V2 (w.heap.size) (.bool a.neg) (.slice a.A a.n a.c) := PA.below bV2 PA.lt
  replace PB : Bk2 V2 (w.heap.size + 1) (.bool b.neg) (.slice b.A b.n b.c) := PB.below bV2 PB.lt
  replace PR : Bk2 V2 (w.heap.size + 2) (.bool false) (.slice none 0 0) := PR.below bV2 PR.lt
  replace PF : Bk2 V2 (w.heap.size + 3) (.int .i64 0) (.int .i64 0) := PF.below bV2 PF.lt
  clear bV2
  clear hmk
  have G0 : Below V2.heap.size V2 V2.drew := Below.drew (Below.refl _ _)
  have HS := Lib.hid (fun (u : World) (hu : Below V2.heap.size V2 u) => (⟨hu, (PA.below hu PA.lt).c0, (PA.below hu PA.lt).c1, (PB.below hu PB.lt).c0, (PB.below hu PB.lt).c1⟩ : Below V2.heap.size V2 u ∧ u.cell? ⟨w.heap.size, 0, none⟩ = some (.bool a.neg) ∧ u.cell? ⟨w.heap.size, 1, none⟩ = some (.slice a.A a.n a.c) ∧ u.cell? ⟨w.heap.size + 1, 0, none⟩ = some (.bool b.neg) ∧ u.cell? ⟨w.heap.size + 1, 1, none⟩ = some (.slice b.A b.n b.c)))
  go_region_held3 (fun u => Below V2.heap.size V2 u ∧ u.cell? ⟨w.heap.size, 0, none⟩ = some (.bool a.neg) ∧ u.cell? ⟨w.heap.size, 1, none⟩ = some (.slice a.A a.n a.c) ∧ u.cell? ⟨w.heap.size + 1, 0, none⟩ = some (.bool b.neg) ∧ u.cell? ⟨w.heap.size + 1, 1, none⟩ = some (.slice b.A b.n b.c)) (first | with_reducible exact HS.out _ G0 | with_reducible exact HS.out _ B2 | with_reducible exact HS.out _ B1 | fail)
    (first
      | (go_at_call 117; (with_reducible refine (signLimb_any _ a.neg a.A a.n a.c).mono ?_); rintro e u3 ⟨rfl, hb3⟩; have B1 : Below V2.heap.size V2 u3 := bnext G0 hb3)
      | (go_at_call 117; (with_reducible refine (signLimb_any _ b.neg b.A b.n b.c).mono ?_); rintro e u4 ⟨rfl, hb4⟩; have B2 : Below V2.heap.size V2 u4 := bnext B1 hb4)
      | (go_at_call 94; (with_reducible refine (limb_and _ (sgl a.neg) (sgl b.neg) (sgl_lt _) (sgl_lt _)).mono ?_); rintro e u5 ⟨rfl, rfl⟩; rw [BYE.out])
      | fail)
  clear HS G0
  have s4 := B2.size
  replace HR := HR.below B2 HR.lt
  replace hRx2 := hRx2.below B2 hRx2.lt
  replace hRy := hRy.below B2 hRy.lt
  replace E : Below w.heap.size w u4 := E.trans (B2.mono E.size)
  replace PA : Bk2 u4 (w.heap.size) (.bool a.neg) (.slice a.A a.n a.c) := PA.below B2 PA.lt
  replace PB : Bk2 u4 (w.heap.size + 1) (.bool b.neg) (.slice b.A b.n b.c) := PB.below B2 PB.lt
  replace PR : Bk2 u4 (w.heap.size + 2) (.bool false) (.slice none 0 0) := PR.below B2 PR.lt
  replace PF : Bk2 u4 (w.heap.size + 3) (.int .i64 0) (.int .i64 0) := PF.below B2 PF.lt
  clear B2
  clear PA PB
  have LX := Lib.hid hLx
  have LY := Lib.hid hLy
  obtain ⟨gr, hgr⟩ : ∃ gr, gr = u2.heap.size := ⟨_, rfl⟩
  have hgxr : gx < gr := by rw [hgr]; omega
  have hgyr : gy < gr := by rw [hgr]; omega
  have hrw : w.heap.size + 4 ≤ gr := by rw [hgr]; omega
  rw [← hgr] at HR ⊢
  clear hgr hLx hLy
  go_wp2_with fail
  go_loopw [47] (CbRel (fun p q : Nat => p &&& q) N gr 4294967295 cx cy u4) (fun i _ => N - (intOf i).toNat)
  case atStart => exact ⟨0, List.replicate N 0, by omega, rfl, HR, by simp, Lim.zeros N, Lib.hid (fun t ht => absurd ht (Nat.not_lt_zero t)), Below.refl _ _⟩
  case round =>
    obtain ⟨j, rs, hj, rfl, hR, hrl, hrL, HI, hbw⟩ := hrel
    have hsw := hbw.size
    have hgrl := hR.lt
    by_cases h1 : j < N
    · have hcx := (hbw.cell (p := ⟨gx, j, none⟩) hgxr).trans (hRx2.cell (j := j) (by omega))
      have hcy := (hbw.cell (p := ⟨gy, j, none⟩) hgyr).trans (hRy.cell (j := j) (by omega))
      have hcr := hR.cell (j := j) (by omega)
      have hfr := hR.frozen j
      have hx9 : cx.getD j 0 < 4294967296 := Dig.at_ (b := 4294967296) (xs := cx) LX.out (by decide) j
      have hy9 : cy.getD j 0 < 4294967296 := Dig.at_ (b := 4294967296) (xs := cy) LY.out (by decide) j
      have hst := Lib.hid (cb_step (op := (fun p q : Nat => p &&& q)) (BY := 4294967295) (cx := cx) (cy := cy) hrl h1 HI.out)
      have hz9 : (cx.getD j 0) &&& (cy.getD j 0) < 4294967296 := and_lt hx9 hy9
      have hz8 : ((cx.getD j 0) &&& (cy.getD j 0)) ^^^ 4294967295 < 4294967296 := xor_lt hz9 (by decide)
      have hput := hR.put j (v := (((cx.getD j 0 &&& cy.getD j 0) ^^^ 4294967295 : Nat) : Int)) (by omega)
      rw [Int.toNat_natCast] at hput
      have hxo := xlittrue hz9
      have HPUT := Lib.hid hput
      have HXO := Lib.hid hxo
      have hset : Lim (rs.set j ((cx.getD j 0 &&& cy.getD j 0) ^^^ 4294967295)) := hrL.set hz8
      have HSET := Lib.hid hset
      clear hput hxo hset
      unfold nth at hcx hcy hcr
      obtain ⟨X, hX⟩ : ∃ X, X = cx.getD j 0 := ⟨_, rfl⟩
      obtain ⟨Y, hY⟩ : ∃ Y, Y = cy.getD j 0 := ⟨_, rfl⟩
      rw [← hX] at hcx hx9 hst HPUT HXO HSET
      rw [← hY] at hcy hy9 hst HPUT HXO HSET
      obtain ⟨Z, hZ⟩ : ∃ Z, Z = rs.getD j 0 := ⟨_, rfl⟩
      rw [← hZ] at hcr
      clear hX hY hZ hz9 hz8
      have HS := Lib.hid (fun (u : World) (hu : Below gr wr u) => (⟨(hu.cell (p := ⟨gx, j, none⟩) hgxr).trans hcx, (hu.cell (p := ⟨gy, j, none⟩) hgyr).trans hcy⟩ : u.cell? ⟨gx, j, none⟩ = some (.int .u32 (X : Int)) ∧ u.cell? ⟨gy, j, none⟩ = some (.int .u32 (Y : Int))))
      have G0 : Below gr wr wr.drew := Below.drew (Below.refl _ _)
      go_upto_region 11 with fail
      go_region_held3 (fun u => u.cell? ⟨gx, j, none⟩ = some (.int .u32 (X : Int)) ∧ u.cell? ⟨gy, j, none⟩ = some (.int .u32 (Y : Int)))
        (first | with_reducible exact HS.out _ G0 | (refine HS.out _ ?_; (repeat (first | with_reducible exact Below.refl _ _ | with_reducible refine Below.drew ?_ | with_reducible refine below_drewN ?_ _ | with_reducible refine Below.setCell ?_ (by first | (simp; done) | omega) _)); done) | fail)
        (first
          | (go_at_call 94; (with_reducible refine (limb_and _ X Y hx9 hy9).mono ?_); rintro e u5 ⟨rfl, rfl⟩)
          | fail)
      all_goals (go_wp2_with fail)
      all_goals
        go_roundw
        (case rel => exact ⟨j + 1, _, by omega, by go_num, (by first | exact HPUT.out | (rw [HXO.out]; exact HPUT.out) | (rw [HXO.out]; exact HPUT.out.drew)), by rw [List.length_set]; exact hrl, HSET.out, hst, (by first | exact hbw.setCell (by simp) _ | exact Below.drew (hbw.setCell (by simp) _))⟩)
        (case measure => first | (simp [intOf]; done) | (simp [intOf]; omega))

    · obtain rfl : j = N := by omega
      have sww := hbw.size
      have E2 : Below w.heap.size w wr := E.trans (hbw.mono (by have := E.size; omega))
      have PR2 : Bk2 wr (w.heap.size + 2) (.bool false) (.slice none 0 0) := PR.below hbw (by omega)
      have PF2 : Bk2 wr (w.heap.size + 3) (.int .i64 0) (.int .i64 0) := PF.below hbw (by omega)
      clear E PR PF
      have E := E2
      have PR := PR2
      have PF := PF2
      clear E2 PR2 PF2
      have hL0 := hR.lrdAll hrL (B := wr.heap.size) (n := j) (c := j) hgrl (Lib.hid hrl) ⟨Nat.le_refl _, by omega⟩
      have HZ := Lib.hid (show ZOp (fun p q => p && q) a.val b.val (snum true (vb 4294967296 rs)) by
        have h9 := comb_math (f := (fun p q => p && q)) (a := a.val) (b := b.val) (sa := a.neg) (sb := b.neg) hrl hrL (fun t ht => val_high oa LA.out (by have := LNA.out; omega) ht) (fun t ht => val_high ob LB.out (by have := LNB.out; omega) ht) (fun i k hi hk => by
          have h1 := HI.out i hi
          have h2 := HBX.out i k hi hk
          have h3 := HBY.out i k hi hk
          rw [h1, Nat.testBit_xor, Nat.testBit_and, h2, h3]
          have h4 : (4294967295 : Nat).testBit k = ((fun p q => p && q) a.neg b.neg) := (ones_bit hk).trans HNB.out.symm
          rw [h4]
          all_goals (cases (zbit (IV.mk a.neg a.A a.n a.c a.xs).val (32 * i + k)) <;> cases (zbit (IV.mk b.neg b.A b.n b.c b.xs).val (32 * i + k)) <;> rfl))
        rw [HNB.out] at h9
        exact h9)
      clear HI hbw hRx2 hRy HR
      go_wp2_with fail
      refine (itrim_any _ wr.heap.size (some ⟨gr, 0, none⟩) j j rs hL0).mono ?_
      rintro e w6 ⟨k, rfl, ht6, rfl⟩
      have hk6 := ht6.le
      have HT6 := Lib.hid (trimmed ht6 hrl hrL)
      have hL6 : LRd wr wr.heap.size (some ⟨gr, 0, none⟩) k j (rs.take k) := hR.lrd0 hrL hgrl (by omega) ⟨hk6, by omega⟩
      have hk128 : k ≤ 128 := by omega
      have HV6 := Lib.hid (lt128 HT6.out hL6.len.out hk128)
      have HVL := Lib.hid (show vld (rs.take k) = true from rep_v128 HT6.out HV6.out)
      clear ht6 hR hrL hrl
      clear hL0
      go_wp2_with fail
      (with_reducible refine (one_any _).mono ?_)
      rintro e w7 ⟨A7, k7, c7, x7, rfl, hl7, hr7, hb7⟩
      have sw7 := hb7.size
      replace E : Below w.heap.size w w7 := E.trans (hb7.mono E.size)
      replace PR : Bk2 w7 (w.heap.size + 2) (.bool false) (.slice none 0 0) := PR.below hb7 PR.lt
      replace PF : Bk2 w7 (w.heap.size + 3) (.int .i64 0) (.int .i64 0) := PF.below hb7 PF.lt
      replace hL6 : LRd w7 (wr.heap.size) (some ⟨gr, 0, none⟩) k j (rs.take k) := hL6.below hb7 (by omega)
      clear hb7
      have R7 := Lib.hid hr7
      have V7 := Lib.hid (show vld x7 = true from rep_v128 hr7 (lt_top (by decide)))
      clear hr7
      go_wp2_with fail
      refine (add_ok _ w7.heap.size (some ⟨gr, 0, none⟩) A7 k k7 j c7 (rs.take k) x7 (hL6.more (by omega)) hl7 (Nat.le_refl _) HVL.out V7.out).mono ?_
      rw [R7.out.val, HT6.out.val]
      rintro e w8 (⟨_, A8, k8, c8, x8, rfl, hl8, hr8, hb8⟩ | ⟨hge, _⟩)
      rotate_left
      · exact absurd hge (by have := HV6.out; have := top_lt_big; omega)
      have R8 := Lib.hid hr8
      have s8 := hb8.size
      clear hr8
      clear hL6 hl7
      replace E : Below w.heap.size w w8 := E.trans (hb8.mono E.size)
      replace PR : Bk2 w8 (w.heap.size + 2) (.bool false) (.slice none 0 0) := PR.below hb8 PR.lt
      replace PF : Bk2 w8 (w.heap.size + 3) (.int .i64 0) (.int .i64 0) := PF.below hb8 PF.lt
      clear hb8
      go_wp2_with fail
      refine (ilimited_any _ true A8 k8 c8 (vb 4294967296 rs + 1) x8 hl8 R8.out).mono ?_
      rintro e w9 hv
      rw [show sval true (vb 4294967296 rs + 1) = snum true (vb 4294967296 rs) from rfl] at hv
      clear hl8
      obtain ⟨z4, f4, g4, hy4, m4, A4, k4, c4, x4, rfl, hl4, hr4, hb4⟩ := vl_yr hv
      clear hv
      have R4 := Lib.hid hr4
      have Y4 := Lib.hid hy4
      have sw9 := hb4.size
      clear hr4 hy4
      replace E : Below w.heap.size w w9 := E.trans (hb4.mono E.size)
      replace PR : Bk2 w9 (w.heap.size + 2) (.bool false) (.slice none 0 0) := PR.below hb4 PR.lt
      replace PF : Bk2 w9 (w.heap.size + 3) (.int .i64 0) (.int .i64 0) := PF.below hb4 PF.lt
      clear hb4
      have y_PR0 : w9.cell? ⟨w.heap.size + 2, 0, none⟩ = some ((.bool false)) := PR.c0
      have z_PR0 : w9.frozen? ⟨w.heap.size + 2, 0, none⟩ = false := PR.z0
      have y_PR1 : w9.cell? ⟨w.heap.size + 2, 1, none⟩ = some ((.slice none 0 0)) := PR.c1
      have z_PR1 : w9.frozen? ⟨w.heap.size + 2, 1, none⟩ = false := PR.z1
      have lt_PR := PR.lt
      have y_PF0 : w9.cell? ⟨w.heap.size + 3, 0, none⟩ = some ((.int .i64 0)) := PF.c0
      have z_PF0 : w9.frozen? ⟨w.heap.size + 3, 0, none⟩ = false := PF.z0
      have y_PF1 : w9.cell? ⟨w.heap.size + 3, 1, none⟩ = some ((.int .i64 0)) := PF.c1
      have z_PF1 : w9.frozen? ⟨w.heap.size + 3, 1, none⟩ = false := PF.z1
      have lt_PF := PF.lt
      go_wp2_with fail
      clear y_PR0 z_PR0 y_PR1 z_PR1 lt_PR y_PF0 z_PF0 y_PF1 z_PF1 lt_PF
      obtain ⟨U4PR, hU4PR⟩ : ∃ U4PR : World, U4PR = ((w9.setCell ⟨w.heap.size + 2, 0, none⟩ (.bool m4)).setCell ⟨w.heap.size + 2, 1, none⟩ (.slice A4 k4 c4)) := ⟨_, rfl⟩
      have zU4PR : U4PR.heap.size = w9.heap.size := by rw [hU4PR]; simp [World.setCell]
      replace E : Below w.heap.size w U4PR := by rw [hU4PR]; exact (E.setCell (by first | (simp; done) | (simp; omega)) _).setCell (by first | (simp; done) | (simp; omega)) _
      replace PF : Bk2 U4PR (w.heap.size + 3) (.int .i64 0) (.int .i64 0) := by rw [hU4PR]; exact PF.far2 (by omega) _ _
      replace hl4 : LRd U4PR (w9.heap.size) A4 k4 c4 x4 := by rw [hU4PR]; first | exact hl4.setB PR (by simp) (by simp) _ _ | exact hl4.setFar2 (by omega) _ _
      replace PR : Bk2 U4PR (w.heap.size + 2) (.bool m4) (.slice A4 k4 c4) := by rw [hU4PR]; exact PR.set _ _
      rw [← hU4PR]
      clear hU4PR
      have zU4PR' := Nat.le_of_eq zU4PR
      replace zU4PR := Nat.le_of_eq zU4PR.symm
      obtain ⟨U4PF, hU4PF⟩ : ∃ U4PF : World, U4PF = ((U4PR.setCell ⟨w.heap.size + 3, 0, none⟩ (.int .i64 f4)).setCell ⟨w.heap.size + 3, 1, none⟩ (.int .i64 g4)) := ⟨_, rfl⟩
      have zU4PF : U4PF.heap.size = U4PR.heap.size := by rw [hU4PF]; simp [World.setCell]
      replace E : Below w.heap.size w U4PF := by rw [hU4PF]; exact (E.setCell (by first | (simp; done) | (simp; omega)) _).setCell (by first | (simp; done) | (simp; omega)) _
      replace PR : Bk2 U4PF (w.heap.size + 2) (.bool m4) (.slice A4 k4 c4) := by rw [hU4PF]; exact PR.far2 (by omega) _ _
      replace hl4 : LRd U4PF (w9.heap.size) A4 k4 c4 x4 := by rw [hU4PF]; first | exact hl4.setB PF (by simp) (by simp) _ _ | exact hl4.setFar2 (by omega) _ _
      replace PF : Bk2 U4PF (w.heap.size + 3) (.int .i64 f4) (.int .i64 g4) := by rw [hU4PF]; exact PF.set _ _
      rw [← hU4PF]
      clear hU4PF
      have zU4PF' := Nat.le_of_eq zU4PF
      replace zU4PF := Nat.le_of_eq zU4PF.symm
      obtain ⟨f0, f1, _, _, _⟩ := PF
      obtain ⟨r0, r1, _, _, _⟩ := PR
      refine bodyPost_ret (v := .tuple #[intv m4 A4 k4 c4, flt f4 g4]) (by simp [results, Try.results93, go_sem, f0, f1, r0, r1]) rfl ⟨_, HZ.out, yr_vl Y4.out ⟨m4, A4, k4, c4, x4, rfl, hl4.more (by omega), R4.out, E⟩⟩
end Go.Proofs.Ytpjfoggohhlbdaa
