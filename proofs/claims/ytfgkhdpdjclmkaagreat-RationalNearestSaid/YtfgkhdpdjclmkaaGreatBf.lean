/- Package integer: values, Valid, check, signed, limited; the reference's IntOk and Faults. Package integer: signed, limited, tooLarge; the reference's Faults. Package integer: Mul. -/
import Derived.Test.YtfgkhdpdjclmkaaGreatBc
import Derived.Test.YtfgkhdpdjclmkaaGreatBd
import Derived.Deep.QuietTactic
import Derived.BigQuiet
import Derived.Deep.RegionWith
namespace Go.Proofs.YtfgkhdpdjclmkaaGreat
open Go.RowKit
set_option maxHeartbeats 400000
set_option maxRecDepth 100000
set_option linter.unusedSimpArgs false
set_option linter.unusedVariables false

/-- An api.Int (a reference's Int looks alike). -/
abbrev intv (neg : Bool) (A : Option Addr) (n c : Nat) : Value := .agg #[.bool neg, .slice A n c]
def ivld (neg : Bool) (xs : List Nat) : Bool := if xs.length = 0 then !neg else decide (xs.length ≤ 128) && vld xs
theorem ivld_nil {neg : Bool} {xs : List Nat} (h : xs.length = 0) : ivld neg xs = !neg := by unfold ivld; rw [if_pos h]
theorem ivld_some {neg : Bool} {xs : List Nat} (h : xs.length ≠ 0) : ivld neg xs = (decide (xs.length ≤ 128) && vld xs) := by unfold ivld; rw [if_neg h]
theorem ivalid_any (w : World) (B : Nat) (neg : Bool) (A : Option Addr) (n c : Nat) (xs : List Nat) (h : LRd w B A n c xs) (hB : B ≤ w.heap.size) :
    Calls Tryz.prog 89 #[intv neg A n c] w fun e w' => e = .returned (.bool (ivld neg xs)) ∧ Below w.heap.size w w' := by
  have hl := h.len.out
  have hcap := h.cap
  have h1 := h.alloc hB (.cells #[.bool neg, .slice A n c] 24)
  by_cases h0 : n = 0
  · have HV := Lib.hid (ivld_nil (neg := neg) (xs := xs) (by omega))
    subst h0
    go_enter Tryz.func89, Tryz.ntmps89
    go_wp2_with fail
    go_ret
    exact ⟨by rw [HV.out]; rfl, bl1 _ _⟩
  · have HV := Lib.hid (ivld_some (neg := neg) (xs := xs) (by omega))
    have hf0 : ((n : Int) == 0) = false := beq_eq_false_iff_ne.2 (by omega)
    rw [hl] at HV
    by_cases h2 : n ≤ 128
    · go_enter Tryz.func89, Tryz.ntmps89
      go_wp2_with fail
      refine (valid_any _ B A n c xs h1).mono ?_
      rintro e w' ⟨rfl, rfl⟩
      go_wp2_with fail
      go_ret
      exact ⟨by rw [HV.out]; simp [h2], bl1 _ _⟩
    · go_enter Tryz.func89, Tryz.ntmps89
      go_wp2_with fail
      go_ret
      exact ⟨by rw [HV.out]; simp [h2], bl1 _ _⟩
theorem vld_last {xs : List Nat} {m : Nat} (hl : xs.length = m + 1) (hm : m + 1 ≤ 600) : vld xs = (nth xs m != 0) := by
  unfold vld nth
  rw [hl, Nat.add_sub_cancel]
  generalize xs.getD m 0 = x
  have h1 : decide (m + 1 ≤ 600) = true := by simp [hm]
  have h2 : (m + 1 == 0) = false := by simp
  rw [h1, h2]
  rcases Nat.eq_zero_or_pos x with rfl | e
  · rfl
  · have e1 : (x != 0) = true := bne_iff_ne.2 (by omega)
    have e2 : ((x : Int) != 0) = true := bne_iff_ne.2 (by omega)
    rw [e1, e2]; rfl
set_option maxHeartbeats 1000000 in
theorem intOk_any (w : World) (B : Nat) (neg : Bool) (A : Option Addr) (n c : Nat) (xs : List Nat) (h : LRd w B A n c xs) (hB : B ≤ w.heap.size) :
    Calls Tryz.prog 45 #[intv neg A n c] w fun e w' => e = .returned (.bool (ivld neg xs)) ∧ Below w.heap.size w w' := by
  have hl := h.len.out
  have hcap := h.cap
  have h1 := h.alloc hB (.cells #[.bool neg, .slice A n c] 24)
  by_cases h0 : n = 0
  · have HV := Lib.hid (ivld_nil (neg := neg) (xs := xs) (by omega))
    subst h0
    cases neg
    all_goals
      go_enter Tryz.func45, Tryz.ntmps45
      go_wp2_with fail
      go_ret
      exact ⟨by rw [HV.out]; rfl, bl1 _ _⟩
  · have HV := Lib.hid (ivld_some (neg := neg) (xs := xs) (by omega))
    have hf0 : ((n : Int) == 0) = false := beq_eq_false_iff_ne.2 (by omega)
    rw [hl] at HV
    by_cases h2 : n ≤ 128
    · obtain ⟨m, rfl⟩ : ∃ m, n = m + 1 := ⟨n - 1, by omega⟩
      have HL := Lib.hid (vld_last hl (by omega))
      obtain ⟨b, off, rfl, hb, hc⟩ := h1.rd (by omega)
      have g1 := hc m (by omega)
      have a1 := nth_nn xs m
      have a2 := h.lim.nth m
      clear hc
      by_cases hx : nth xs m = 0
      · have hx' : (nth xs m != 0) = false := by simp [hx]
        go_enter Tryz.func45, Tryz.ntmps45
        go_wp2_with fail
        go_ret
        exact ⟨by rw [HV.out, HL.out, hx']; simp, bl1 _ _⟩
      · have hx' : (nth xs m != 0) = true := bne_iff_ne.2 hx
        clear hx
        go_enter Tryz.func45, Tryz.ntmps45
        go_wp2_with fail
        go_ret
        exact ⟨by rw [HV.out, HL.out, hx']; simp [h2], bl1 _ _⟩
    · go_enter Tryz.func45, Tryz.ntmps45
      go_wp2_with fail
      go_ret
      exact ⟨by rw [HV.out]; simp [h2], bl1 _ _⟩
/-- An integer among the arguments. -/
structure IV where
  neg : Bool
  A : Option Addr
  n : Nat
  c : Nat
  xs : List Nat
def IV.ok (v : IV) : Bool := ivld v.neg v.xs
/-- The fault of the first argument from i on that is not valid. -/
def ffault : List IV → Nat → Int × Int
  | [], _ => (0, 0)
  | v :: vs, i => if v.ok then ffault vs (i + 1) else (6, -1 - (i : Int))
theorem ff_at {vs : List IV} {i k : Nat} (h : i < vs.length) : ffault (vs.drop i) k = if (vs[i]).ok then ffault (vs.drop (i + 1)) (k + 1) else (6, -1 - (k : Int)) := by
  rw [List.drop_eq_getElem_cons h]; rfl
/-- k integers in block g. -/
structure IRow (w : World) (B g : Nat) (vs : List IV) : Prop where
  c0 : ∀ i (h : i < vs.length), w.cell? ⟨g, i * 2, none⟩ = some (.bool (vs[i]).neg)
  c1 : ∀ i (h : i < vs.length), w.cell? ⟨g, i * 2 + 1, none⟩ = some (.slice (vs[i]).A (vs[i]).n (vs[i]).c)
  rd : ∀ i (h : i < vs.length), LRd w B (vs[i]).A (vs[i]).n (vs[i]).c (vs[i]).xs
  lt : g < w.heap.size
theorem IRow.below {w w' : World} {B g : Nat} {vs : List IV} (h : IRow w B g vs) (hb : Below w.heap.size w w') (hB : B ≤ w.heap.size) : IRow w' B g vs :=
  ⟨fun i hi => (hb.cell (p := ⟨g, i * 2, none⟩) h.lt).trans (h.c0 i hi), fun i hi => (hb.cell (p := ⟨g, i * 2 + 1, none⟩) h.lt).trans (h.c1 i hi), fun i hi => (h.rd i hi).below hb hB, by have := h.lt; have := hb.size; omega⟩
theorem IRow.alloc {w : World} {B g : Nat} {vs : List IV} (h : IRow w B g vs) (hB : B ≤ w.heap.size) (o : Obj) : IRow (w.alloc o) B g vs := h.below (bl1 w o) hB
def CkRel (k : Nat) (vs : List IV) (w : World) (i : Value) (wr : World) : Prop :=
  ∃ j : Nat, j ≤ k ∧ i = .int .i64 (j : Int) ∧ Hid (ffault vs 0 = ffault (vs.drop j) j) ∧ Below w.heap.size w wr
set_option maxHeartbeats 2000000 in
theorem check_any (w : World) (B g k : Nat) (vs : List IV) (h : IRow w B g vs) (hk : vs.length = k) (hB : B ≤ w.heap.size) (hM : k ≤ 1000) :
    Calls Tryz.prog 95 #[.slice (some ⟨g, 0, none⟩) k k] w fun e w' => e = .returned (flt (ffault vs 0).1 (ffault vs 0).2) ∧ Below w.heap.size w w' := by
  have HK := Lib.hid hk
  clear hk
  go_enter Tryz.func95, Tryz.ntmps95
  go_wp2_with fail
  go_loopw [7] (CkRel k vs (w.alloc (.cells #[.int .i64 0, .int .i64 0] 28))) (fun i _ => k - (intOf i).toNat)
  case atStart => exact ⟨0, by omega, rfl, rfl, Below.refl _ _⟩
  case round =>
    obtain ⟨j, hj, rfl, hff, hbw⟩ := hrel
    have hz : w.heap.size < wr.heap.size := by have := hbw.size; simp at this; omega
    obtain ⟨hc, hf⟩ := bcell hbw
    have d0 : wr.cell? ⟨w.heap.size, 0, none⟩ = some (.int .i64 0) := by rw [hc w.heap.size 0 (by simp)]; simp [go_sem]
    have d1 : wr.cell? ⟨w.heap.size, 1, none⟩ = some (.int .i64 0) := by rw [hc w.heap.size 1 (by simp)]; simp [go_sem]
    have g0 : wr.frozen? ⟨w.heap.size, 0, none⟩ = false := by rw [hf w.heap.size 0 (by simp)]; simp [go_sem]
    have g1 : wr.frozen? ⟨w.heap.size, 1, none⟩ = false := by rw [hf w.heap.size 1 (by simp)]; simp [go_sem]
    clear hc hf
    by_cases h1 : j < k
    · have hjv : j < vs.length := by rw [HK.out]; exact h1
      have hr := (h.alloc hB (.cells #[.int .i64 0, .int .i64 0] 28)).below hbw (by simp; omega)
      obtain ⟨v, hv⟩ : ∃ v, v = vs[j] := ⟨_, rfl⟩
      have e0 := hr.c0 j hjv
      have e1 := hr.c1 j hjv
      have e2 := hr.rd j hjv
      have hst := Lib.hid (ff_at (k := j) hjv)
      rw [← hv] at e0 e1 e2 hst
      have e3 := e2.alloc (by omega) (.cells #[.bool v.neg, .slice v.A v.n v.c] 24)
      have hbo : Below w.heap.size w wr := (bl1 w _).trans (hbw.mono (by simp))
      clear hv hr
      go_wp2_with fail
      refine (ivalid_any _ B v.neg v.A v.n v.c v.xs e3 (by simp; omega)).mono ?_
      rintro e w5 ⟨rfl, hb5⟩
      have hz5 : wr.heap.size < w5.heap.size := next_lt hb5
      by_cases hok : ivld v.neg v.xs = true
      · have HN := Lib.hid (show ffault vs 0 = ffault (vs.drop (j + 1)) (j + 1) by rw [hff.out, hst.out]; show (if ivld v.neg v.xs = true then _ else _) = _; rw [if_pos hok])
        rw [hok]
        go_wp2_with fail
        go_roundw
        case rel => exact ⟨j + 1, by omega, by go_num, HN, (hbw.alloc hbw.size _).trans (hb5.mono (by have := hbw.size; simp at *; omega))⟩
        case measure => first | (simp [intOf]; done) | (simp [intOf]; omega)
      · have hok' : ivld v.neg v.xs = false := by simpa using hok
        have HN := Lib.hid (show ffault vs 0 = (6, -1 - (j : Int)) by rw [hff.out, hst.out]; show (if ivld v.neg v.xs = true then _ else _) = _; rw [if_neg hok])
        rw [hok']
        obtain ⟨hc5, hf5⟩ := bcell hb5
        have x0 : w5.cell? ⟨w.heap.size, 0, none⟩ = some (.int .i64 0) := by rw [hc5 w.heap.size 0 (by simp; omega), World.cell?_alloc_lt _ _ _ (by show w.heap.size < _; omega)]; exact d0
        have x1 : w5.cell? ⟨w.heap.size, 1, none⟩ = some (.int .i64 0) := by rw [hc5 w.heap.size 1 (by simp; omega), World.cell?_alloc_lt _ _ _ (by show w.heap.size < _; omega)]; exact d1
        have y0 : w5.frozen? ⟨w.heap.size, 0, none⟩ = false := by rw [hf5 w.heap.size 0 (by simp; omega), World.frozen?_alloc_past _ _ _ hz]; exact g0
        have y1 : w5.frozen? ⟨w.heap.size, 1, none⟩ = false := by rw [hf5 w.heap.size 1 (by simp; omega), World.frozen?_alloc_past _ _ _ hz]; exact g1
        clear hc5 hf5 hok
        go_wp2_with fail
        refine bodyPost_ret (v := flt 6 (-1 - (j : Int))) (by simp [results, Tryz.results95, go_sem, x0, x1]) rfl ⟨by rw [HN.out], ?_⟩
        (repeat (first | exact Below.refl _ _ | exact hbo | refine Below.setCell ?_ (by simp; done) _ | refine Below.trans ?_ (Below.mono hb5 (by first | omega | (simp; done) | (simp; omega))) | refine Below.alloc ?_ (by first | omega | (simp; done) | (simp; omega)) _))
    · obtain rfl : j = k := by omega
      have HN := Lib.hid (show ffault vs 0 = (0, 0) by rw [hff.out, List.drop_of_length_le (by rw [HK.out]; exact Nat.le_refl _)]; rfl)
      have hbo : Below w.heap.size w wr := (bl1 w _).trans (hbw.mono (by simp))
      go_wp2_with fail
      refine bodyPost_ret (v := flt 0 0) (by simp [results, Tryz.results95, go_sem, d0, d1]) rfl ⟨by rw [HN.out], ?_⟩
      (repeat (first | exact Below.refl _ _ | exact hbo | refine Below.setCell ?_ (by simp; done) _))
/-- A sign and an absolute value. -/
def sval (neg : Bool) (v : Nat) : Int := if neg then -(v : Int) else v
theorem sval_abs (neg : Bool) (v : Nat) : (sval neg v).natAbs = v := by unfold sval; cases neg <;> simp
/-- The limbs and the sign of an integer. -/
structure IRep (neg : Bool) (xs : List Nat) (z : Int) : Prop where
  rep : Rep 4294967296 xs z.natAbs
  sgn : neg = decide (z < 0)
theorem IRep.of {neg : Bool} {xs : List Nat} {v : Nat} (h : Rep 4294967296 xs v) (h0 : 0 < v) : IRep neg xs (sval neg v) :=
  ⟨by rw [sval_abs]; exact h, by unfold sval; cases neg <;> simp <;> omega⟩
theorem IRep.zero : IRep false [] 0 := ⟨nil_rep, by simp⟩
theorem IRep.val {neg : Bool} {xs : List Nat} {z : Int} (h : IRep neg xs z) : z = sval neg (vb 4294967296 xs) := by
  rw [h.rep.val, h.sgn]
  unfold sval
  split <;> rename_i hh
  · have := of_decide_eq_true hh; omega
  · have : ¬ z < 0 := fun e => hh (decide_eq_true e)
    omega
def GivesV (w : World) (z : Int) (e : Ending) (w' : World) : Prop :=
  ∃ neg A k c zs, e = .returned (intv neg A k c) ∧ LRd w' w'.heap.size A k c zs ∧ IRep neg zs z ∧ Below w.heap.size w w'
def GivesVF (w : World) (z f1 f2 : Int) (e : Ending) (w' : World) : Prop :=
  ∃ neg A k c zs, e = .returned (.tuple #[intv neg A k c, flt f1 f2]) ∧ LRd w' w'.heap.size A k c zs ∧ IRep neg zs z ∧ Below w.heap.size w w'
theorem tooLarge_any (w : World) : Calls Tryz.prog 97 #[] w fun e w' => e = .returned (flt 14 (-1)) ∧ Below w.heap.size w w' := by
  go_enter Tryz.func97, Tryz.ntmps97
  go_wp2_with fail
  refine bodyPost_ret (v := flt 14 (-1)) (by simp [results, Tryz.results97, go_sem]) rfl ⟨rfl, ?_⟩
  (repeat (first | exact Below.refl _ _ | refine Below.setCell ?_ (by simp; done) _ | refine Below.alloc ?_ (by first | omega | (simp; done) | (simp; omega)) _))
/-- A store over a cell that holds no limb. -/
theorem LRd.setN {w : World} {B n c : Nat} {A : Option Addr} {xs : List Nat} (h : LRd w B A n c xs) {p : Addr} (hp : ∀ x, w.cell? p ≠ some (.int .u32 x)) (u : Value) : LRd (w.setCell p u) B A n c xs :=
  ⟨h.len, h.cap, h.lim, fun hn => by
    obtain ⟨b, off, e, hb, hc⟩ := h.rd hn
    refine ⟨b, off, e, hb, fun j hj => ?_⟩
    by_cases hq : (⟨b, off + j, none⟩ : Addr) = p
    · subst hq; exact absurd (hc j hj) (hp _)
    · rw [World.cell?_setCell_other _ _ _ _ (fun e => hq e.symm)]; exact hc j hj⟩
/-- Result cells of an integer and of a fault, stored to. -/
structure RC (w : World) (g : Nat) (neg : Bool) (A : Option Addr) (n c : Nat) (a b : Int) : Prop where
  a0 : w.cell? ⟨g, 0, none⟩ = some (.bool neg)
  a1 : w.cell? ⟨g, 1, none⟩ = some (.slice A n c)
  b0 : w.cell? ⟨g + 1, 0, none⟩ = some (.int .i64 a)
  b1 : w.cell? ⟨g + 1, 1, none⟩ = some (.int .i64 b)
theorem LRd.setR {w : World} {B n c g n' c' : Nat} {neg : Bool} {A A' : Option Addr} {a b : Int} {xs : List Nat} (h : LRd w B A n c xs) (r : RC w g neg A' n' c' a b) (u0 u1 u2 u3 : Value) :
    LRd ((((w.setCell ⟨g, 0, none⟩ u0).setCell ⟨g, 1, none⟩ u1).setCell ⟨g + 1, 0, none⟩ u2).setCell ⟨g + 1, 1, none⟩ u3) B A n c xs := by
  have n1 : ∀ {w : World} {p q : Addr} {u : Value}, p ≠ q → (w.setCell p u).cell? q = w.cell? q := fun hpq => World.cell?_setCell_other _ _ _ _ hpq
  refine (((h.setN (fun x => by rw [r.a0]; simp) _).setN (fun x => ?_) _).setN (fun x => ?_) _).setN (fun x => ?_) _
  · rw [n1 (by simp), r.a1]; simp
  · rw [n1 (by simp), n1 (by simp), r.b0]; simp
  · rw [n1 (by simp), n1 (by simp), n1 (by simp), r.b1]; simp
theorem LRd.setO {w : World} {B n c : Nat} {A : Option Addr} {xs : List Nat} (h : LRd w B A n c xs) {p : Addr} (hp : B ≤ p.block) (u : Value) : LRd (w.setCell p u) B A n c xs :=
  h.keep fun q hq => World.cell?_setCell_other w p q u (fun e => by rw [← e] at hq; omega)
theorem rep_pos4' {xs : List Nat} {p n : Nat} (h : Rep 4294967296 xs p) (hl : xs.length = n) (h0 : 0 < n) : 0 < p := by
  rcases Nat.eq_zero_or_pos p with e | e
  · exfalso
    subst e
    have := h.length_le (m := 0) (by decide) (by decide)
    omega
  · exact e
theorem signed_any (w : World) (neg : Bool) (A : Option Addr) (k c v : Nat) (zs : List Nat) (h : LRd w w.heap.size A k c zs) (hr : Rep 4294967296 zs v) :
    Calls Tryz.prog 107 #[.bool neg, .slice A k c] w (GivesV w (sval neg v)) := by
  have hcap := h.cap
  have HR := Lib.hid hr
  by_cases h0 : k = 0
  · have HZ := Lib.hid (show v = 0 by rw [← hr.val, List.eq_nil_of_length_eq_zero (h.len.out.trans h0), vb_nil])
    subst h0
    go_enter Tryz.func107, Tryz.ntmps107
    go_wp2_with fail
    refine bodyPost_ret (v := intv false none 0 0) (by simp [results, Tryz.results107, go_sem]) rfl ⟨false, none, 0, 0, [], rfl, nil_lrd _, ?_, ?_⟩
    · rw [HZ.out]
      have : sval neg 0 = 0 := by unfold sval; cases neg <;> rfl
      rw [this]; exact IRep.zero
    · (repeat (first | exact Below.refl _ _ | refine Below.setCell ?_ (by simp; done) _ | refine Below.alloc ?_ (by first | omega | (simp; done) | (simp; omega)) _))
  · have hf0 : ((k : Int) == 0) = false := beq_eq_false_iff_ne.2 (by omega)
    have HP := Lib.hid (rep_pos4' hr h.len.out (by omega))
    have hl := h.alloc (Nat.le_refl _) (.cells #[.bool false, .slice none 0 0] 24)
    clear h0
    go_enter Tryz.func107, Tryz.ntmps107
    go_wp2_with fail
    refine bodyPost_ret (v := intv neg A k c) (by simp [results, Tryz.results107, go_sem]) rfl ⟨neg, A, k, c, zs, rfl, ?_, IRep.of HR.out HP.out, ?_⟩
    · refine LRd.more (h.alloc (Nat.le_refl _) _) ?_
      simp
    · (repeat (first | exact Below.refl _ _ | refine Below.setCell ?_ (by simp; done) _ | refine Below.alloc ?_ (by first | omega | (simp; done) | (simp; omega)) _))
/-- The first absolute value that is too large. -/
@[irreducible] def Top128 : Nat := 4294967296 ^ 128
theorem top128 {m : Nat} (h : m = 128) : Top128 = 4294967296 ^ m := by subst h; unfold Top128; rfl
theorem lt128 {zs : List Nat} {v k : Nat} (h : Rep 4294967296 zs v) (hl : zs.length = k) (hk : k ≤ 128) : v < Top128 := by
  obtain ⟨m, hm⟩ : ∃ m, m = 128 := ⟨_, rfl⟩
  rw [top128 hm]
  exact Nat.lt_of_lt_of_le (h.lt_pow (by decide)) (Nat.pow_le_pow_right (by decide) (by omega))
abbrev IV.v (a : IV) : Value := intv a.neg a.A a.n a.c
abbrev IV.cells (a : IV) : Obj := .cells #[.bool a.neg, .slice a.A a.n a.c] 24
def IV.at (w : World) (B : Nat) (a : IV) : Prop := LRd w B a.A a.n a.c a.xs
def IV.val (a : IV) : Int := sval a.neg (vb 4294967296 a.xs)
/-- The four blocks at the beginning of a call with two integers that returns one and a fault: the arguments' boxes, the results. -/
structure Fr2 (w : World) (s : Nat) (a b : IV) : Prop where
  a0 : w.cell? ⟨s, 0, none⟩ = some (.bool a.neg)
  a1 : w.cell? ⟨s, 1, none⟩ = some (.slice a.A a.n a.c)
  b0 : w.cell? ⟨s + 1, 0, none⟩ = some (.bool b.neg)
  b1 : w.cell? ⟨s + 1, 1, none⟩ = some (.slice b.A b.n b.c)
  r0 : w.cell? ⟨s + 2, 0, none⟩ = some (.bool false)
  r1 : w.cell? ⟨s + 2, 1, none⟩ = some (.slice none 0 0)
  f0 : w.cell? ⟨s + 3, 0, none⟩ = some (.int .i64 0)
  f1 : w.cell? ⟨s + 3, 1, none⟩ = some (.int .i64 0)
  fz : ∀ t o, t < 4 → w.frozen? ⟨s + t, o, none⟩ = false
  lt : s + 4 ≤ w.heap.size
theorem Fr2.below {w w' : World} {s B : Nat} {a b : IV} (h : Fr2 w s a b) (hb : Below B w w') (hB : s + 4 ≤ B) : Fr2 w' s a b := by
  obtain ⟨hc, hf⟩ := bcell hb
  exact ⟨(hc _ _ (by omega)).trans h.a0, (hc _ _ (by omega)).trans h.a1, (hc _ _ (by omega)).trans h.b0, (hc _ _ (by omega)).trans h.b1, (hc _ _ (by omega)).trans h.r0, (hc _ _ (by omega)).trans h.r1, (hc _ _ (by omega)).trans h.f0, (hc _ _ (by omega)).trans h.f1,
    fun t o ht => (hf _ _ (by omega)).trans (h.fz t o ht), by have := hb.size; have := h.lt; omega⟩
theorem Fr2.alloc {w : World} {s : Nat} {a b : IV} (h : Fr2 w s a b) (o : Obj) : Fr2 (w.alloc o) s a b := h.below (bl1 w o) h.lt
abbrev fr2w (w : World) (a b : IV) : World := (((w.alloc a.cells).alloc b.cells).alloc (.cells #[.bool false, .slice none 0 0] 24)).alloc (.cells #[.int .i64 0, .int .i64 0] 28)
theorem Fr2.new (w : World) (a b : IV) : Fr2 (fr2w w a b) w.heap.size a b := by
  refine ⟨by simp [go_sem], by simp [go_sem], by simp [go_sem], by simp [go_sem], by simp [go_sem], by simp [go_sem], by simp [go_sem], by simp [go_sem], fun t o ht => ?_, by simp⟩
  rcases (show t = 0 ∨ t = 1 ∨ t = 2 ∨ t = 3 by omega) with rfl | rfl | rfl | rfl <;> simp [go_sem]
theorem fr2_below (w : World) (a b : IV) : Below w.heap.size w (fr2w w a b) := (((bl1 w _).alloc (by simp) _).alloc (by simp; omega) _).alloc (by simp; omega) _
abbrev two (a b : IV) : Obj := .cells #[.bool a.neg, .slice a.A a.n a.c, .bool b.neg, .slice b.A b.n b.c] 24
theorem irow2 (w : World) (B : Nat) (a b : IV) (ha : a.at w B) (hb : b.at w B) (hB : B ≤ w.heap.size) : IRow (w.alloc (two a b)) B w.heap.size [a, b] := by
  have ha' := LRd.alloc ha hB (two a b)
  have hb' := LRd.alloc hb hB (two a b)
  refine ⟨fun i hi => ?_, fun i hi => ?_, fun i hi => ?_, by simp⟩
  all_goals
    have hi' : i < 2 := hi
    rcases (show i = 0 ∨ i = 1 by omega) with rfl | rfl
    all_goals first | exact ha' | exact hb' | simp [go_sem]
theorem two_ok {a b : IV} (ha : a.ok = true) (hb : b.ok = true) : ffault [a, b] 0 = (0, 0) := by
  show (if a.ok then (if b.ok then (0, 0) else _) else _) = _
  rw [if_pos ha, if_pos hb]
theorem two_bad {a b : IV} (h : ¬ (a.ok = true ∧ b.ok = true)) : ∃ f2, ffault [a, b] 0 = (6, f2) := by
  by_cases ha : a.ok = true
  · have hb : ¬ b.ok = true := fun e => h ⟨ha, e⟩
    exact ⟨_, by show (if a.ok then (if b.ok then (0, 0) else _) else _) = _; rw [if_pos ha, if_neg hb]⟩
  · exact ⟨_, by show (if a.ok then _ else _) = _; rw [if_neg ha]⟩
theorem IV.vld {a : IV} (h : a.ok = true) : Go.Proofs.YtfgkhdpdjclmkaaGreat.vld a.xs = true ∧ a.xs.length ≤ 128 := by
  unfold IV.ok ivld at h
  split at h
  · rename_i h0
    refine ⟨?_, by omega⟩
    rw [List.eq_nil_of_length_eq_zero h0]; rfl
  · simp only [Bool.and_eq_true, decide_eq_true_eq] at h
    exact ⟨h.2, h.1⟩
theorem IV.irep {a : IV} (h : a.ok = true) (hl : Lim a.xs) : IRep a.neg a.xs a.val := by
  have hr : Rep 4294967296 a.xs (vb 4294967296 a.xs) := ⟨hl, rfl, (vld_top (IV.vld h).1).1⟩
  rcases Nat.eq_zero_or_pos (vb 4294967296 a.xs) with e | e
  · rw [e] at hr
    have hn := hr.zero_nil (by decide)
    unfold IV.ok ivld at h
    rw [if_pos (by rw [hn]; rfl)] at h
    have hneg : a.neg = false := by simpa using h
    refine ⟨?_, ?_⟩
    · unfold IV.val; rw [sval_abs, e]; exact hr
    · unfold IV.val; rw [hneg]; unfold sval; simp
  · exact IRep.of hr e
end Go.Proofs.YtfgkhdpdjclmkaaGreat
