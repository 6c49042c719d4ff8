/- Package integer: DivMod where it is refused. Package integer: DivMod. -/
import Derived.Test.YtfgkhdpdjclmkaaGreatBi
import Derived.Test.YtfgkhdpdjclmkaaGreatBg
import Derived.BigRegion
import Derived.Deep.RegionWith
namespace Go.Proofs.YtfgkhdpdjclmkaaGreat
open Go.RowKit
set_option maxHeartbeats 400000
set_option maxRecDepth 100000
set_option linter.unusedSimpArgs false
set_option linter.unusedVariables false

def FloorOf (a b q r : Int) : Prop := a = q * b + r ∧ (0 ≤ r ∧ r < b ∨ b < r ∧ r ≤ 0)
theorem FloorOf.uniq {a b q r q' r' : Int} (h : FloorOf a b q r) (k : FloorOf a b q' r') : q = q' ∧ r = r' := by
  obtain ⟨h1, h2⟩ := h
  obtain ⟨k1, k2⟩ := k
  have e : (q - q') * b = r' - r := by rw [Int.sub_mul]; omega
  have hq : q - q' = 0 := by
    rcases (show q - q' = 0 ∨ 1 ≤ q - q' ∨ q - q' ≤ -1 by omega) with h | h | h
    · exact h
    · exfalso
      rcases (show 0 < b ∨ b < 0 by omega) with hb | hb
      · have := Int.mul_le_mul_of_nonneg_right h (by omega : 0 ≤ b); omega
      · have := Int.mul_le_mul_of_nonpos_right h (by omega : b ≤ 0); omega
    · exfalso
      rcases (show 0 < b ∨ b < 0 by omega) with hb | hb
      · have := Int.mul_le_mul_of_nonneg_right h (by omega : 0 ≤ b); omega
      · have := Int.mul_le_mul_of_nonpos_right h (by omega : b ≤ 0); omega
  rw [hq] at e
  omega
/-- The results of a division: two integers and a fault. -/
def GivesQV (w : World) (q r f1 f2 : Int) (e : Ending) (w' : World) : Prop :=
  ∃ m A k c zs n D l d ys, e = .returned (.tuple #[intv m A k c, intv n D l d, flt f1 f2]) ∧ LRd w' w'.heap.size A k c zs ∧ IRep m zs q ∧ LRd w' w'.heap.size D l d ys ∧ IRep n ys r ∧ Below w.heap.size w w'
theorem LRd.setB {w : World} {B n c g : Nat} {A : Option Addr} {xs : List Nat} {u v : Value} (h : LRd w B A n c xs) (k : Bk2 w g u v) (hu : ∀ x, u ≠ .int .u32 x) (hv : ∀ x, v ≠ .int .u32 x) (x y : Value) : LRd ((w.setCell ⟨g, 0, none⟩ x).setCell ⟨g, 1, none⟩ y) B A n c xs :=
  (h.setN (fun z => by rw [k.c0]; intro e; injection e with e; exact hu z e) x).setN (fun z => by rw [World.cell?_setCell_other _ _ _ _ (by simp), k.c1]; intro e; injection e with e; exact hv z e) y
theorem Bk2.far2 {w : World} {g g' : Nat} {u v : Value} (h : Bk2 w g u v) (hne : g' ≠ g) (x y : Value) : Bk2 ((w.setCell ⟨g', 0, none⟩ x).setCell ⟨g', 1, none⟩ y) g u v := (h.far (p := ⟨g', 0, none⟩) hne x).far (p := ⟨g', 1, none⟩) hne y
abbrev dm5 (w : World) (a b : IV) : World := ((((w.alloc a.cells).alloc b.cells).alloc (.cells #[.bool false, .slice none 0 0] 24)).alloc (.cells #[.bool false, .slice none 0 0] 24)).alloc (.cells #[.int .i64 0, .int .i64 0] 28)
structure Fr5 (w : World) (s : Nat) (a b : IV) : Prop where
  pa : Bk2 w s (.bool a.neg) (.slice a.A a.n a.c)
  pb : Bk2 w (s + 1) (.bool b.neg) (.slice b.A b.n b.c)
  r1 : Bk2 w (s + 2) (.bool false) (.slice none 0 0)
  r2 : Bk2 w (s + 3) (.bool false) (.slice none 0 0)
  rf : Bk2 w (s + 4) (.int .i64 0) (.int .i64 0)
theorem Fr5.below {w w' : World} {s B : Nat} {a b : IV} (h : Fr5 w s a b) (hb : Below B w w') (hB : s + 5 ≤ B) : Fr5 w' s a b :=
  ⟨h.pa.below hb (by omega), h.pb.below hb (by omega), h.r1.below hb (by omega), h.r2.below hb (by omega), h.rf.below hb (by omega)⟩
theorem Fr5.alloc {w : World} {s : Nat} {a b : IV} (h : Fr5 w s a b) (o : Obj) : Fr5 (w.alloc o) s a b := h.below (bl1 w o) (by have := h.rf.lt; omega)
theorem Fr5.new (w : World) (a b : IV) : Fr5 (dm5 w a b) w.heap.size a b := by
  refine ⟨⟨?_, ?_, ?_, ?_, ?_⟩, ⟨?_, ?_, ?_, ?_, ?_⟩, ⟨?_, ?_, ?_, ?_, ?_⟩, ⟨?_, ?_, ?_, ?_, ?_⟩, ⟨?_, ?_, ?_, ?_, ?_⟩⟩
  all_goals first | (simp [go_sem]; done) | (simp; omega)
theorem dm5_below (w : World) (a b : IV) : Below w.heap.size w (dm5 w a b) := (by (repeat (first | with_reducible exact Below.refl _ _ | with_reducible refine Below.drew ?_ | with_reducible refine below_drewN ?_ _ | with_reducible refine Below.setCell ?_ (by first | (simp <;> omega) | omega) _ | with_reducible refine Below.alloc ?_ (by first | (simp <;> omega) | omega) _)))
theorem one_any (w : World) : Calls Tryz.prog 109 #[] w (GivesL w 1) := by
  have o1 := one_row w 1 (by omega)
  go_enter Tryz.func109, Tryz.ntmps109
  go_wp2_with fail
  go_ret
  exact ⟨_, _, _, [1], rfl, o1.lrdAll (by intro x hx; simp at hx; omega) (by simp) (by show _ = _; rfl) (by omega), rep1 1 (by omega) (by omega), bl1 _ _⟩
/-- The division of absolute values, turned to that of the integers. -/
theorem floor_same {m : Bool} {p q : Nat} (hq : 0 < q) : FloorOf (sval m p) (sval m q) (sval false (p / q)) (sval m (p % q)) := by
  have h1 := Nat.div_add_mod p q
  have h2 := Nat.mod_lt p hq
  have h3 : ((p / q : Nat) : Int) * (q : Int) + ((p % q : Nat) : Int) = (p : Int) := by
    rw [← Int.natCast_mul, ← Int.natCast_add, Nat.mul_comm]; exact congrArg _ h1
  generalize p / q = d at *
  generalize p % q = r at *
  unfold FloorOf sval
  cases m
  · simp; omega
  · simp [Int.mul_neg]; omega
theorem floor_zero {m n : Bool} {p q : Nat} (hq : 0 < q) (hr : p % q = 0) (hne : m ≠ n) : FloorOf (sval m p) (sval n q) (sval true (p / q)) (sval n 0) := by
  have h1 := Nat.div_add_mod p q
  have h3 : ((p / q : Nat) : Int) * (q : Int) = (p : Int) := by
    rw [← Int.natCast_mul, Nat.mul_comm]; rw [hr, Nat.add_zero] at h1; exact congrArg _ h1
  generalize p / q = d at *
  unfold FloorOf sval
  cases m <;> cases n <;> simp [Int.mul_neg, Int.neg_mul] at * <;> omega
theorem floor_up {m n : Bool} {p q : Nat} (hq : 0 < q) (hr : 0 < p % q) (hne : m ≠ n) : FloorOf (sval m p) (sval n q) (sval true (p / q + 1)) (sval n (q - p % q)) := by
  have h1 := Nat.div_add_mod p q
  have h2 := Nat.mod_lt p hq
  have h3 : ((p / q : Nat) : Int) * (q : Int) + ((p % q : Nat) : Int) = (p : Int) := by
    rw [← Int.natCast_mul, ← Int.natCast_add, Nat.mul_comm]; exact congrArg _ h1
  generalize p / q = d at *
  generalize p % q = r at *
  unfold FloorOf sval
  have e : ((q - r : Nat) : Int) = (q : Int) - r := by omega
  cases m <;> cases n <;> simp [Int.mul_neg, Int.neg_mul, Int.add_mul, e] at * <;> omega
def DmPostV (x y : Int) (w : World) (e : Ending) (w' : World) : Prop := ∃ q r, FloorOf x y q r ∧ GivesQV w q r 0 0 e w'
theorem small_q {p q : Nat} (hp : p < Top128) (hq : 0 < q) : p / q + 1 < Big := by
  obtain ⟨m, hm⟩ : ∃ m, m = 128 := ⟨_, rfl⟩
  obtain ⟨k, hk⟩ : ∃ k, k = 600 := ⟨_, rfl⟩
  rw [top128 hm] at hp
  rw [big_pow hk]
  have h1 : p / q ≤ p := Nat.div_le_self p q
  have h2 : 4294967296 ^ (m + 1) ≤ 4294967296 ^ k := Nat.pow_le_pow_right (by decide) (by omega)
  rw [Nat.pow_succ] at h2
  omega
set_option maxHeartbeats 4000000 in
theorem idivmod_same (w : World) (B : Nat) (a b : IV) (ha : a.at w B) (hb : b.at w B) (hB : B ≤ w.heap.size) (oa : a.ok = true) (ob : b.ok = true) (h0 : 0 < b.n) (hs : Hid (a.neg = b.neg)) :
    Calls Tryz.prog 74 #[a.v, b.v] w (DmPostV a.val b.val w) := by
  have F5 := Fr5.new w a b
  have H5 := LRd.below ha (dm5_below w a b) hB
  have K5 := LRd.below hb (dm5_below w a b) hB
  have s5 : (dm5 w a b).heap.size = w.heap.size + 5 := by simp
  have HI := Lib.hid (irow2 (dm5 w a b) B a b H5 K5 (by omega))
  have E5 := dm5_below w a b
  obtain ⟨va, la⟩ := IV.vld oa
  obtain ⟨vb', lb⟩ := IV.vld ob
  have hra : Rep 4294967296 a.xs (vb 4294967296 a.xs) := ⟨ha.lim, rfl, (vld_top va).1⟩
  have hrb : Rep 4294967296 b.xs (vb 4294967296 b.xs) := ⟨hb.lim, rfl, (vld_top vb').1⟩
  have HRB := Lib.hid hrb
  have HPA := Lib.hid (lt128 hra rfl la)
  have HPB := Lib.hid (lt128 hrb rfl lb)
  have hq0 := Lib.hid (rep_pos4' hrb hb.len.out h0)
  have hf0 : ((b.n : Int) == 0) = false := beq_eq_false_iff_ne.2 (by omega)
  obtain ⟨p, hp⟩ : ∃ p, p = vb 4294967296 a.xs := ⟨_, rfl⟩
  obtain ⟨q, hq⟩ : ∃ q, q = vb 4294967296 b.xs := ⟨_, rfl⟩
  have HVA := Lib.hid (show a.val = sval a.neg p by rw [hp]; rfl)
  have HVB := Lib.hid (show b.val = sval b.neg q by rw [hq]; rfl)
  rw [← hp] at HPA
  rw [← hq] at HRB hq0 HPB
  have Hp := Lib.hid hp
  have Hq := Lib.hid hq
  clear hra hrb hp hq
  go_enter Tryz.func74, Tryz.ntmps74
  go_wp2_with fail
  refine (check_any _ B (w.heap.size + 5) 2 [a, b] (by have := HI.out; rw [s5] at this; exact this) rfl (by simp; omega) (by omega)).mono ?_
  rintro e w5 ⟨rfl, hb5⟩
  rw [two_ok oa ob]
  have z5 : w.heap.size + 5 < w5.heap.size := by have := hb5.size; simp at this; omega
  have FA := ((F5.alloc (two a b)).below hb5 (by simp)).alloc (.cells #[.int .i64 0, .int .i64 0] 28)
  have EA : Below w.heap.size w (w5.alloc (.cells #[.int .i64 0, .int .i64 0] 28)) := by (repeat (first | with_reducible exact Below.refl _ _ | with_reducible exact E5 | with_reducible refine Below.drew ?_ | with_reducible refine below_drewN ?_ _ | with_reducible refine Below.setCell ?_ (by first | (simp <;> omega) | omega) _ | with_reducible refine Below.trans ?_ (Below.mono hb5 (by first | (simp <;> omega) | omega)) | with_reducible refine Below.alloc ?_ (by first | (simp <;> omega) | omega) _))
  have HA : LRd (w5.alloc (.cells #[.int .i64 0, .int .i64 0] 28)) B a.A a.n a.c a.xs := LRd.alloc (LRd.below (by (repeat (first | with_reducible exact H5 | with_reducible refine LRd.alloc ?_ (by first | (simp <;> omega) | omega) _ | with_reducible refine LRd.drewN ?_ _ | with_reducible refine LRd.drew ?_))) hb5 (by simp; omega)) (by omega) _
  have HB : LRd (w5.alloc (.cells #[.int .i64 0, .int .i64 0] 28)) B b.A b.n b.c b.xs := LRd.alloc (LRd.below (by (repeat (first | with_reducible exact K5 | with_reducible refine LRd.alloc ?_ (by first | (simp <;> omega) | omega) _ | with_reducible refine LRd.drewN ?_ _ | with_reducible refine LRd.drew ?_))) hb5 (by simp; omega)) (by omega) _
  have a1 := FA.pa.c1
  have b1 := FA.pb.c1
  clear F5 H5 K5 HI E5 s5
  go_wp2_with fail
  refine (divmod_ok _ B a.A b.A a.n b.n a.c b.c a.xs b.xs HA HB (by simp; omega) va vb').mono ?_
  intro e w6 hg
  obtain ⟨A2, k2, c2, z2, A3, k3, c3, z3, rfl, hl2, hr2, hl3, hr3, hb6⟩ := (hg.resolve_left (fun hh => by have := hb.len.out; have := hh.1; omega)).2
  clear hg
  rw [← Hp.out, ← Hq.out] at hr2 hr3
  have HR2 := Lib.hid hr2
  have HR3 := Lib.hid hr3
  have z6 : w5.heap.size < w6.heap.size := next_lt hb6
  have FB := (FA.below hb6 (by simp; omega)).alloc (.cells #[.int .i64 0, .int .i64 0] 28)
  have EB : Below w.heap.size w (w6.alloc (.cells #[.int .i64 0, .int .i64 0] 28)) := by (repeat (first | with_reducible exact Below.refl _ _ | with_reducible exact EA | with_reducible refine Below.drew ?_ | with_reducible refine below_drewN ?_ _ | with_reducible refine Below.setCell ?_ (by first | (simp <;> omega) | omega) _ | with_reducible refine Below.trans ?_ (Below.mono hb6 (by first | (simp <;> omega) | omega)) | with_reducible refine Below.alloc ?_ (by first | (simp <;> omega) | omega) _))
  have hl2 := LRd.more (hl2.alloc (Nat.le_refl _) (.cells #[.int .i64 0, .int .i64 0] 28)) (B' := w6.heap.size + 1) (by omega)
  have hl3 := LRd.more (hl3.alloc (Nat.le_refl _) (.cells #[.int .i64 0, .int .i64 0] 28)) (B' := w6.heap.size + 1) (by omega)
  have hB2 : LRd (w6.alloc (.cells #[.int .i64 0, .int .i64 0] 28)) B b.A b.n b.c b.xs := LRd.alloc (LRd.below HB hb6 (by simp; omega)) (by omega) _
  have hcap3 := hl3.cap
  clear a1 b1 hr2 hr3 hb6 hb5 FA EA HA HB
  have a0 := FB.pa.c0
  have b0 := FB.pb.c0
  have hx : (a.neg != b.neg) = false := by rw [hs.out]; simp
  have HS0 := hs
  clear hs
  go_wp2_with fail
  obtain ⟨W, hW⟩ : ∃ W : World, W = w6.alloc (.cells #[.int .i64 0, .int .i64 0] 28) := ⟨_, rfl⟩
  have EW : Below w.heap.size w W := by rw [hW]; exact EB
  have FW : Fr5 W w.heap.size a b := by rw [hW]; exact FB
  have HQ : LRd W W.heap.size A2 k2 c2 z2 := by rw [hW]; exact (by simpa using hl2)
  have HS : LRd W W.heap.size A3 k3 c3 z3 := by rw [hW]; exact (by simpa using hl3)
  rw [← hW]
  clear hW
  have G0 : Below W.heap.size W W.drew := Below.drew (Below.refl _ _)
  have TQ := fun (u : World) (hu : Below W.heap.size W u) => signed_any u false A2 k2 c2 (p / q) z2 ((HQ.below hu (Nat.le_refl _)).more hu.size) HR2.out
  have TS := fun (u : World) (hu : Below W.heap.size W u) => signed_any u b.neg A3 k3 c3 (p % q) z3 ((HS.below hu (Nat.le_refl _)).more hu.size) HR3.out
  have FD := FW.below G0 (by have := FW.rf.lt; omega)
  have b0 := FD.pb.c0
  have FH := Lib.hid FW
  clear FB EB FD a0 hl2 hl3 hB2
  go_region_with (first
    | (go_at_call 107; go_loud ((with_reducible refine (TQ _ (by first | with_reducible exact G0 | with_reducible exact GS)).mono ?_); rintro e wq ⟨nq, Aq, kq, cq, zq, rfl, hlq, hrq, hbq⟩; have GQ : Below W.heap.size W wq := (by first | exact Below.trans GS (Below.mono hbq GS.size) | exact Below.trans G0 (Below.mono hbq G0.size)); obtain ⟨_, ⟨y0, _, _, _, _⟩, ⟨r0', r1', rz0', rz1', _⟩, ⟨q0', q1', qz0', qz1', _⟩, ⟨f0', f1', fz0', fz1', _⟩⟩ := FH.out.below GQ (by have := FH.out.rf.lt; omega); have HRQ' := Lib.hid hrq; clear hrq))
    | (go_at_call 107; go_loud ((with_reducible refine (TS _ (by first | with_reducible exact G0 | with_reducible exact GQ)).mono ?_); rintro e ws ⟨ns, As, ks, cs, zs, rfl, hls, hrs, hbs⟩; have GS : Below W.heap.size W ws := (by first | exact Below.trans GQ (Below.mono hbs GQ.size) | exact Below.trans G0 (Below.mono hbs G0.size)); obtain ⟨_, ⟨y0, _, _, _, _⟩, ⟨r0', r1', rz0', rz1', _⟩, ⟨q0', q1', qz0', qz1', _⟩, ⟨f0', f1', fz0', fz1', _⟩⟩ := FH.out.below GS (by have := FH.out.rf.lt; omega); have HRS' := Lib.hid hrs; clear hrs)))
  all_goals (go_wp2_with fail)
  all_goals first
  | have hq1 := (hlq.below hbs (Nat.le_refl _)).more hbs.size
    have F9 := FH.out.below GS (by have := FH.out.rf.lt; omega)
    have hQ := (((hq1.setB F9.r1 (by simp) (by simp) (.bool nq) (.slice Aq kq cq)).setB (F9.r2.far2 (by omega) _ _) (by simp) (by simp) (.bool ns) (.slice As ks cs)).setB ((F9.rf.far2 (by omega) _ _).far2 (by omega) _ _) (by simp) (by simp) (.int .i64 0) (.int .i64 0))
    have hS := (((hls.setB F9.r1 (by simp) (by simp) (.bool nq) (.slice Aq kq cq)).setB (F9.r2.far2 (by omega) _ _) (by simp) (by simp) (.bool ns) (.slice As ks cs)).setB ((F9.rf.far2 (by omega) _ _).far2 (by omega) _ _) (by simp) (by simp) (.int .i64 0) (.int .i64 0))
    have E9 : Below w.heap.size w ws := EW.trans (GS.mono EW.size)
    refine bodyPost_ret (v := .tuple #[intv nq Aq kq cq, intv ns As ks cs, flt 0 0]) (by simp [results, Tryz.results74, go_sem, F9.r1.c0, F9.r1.c1, F9.r2.c0, F9.r2.c1, F9.rf.c0, F9.rf.c1]) rfl ⟨_, _, (by rw [HVA.out, HVB.out, HS0.out]; exact floor_same hq0.out), nq, Aq, kq, cq, zq, ns, As, ks, cs, zs, rfl, LRd.more hQ (by simp), HRQ'.out, LRd.more hS (by simp), HRS'.out, ?_⟩
    (repeat (first | with_reducible exact Below.refl _ _ | with_reducible exact E9 | with_reducible refine Below.drew ?_ | with_reducible refine below_drewN ?_ _ | with_reducible refine Below.setCell ?_ (by first | (simp <;> omega) | omega) _ | with_reducible refine Below.alloc ?_ (by first | (simp <;> omega) | omega) _))
  | have hs1 := (hls.below hbq (Nat.le_refl _)).more hbq.size
    have F9 := FH.out.below GQ (by have := FH.out.rf.lt; omega)
    have hQ := (((hlq.setB F9.r1 (by simp) (by simp) (.bool nq) (.slice Aq kq cq)).setB (F9.r2.far2 (by omega) _ _) (by simp) (by simp) (.bool ns) (.slice As ks cs)).setB ((F9.rf.far2 (by omega) _ _).far2 (by omega) _ _) (by simp) (by simp) (.int .i64 0) (.int .i64 0))
    have hS := (((hs1.setB F9.r1 (by simp) (by simp) (.bool nq) (.slice Aq kq cq)).setB (F9.r2.far2 (by omega) _ _) (by simp) (by simp) (.bool ns) (.slice As ks cs)).setB ((F9.rf.far2 (by omega) _ _).far2 (by omega) _ _) (by simp) (by simp) (.int .i64 0) (.int .i64 0))
    have E9 : Below w.heap.size w wq := EW.trans (GQ.mono EW.size)
    refine bodyPost_ret (v := .tuple #[intv nq Aq kq cq, intv ns As ks cs, flt 0 0]) (by simp [results, Tryz.results74, go_sem, F9.r1.c0, F9.r1.c1, F9.r2.c0, F9.r2.c1, F9.rf.c0, F9.rf.c1]) rfl ⟨_, _, (by rw [HVA.out, HVB.out, HS0.out]; exact floor_same hq0.out), nq, Aq, kq, cq, zq, ns, As, ks, cs, zs, rfl, LRd.more hQ (by simp), HRQ'.out, LRd.more hS (by simp), HRS'.out, ?_⟩
    (repeat (first | with_reducible exact Below.refl _ _ | with_reducible exact E9 | with_reducible refine Below.drew ?_ | with_reducible refine below_drewN ?_ _ | with_reducible refine Below.setCell ?_ (by first | (simp <;> omega) | omega) _ | with_reducible refine Below.alloc ?_ (by first | (simp <;> omega) | omega) _))
theorem rep_v128 {zs : List Nat} {v : Nat} (h : Rep 4294967296 zs v) (hv : v < Top128) : vld zs = true := by
  obtain ⟨m, hm⟩ : ∃ m, m = 128 := ⟨_, rfl⟩
  rw [top128 hm] at hv
  exact rep_vld h.top (by have := h.length_le (by decide) hv; omega)
set_option maxHeartbeats 4000000 in
theorem idivmod_zer (w : World) (B : Nat) (a b : IV) (ha : a.at w B) (hb : b.at w B) (hB : B ≤ w.heap.size) (oa : a.ok = true) (ob : b.ok = true) (h0 : 0 < b.n) (hs : Hid (a.neg ≠ b.neg)) (hr : Hid (vb 4294967296 a.xs % vb 4294967296 b.xs = 0)) :
    Calls Tryz.prog 74 #[a.v, b.v] w (DmPostV a.val b.val w) := by
  have F5 := Fr5.new w a b
  have H5 := LRd.below ha (dm5_below w a b) hB
  have K5 := LRd.below hb (dm5_below w a b) hB
  have s5 : (dm5 w a b).heap.size = w.heap.size + 5 := by simp
  have HI := Lib.hid (irow2 (dm5 w a b) B a b H5 K5 (by omega))
  have E5 := dm5_below w a b
  obtain ⟨va, la⟩ := IV.vld oa
  obtain ⟨vb', lb⟩ := IV.vld ob
  have hra : Rep 4294967296 a.xs (vb 4294967296 a.xs) := ⟨ha.lim, rfl, (vld_top va).1⟩
  have hrb : Rep 4294967296 b.xs (vb 4294967296 b.xs) := ⟨hb.lim, rfl, (vld_top vb').1⟩
  have HRB := Lib.hid hrb
  have HPA := Lib.hid (lt128 hra rfl la)
  have HPB := Lib.hid (lt128 hrb rfl lb)
  have hq0 := Lib.hid (rep_pos4' hrb hb.len.out h0)
  have hf0 : ((b.n : Int) == 0) = false := beq_eq_false_iff_ne.2 (by omega)
  obtain ⟨p, hp⟩ : ∃ p, p = vb 4294967296 a.xs := ⟨_, rfl⟩
  obtain ⟨q, hq⟩ : ∃ q, q = vb 4294967296 b.xs := ⟨_, rfl⟩
  have HVA := Lib.hid (show a.val = sval a.neg p by rw [hp]; rfl)
  have HVB := Lib.hid (show b.val = sval b.neg q by rw [hq]; rfl)
  rw [← hp] at HPA
  rw [← hq] at HRB hq0 HPB
  have Hp := Lib.hid hp
  have Hq := Lib.hid hq
  clear hra hrb hp hq
  go_enter Tryz.func74, Tryz.ntmps74
  go_wp2_with fail
  refine (check_any _ B (w.heap.size + 5) 2 [a, b] (by have := HI.out; rw [s5] at this; exact this) rfl (by simp; omega) (by omega)).mono ?_
  rintro e w5 ⟨rfl, hb5⟩
  rw [two_ok oa ob]
  have z5 : w.heap.size + 5 < w5.heap.size := by have := hb5.size; simp at this; omega
  have FA := ((F5.alloc (two a b)).below hb5 (by simp)).alloc (.cells #[.int .i64 0, .int .i64 0] 28)
  have EA : Below w.heap.size w (w5.alloc (.cells #[.int .i64 0, .int .i64 0] 28)) := by (repeat (first | with_reducible exact Below.refl _ _ | with_reducible exact E5 | with_reducible refine Below.drew ?_ | with_reducible refine below_drewN ?_ _ | with_reducible refine Below.setCell ?_ (by first | (simp <;> omega) | omega) _ | with_reducible refine Below.trans ?_ (Below.mono hb5 (by first | (simp <;> omega) | omega)) | with_reducible refine Below.alloc ?_ (by first | (simp <;> omega) | omega) _))
  have HA : LRd (w5.alloc (.cells #[.int .i64 0, .int .i64 0] 28)) B a.A a.n a.c a.xs := LRd.alloc (LRd.below (by (repeat (first | with_reducible exact H5 | with_reducible refine LRd.alloc ?_ (by first | (simp <;> omega) | omega) _ | with_reducible refine LRd.drewN ?_ _ | with_reducible refine LRd.drew ?_))) hb5 (by simp; omega)) (by omega) _
  have HB : LRd (w5.alloc (.cells #[.int .i64 0, .int .i64 0] 28)) B b.A b.n b.c b.xs := LRd.alloc (LRd.below (by (repeat (first | with_reducible exact K5 | with_reducible refine LRd.alloc ?_ (by first | (simp <;> omega) | omega) _ | with_reducible refine LRd.drewN ?_ _ | with_reducible refine LRd.drew ?_))) hb5 (by simp; omega)) (by omega) _
  have a1 := FA.pa.c1
  have b1 := FA.pb.c1
  clear F5 H5 K5 HI E5 s5
  go_wp2_with fail
  refine (divmod_ok _ B a.A b.A a.n b.n a.c b.c a.xs b.xs HA HB (by simp; omega) va vb').mono ?_
  intro e w6 hg
  obtain ⟨A2, k2, c2, z2, A3, k3, c3, z3, rfl, hl2, hr2, hl3, hr3, hb6⟩ := (hg.resolve_left (fun hh => by have := hb.len.out; have := hh.1; omega)).2
  clear hg
  rw [← Hp.out, ← Hq.out] at hr2 hr3
  have HR2 := Lib.hid hr2
  have HR3 := Lib.hid hr3
  have z6 : w5.heap.size < w6.heap.size := next_lt hb6
  have FB := (FA.below hb6 (by simp; omega)).alloc (.cells #[.int .i64 0, .int .i64 0] 28)
  have EB : Below w.heap.size w (w6.alloc (.cells #[.int .i64 0, .int .i64 0] 28)) := by (repeat (first | with_reducible exact Below.refl _ _ | with_reducible exact EA | with_reducible refine Below.drew ?_ | with_reducible refine below_drewN ?_ _ | with_reducible refine Below.setCell ?_ (by first | (simp <;> omega) | omega) _ | with_reducible refine Below.trans ?_ (Below.mono hb6 (by first | (simp <;> omega) | omega)) | with_reducible refine Below.alloc ?_ (by first | (simp <;> omega) | omega) _))
  have hl2 := LRd.more (hl2.alloc (Nat.le_refl _) (.cells #[.int .i64 0, .int .i64 0] 28)) (B' := w6.heap.size + 1) (by omega)
  have hl3 := LRd.more (hl3.alloc (Nat.le_refl _) (.cells #[.int .i64 0, .int .i64 0] 28)) (B' := w6.heap.size + 1) (by omega)
  have hB2 : LRd (w6.alloc (.cells #[.int .i64 0, .int .i64 0] 28)) B b.A b.n b.c b.xs := LRd.alloc (LRd.below HB hb6 (by simp; omega)) (by omega) _
  have hcap3 := hl3.cap
  clear a1 b1 hr2 hr3 hb6 hb5 FA EA HA HB
  have a0 := FB.pa.c0
  have b0 := FB.pb.c0
  have hx : (a.neg == b.neg) = false := beq_eq_false_iff_ne.2 hs.out
  have HS0 := hs
  have HR0 := Lib.hid (show p % q = 0 by rw [Hp.out, Hq.out]; exact hr.out)
  obtain rfl : k3 = 0 := nil_len (by have := HR3.out; rwa [HR0.out] at this) hl3.len.out
  clear hs hr
  go_wp2_with fail
  obtain ⟨W, hW⟩ : ∃ W : World, W = w6.alloc (.cells #[.int .i64 0, .int .i64 0] 28) := ⟨_, rfl⟩
  have EW : Below w.heap.size w W := by rw [hW]; exact EB
  have FW : Fr5 W w.heap.size a b := by rw [hW]; exact FB
  have HQ : LRd W W.heap.size A2 k2 c2 z2 := by rw [hW]; exact (by simpa using hl2)
  have HS : LRd W W.heap.size A3 0 c3 z3 := by rw [hW]; exact (by simpa using hl3)
  rw [← hW]
  clear hW
  have G0 : Below W.heap.size W W.drew := Below.drew (Below.refl _ _)
  have TQ := fun (u : World) (hu : Below W.heap.size W u) => signed_any u true A2 k2 c2 (p / q) z2 ((HQ.below hu (Nat.le_refl _)).more hu.size) HR2.out
  have TS := fun (u : World) (hu : Below W.heap.size W u) => signed_any u b.neg A3 0 c3 (p % q) z3 ((HS.below hu (Nat.le_refl _)).more hu.size) HR3.out
  have FD := FW.below G0 (by have := FW.rf.lt; omega)
  have b0 := FD.pb.c0
  have FH := Lib.hid FW
  clear FB EB FD a0 hl2 hl3 hB2
  go_region_with (first
    | (go_at_call 107; go_loud ((with_reducible refine (TQ _ (by first | with_reducible exact G0 | with_reducible exact GS)).mono ?_); rintro e wq ⟨nq, Aq, kq, cq, zq, rfl, hlq, hrq, hbq⟩; have GQ : Below W.heap.size W wq := (by first | exact Below.trans GS (Below.mono hbq GS.size) | exact Below.trans G0 (Below.mono hbq G0.size)); obtain ⟨_, ⟨y0, _, _, _, _⟩, ⟨r0', r1', rz0', rz1', _⟩, ⟨q0', q1', qz0', qz1', _⟩, ⟨f0', f1', fz0', fz1', _⟩⟩ := FH.out.below GQ (by have := FH.out.rf.lt; omega); have HRQ' := Lib.hid hrq; clear hrq))
    | (go_at_call 107; go_loud ((with_reducible refine (TS _ (by first | with_reducible exact G0 | with_reducible exact GQ)).mono ?_); rintro e ws ⟨ns, As, ks, cs, zs, rfl, hls, hrs, hbs⟩; have GS : Below W.heap.size W ws := (by first | exact Below.trans GQ (Below.mono hbs GQ.size) | exact Below.trans G0 (Below.mono hbs G0.size)); obtain ⟨_, ⟨y0, _, _, _, _⟩, ⟨r0', r1', rz0', rz1', _⟩, ⟨q0', q1', qz0', qz1', _⟩, ⟨f0', f1', fz0', fz1', _⟩⟩ := FH.out.below GS (by have := FH.out.rf.lt; omega); have HRS' := Lib.hid hrs; clear hrs)))
  all_goals (go_wp2_with fail)
  all_goals first
  | have hq1 := (hlq.below hbs (Nat.le_refl _)).more hbs.size
    have F9 := FH.out.below GS (by have := FH.out.rf.lt; omega)
    have hQ := (((hq1.setB F9.r1 (by simp) (by simp) (.bool nq) (.slice Aq kq cq)).setB (F9.r2.far2 (by omega) _ _) (by simp) (by simp) (.bool ns) (.slice As ks cs)).setB ((F9.rf.far2 (by omega) _ _).far2 (by omega) _ _) (by simp) (by simp) (.int .i64 0) (.int .i64 0))
    have hS := (((hls.setB F9.r1 (by simp) (by simp) (.bool nq) (.slice Aq kq cq)).setB (F9.r2.far2 (by omega) _ _) (by simp) (by simp) (.bool ns) (.slice As ks cs)).setB ((F9.rf.far2 (by omega) _ _).far2 (by omega) _ _) (by simp) (by simp) (.int .i64 0) (.int .i64 0))
    have E9 : Below w.heap.size w ws := EW.trans (GS.mono EW.size)
    refine bodyPost_ret (v := .tuple #[intv nq Aq kq cq, intv ns As ks cs, flt 0 0]) (by simp [results, Tryz.results74, go_sem, F9.r1.c0, F9.r1.c1, F9.r2.c0, F9.r2.c1, F9.rf.c0, F9.rf.c1]) rfl ⟨_, _, (by rw [HVA.out, HVB.out, HR0.out]; exact floor_zero hq0.out HR0.out HS0.out), nq, Aq, kq, cq, zq, ns, As, ks, cs, zs, rfl, LRd.more hQ (by simp), HRQ'.out, LRd.more hS (by simp), HRS'.out, ?_⟩
    (repeat (first | with_reducible exact Below.refl _ _ | with_reducible exact E9 | with_reducible refine Below.drew ?_ | with_reducible refine below_drewN ?_ _ | with_reducible refine Below.setCell ?_ (by first | (simp <;> omega) | omega) _ | with_reducible refine Below.alloc ?_ (by first | (simp <;> omega) | omega) _))
  | have hs1 := (hls.below hbq (Nat.le_refl _)).more hbq.size
    have F9 := FH.out.below GQ (by have := FH.out.rf.lt; omega)
    have hQ := (((hlq.setB F9.r1 (by simp) (by simp) (.bool nq) (.slice Aq kq cq)).setB (F9.r2.far2 (by omega) _ _) (by simp) (by simp) (.bool ns) (.slice As ks cs)).setB ((F9.rf.far2 (by omega) _ _).far2 (by omega) _ _) (by simp) (by simp) (.int .i64 0) (.int .i64 0))
    have hS := (((hs1.setB F9.r1 (by simp) (by simp) (.bool nq) (.slice Aq kq cq)).setB (F9.r2.far2 (by omega) _ _) (by simp) (by simp) (.bool ns) (.slice As ks cs)).setB ((F9.rf.far2 (by omega) _ _).far2 (by omega) _ _) (by simp) (by simp) (.int .i64 0) (.int .i64 0))
    have E9 : Below w.heap.size w wq := EW.trans (GQ.mono EW.size)
    refine bodyPost_ret (v := .tuple #[intv nq Aq kq cq, intv ns As ks cs, flt 0 0]) (by simp [results, Tryz.results74, go_sem, F9.r1.c0, F9.r1.c1, F9.r2.c0, F9.r2.c1, F9.rf.c0, F9.rf.c1]) rfl ⟨_, _, (by rw [HVA.out, HVB.out, HR0.out]; exact floor_zero hq0.out HR0.out HS0.out), nq, Aq, kq, cq, zq, ns, As, ks, cs, zs, rfl, LRd.more hQ (by simp), HRQ'.out, LRd.more hS (by simp), HRS'.out, ?_⟩
    (repeat (first | with_reducible exact Below.refl _ _ | with_reducible exact E9 | with_reducible refine Below.drew ?_ | with_reducible refine below_drewN ?_ _ | with_reducible refine Below.setCell ?_ (by first | (simp <;> omega) | omega) _ | with_reducible refine Below.alloc ?_ (by first | (simp <;> omega) | omega) _))
set_option maxHeartbeats 4000000 in
theorem idivmod_up (w : World) (B : Nat) (a b : IV) (ha : a.at w B) (hb : b.at w B) (hB : B ≤ w.heap.size) (oa : a.ok = true) (ob : b.ok = true) (h0 : 0 < b.n) (hs : Hid (a.neg ≠ b.neg)) (hr : Hid (vb 4294967296 a.xs % vb 4294967296 b.xs > 0)) :
    Calls Tryz.prog 74 #[a.v, b.v] w (DmPostV a.val b.val w) := by
  have F5 := Fr5.new w a b
  have H5 := LRd.below ha (dm5_below w a b) hB
  have K5 := LRd.below hb (dm5_below w a b) hB
  have s5 : (dm5 w a b).heap.size = w.heap.size + 5 := by simp
  have HI := Lib.hid (irow2 (dm5 w a b) B a b H5 K5 (by omega))
  have E5 := dm5_below w a b
  obtain ⟨va, la⟩ := IV.vld oa
  obtain ⟨vb', lb⟩ := IV.vld ob
  have hra : Rep 4294967296 a.xs (vb 4294967296 a.xs) := ⟨ha.lim, rfl, (vld_top va).1⟩
  have hrb : Rep 4294967296 b.xs (vb 4294967296 b.xs) := ⟨hb.lim, rfl, (vld_top vb').1⟩
  have HRB := Lib.hid hrb
  have HPA := Lib.hid (lt128 hra rfl la)
  have HPB := Lib.hid (lt128 hrb rfl lb)
  have hq0 := Lib.hid (rep_pos4' hrb hb.len.out h0)
  have hf0 : ((b.n : Int) == 0) = false := beq_eq_false_iff_ne.2 (by omega)
  obtain ⟨p, hp⟩ : ∃ p, p = vb 4294967296 a.xs := ⟨_, rfl⟩
  obtain ⟨q, hq⟩ : ∃ q, q = vb 4294967296 b.xs := ⟨_, rfl⟩
  have HVA := Lib.hid (show a.val = sval a.neg p by rw [hp]; rfl)
  have HVB := Lib.hid (show b.val = sval b.neg q by rw [hq]; rfl)
  rw [← hp] at HPA
  rw [← hq] at HRB hq0 HPB
  have Hp := Lib.hid hp
  have Hq := Lib.hid hq
  clear hra hrb hp hq
  go_enter Tryz.func74, Tryz.ntmps74
  go_wp2_with fail
  refine (check_any _ B (w.heap.size + 5) 2 [a, b] (by have := HI.out; rw [s5] at this; exact this) rfl (by simp; omega) (by omega)).mono ?_
  rintro e w5 ⟨rfl, hb5⟩
  rw [two_ok oa ob]
  have z5 : w.heap.size + 5 < w5.heap.size := by have := hb5.size; simp at this; omega
  have FA := ((F5.alloc (two a b)).below hb5 (by simp)).alloc (.cells #[.int .i64 0, .int .i64 0] 28)
  have EA : Below w.heap.size w (w5.alloc (.cells #[.int .i64 0, .int .i64 0] 28)) := by (repeat (first | with_reducible exact Below.refl _ _ | with_reducible exact E5 | with_reducible refine Below.drew ?_ | with_reducible refine below_drewN ?_ _ | with_reducible refine Below.setCell ?_ (by first | (simp <;> omega) | omega) _ | with_reducible refine Below.trans ?_ (Below.mono hb5 (by first | (simp <;> omega) | omega)) | with_reducible refine Below.alloc ?_ (by first | (simp <;> omega) | omega) _))
  have HA : LRd (w5.alloc (.cells #[.int .i64 0, .int .i64 0] 28)) B a.A a.n a.c a.xs := LRd.alloc (LRd.below (by (repeat (first | with_reducible exact H5 | with_reducible refine LRd.alloc ?_ (by first | (simp <;> omega) | omega) _ | with_reducible refine LRd.drewN ?_ _ | with_reducible refine LRd.drew ?_))) hb5 (by simp; omega)) (by omega) _
  have HB : LRd (w5.alloc (.cells #[.int .i64 0, .int .i64 0] 28)) B b.A b.n b.c b.xs := LRd.alloc (LRd.below (by (repeat (first | with_reducible exact K5 | with_reducible refine LRd.alloc ?_ (by first | (simp <;> omega) | omega) _ | with_reducible refine LRd.drewN ?_ _ | with_reducible refine LRd.drew ?_))) hb5 (by simp; omega)) (by omega) _
  have a1 := FA.pa.c1
  have b1 := FA.pb.c1
  clear F5 H5 K5 HI E5 s5
  go_wp2_with fail
  refine (divmod_ok _ B a.A b.A a.n b.n a.c b.c a.xs b.xs HA HB (by simp; omega) va vb').mono ?_
  intro e w6 hg
  obtain ⟨A2, k2, c2, z2, A3, k3, c3, z3, rfl, hl2, hr2, hl3, hr3, hb6⟩ := (hg.resolve_left (fun hh => by have := hb.len.out; have := hh.1; omega)).2
  clear hg
  rw [← Hp.out, ← Hq.out] at hr2 hr3
  have HR2 := Lib.hid hr2
  have HR3 := Lib.hid hr3
  have z6 : w5.heap.size < w6.heap.size := next_lt hb6
  have FB := (FA.below hb6 (by simp; omega)).alloc (.cells #[.int .i64 0, .int .i64 0] 28)
  have EB : Below w.heap.size w (w6.alloc (.cells #[.int .i64 0, .int .i64 0] 28)) := by (repeat (first | with_reducible exact Below.refl _ _ | with_reducible exact EA | with_reducible refine Below.drew ?_ | with_reducible refine below_drewN ?_ _ | with_reducible refine Below.setCell ?_ (by first | (simp <;> omega) | omega) _ | with_reducible refine Below.trans ?_ (Below.mono hb6 (by first | (simp <;> omega) | omega)) | with_reducible refine Below.alloc ?_ (by first | (simp <;> omega) | omega) _))
  have hl2 := LRd.more (hl2.alloc (Nat.le_refl _) (.cells #[.int .i64 0, .int .i64 0] 28)) (B' := w6.heap.size + 1) (by omega)
  have hl3 := LRd.more (hl3.alloc (Nat.le_refl _) (.cells #[.int .i64 0, .int .i64 0] 28)) (B' := w6.heap.size + 1) (by omega)
  have hB2 : LRd (w6.alloc (.cells #[.int .i64 0, .int .i64 0] 28)) B b.A b.n b.c b.xs := LRd.alloc (LRd.below HB hb6 (by simp; omega)) (by omega) _
  have hcap3 := hl3.cap
  clear a1 b1 hr2 hr3 hb6 hb5 FA EA HA HB
  have a0 := FB.pa.c0
  have b0 := FB.pb.c0
  have hx : (a.neg == b.neg) = false := beq_eq_false_iff_ne.2 hs.out
  have HS0 := hs
  have HR0 := Lib.hid (show 0 < p % q by rw [Hp.out, Hq.out]; exact hr.out)
  have hk3 : 0 < (k3 : Int) := by
    rcases Nat.eq_zero_or_pos k3 with e | e
    · exfalso
      have h1 := HR3.out.val
      rw [List.eq_nil_of_length_eq_zero (hl3.len.out.trans e), vb_nil] at h1
      have := HR0.out; omega
    · omega
  have hpq := Lib.hid (small_q HPA.out hq0.out)
  have V2 := Lib.hid (rep_v128 HR2.out (Nat.lt_of_le_of_lt (Nat.div_le_self p q) HPA.out))
  have V3 := Lib.hid (rep_v128 HR3.out (Nat.lt_trans (Nat.mod_lt p hq0.out) HPB.out))
  clear hs hr
  go_wp2_with fail
  refine (one_any _).mono ?_
  rintro e w7 ⟨A7, k7, c7, z7, rfl, hl7, hr7, hb7⟩
  have z7' : w6.heap.size < w7.heap.size := next_lt hb7
  have HR7 := Lib.hid hr7
  have V7 := Lib.hid (rep_vld hr7.top (by have := hr7.length_le (m := 1) (by decide) (by decide); omega))
  have FC7 := FB.below hb7 (by simp; omega)
  have EB7 : Below w.heap.size w w7 := by (repeat (first | with_reducible exact Below.refl _ _ | with_reducible exact EB | with_reducible refine Below.drew ?_ | with_reducible refine below_drewN ?_ _ | with_reducible refine Below.setCell ?_ (by first | (simp <;> omega) | omega) _ | with_reducible refine Below.trans ?_ (Below.mono hb7 (by first | (simp <;> omega) | omega)) | with_reducible refine Below.alloc ?_ (by first | (simp <;> omega) | omega) _))
  have hl2 := (hl2.below hb7 (by simp)).more (B' := w7.heap.size) (by omega)
  have hl3 := (hl3.below hb7 (by simp)).more (B' := w7.heap.size) (by omega)
  have hB2 := hB2.below hb7 (by simp; omega)
  clear FB EB hb7 hr7 a0 b0
  go_wp2_with fail
  refine (add_ok _ w7.heap.size A2 A7 k2 k7 c2 c7 z2 z7 hl2 hl7 (Nat.le_refl _) V2.out V7.out).mono ?_
  intro e w8 hg
  rw [HR2.out.val, HR7.out.val] at hg
  obtain ⟨A8, k8, c8, z8, rfl, hl8, hr8, hb8⟩ := (hg.resolve_right (fun hh => absurd hh.1 (by have := hpq.out; omega))).2
  have z8' := hb8.size
  have HR8 := Lib.hid hr8
  have FC8 := FC7.below hb8 (by omega)
  have EB8 : Below w.heap.size w w8 := EB7.trans (hb8.mono EB7.size)
  have hl3 := (hl3.below hb8 (Nat.le_refl _)).more hb8.size
  have hB2 := hB2.below hb8 (by omega)
  have b1 := FC8.pb.c1
  clear hg hl2 hl7 HR2 HR7 V2 V7 FC7 EB7 hr8 hb8 hpq
  go_wp2_with fail
  refine (sub_ok _ w8.heap.size b.A A3 b.n k3 b.c c3 b.xs z3 (hB2.more (by omega)) hl3 (Nat.le_refl _) vb' V3.out).mono ?_
  intro e w9 hg
  rw [HR3.out.val, ← Hq.out] at hg
  obtain ⟨A9, k9, c9, z9, rfl, hl9, hr9, hb9⟩ := (hg.resolve_right (fun hh => absurd hh.1 (by have := Nat.mod_lt p hq0.out; omega))).2
  have z9' := hb9.size
  have HR9 := Lib.hid hr9
  have FB := FC8.below hb9 (by omega)
  have EB : Below w.heap.size w w9 := EB8.trans (hb9.mono EB8.size)
  have hl8 := (hl8.below hb9 (Nat.le_refl _)).more hb9.size
  clear hg hl3 HR3 V3 FC8 EB8 hr9 hb9 hB2 b1
  have a0 := FB.pa.c0
  have b0 := FB.pb.c0
  go_wp2_with fail
  obtain ⟨W, hW⟩ : ∃ W : World, W = w9 := ⟨_, rfl⟩
  have EW : Below w.heap.size w W := by rw [hW]; exact EB
  have FW : Fr5 W w.heap.size a b := by rw [hW]; exact FB
  have HQ : LRd W W.heap.size A8 k8 c8 z8 := by rw [hW]; exact hl8
  have HS : LRd W W.heap.size A9 k9 c9 z9 := by rw [hW]; exact hl9
  rw [← hW]
  clear hW
  have G0 : Below W.heap.size W W.drew := Below.drew (Below.refl _ _)
  have TQ := fun (u : World) (hu : Below W.heap.size W u) => signed_any u true A8 k8 c8 (p / q + 1) z8 ((HQ.below hu (Nat.le_refl _)).more hu.size) HR8.out
  have TS := fun (u : World) (hu : Below W.heap.size W u) => signed_any u b.neg A9 k9 c9 (q - p % q) z9 ((HS.below hu (Nat.le_refl _)).more hu.size) HR9.out
  have FD := FW.below G0 (by have := FW.rf.lt; omega)
  have b0 := FD.pb.c0
  have FH := Lib.hid FW
  clear FB EB FD a0 hl8 hl9
  go_region_with (first
    | (go_at_call 107; go_loud ((with_reducible refine (TQ _ (by first | with_reducible exact G0 | with_reducible exact GS)).mono ?_); rintro e wq ⟨nq, Aq, kq, cq, zq, rfl, hlq, hrq, hbq⟩; have GQ : Below W.heap.size W wq := (by first | exact Below.trans GS (Below.mono hbq GS.size) | exact Below.trans G0 (Below.mono hbq G0.size)); obtain ⟨_, ⟨y0, _, _, _, _⟩, ⟨r0', r1', rz0', rz1', _⟩, ⟨q0', q1', qz0', qz1', _⟩, ⟨f0', f1', fz0', fz1', _⟩⟩ := FH.out.below GQ (by have := FH.out.rf.lt; omega); have HRQ' := Lib.hid hrq; clear hrq))
    | (go_at_call 107; go_loud ((with_reducible refine (TS _ (by first | with_reducible exact G0 | with_reducible exact GQ)).mono ?_); rintro e ws ⟨ns, As, ks, cs, zs, rfl, hls, hrs, hbs⟩; have GS : Below W.heap.size W ws := (by first | exact Below.trans GQ (Below.mono hbs GQ.size) | exact Below.trans G0 (Below.mono hbs G0.size)); obtain ⟨_, ⟨y0, _, _, _, _⟩, ⟨r0', r1', rz0', rz1', _⟩, ⟨q0', q1', qz0', qz1', _⟩, ⟨f0', f1', fz0', fz1', _⟩⟩ := FH.out.below GS (by have := FH.out.rf.lt; omega); have HRS' := Lib.hid hrs; clear hrs)))
  all_goals (go_wp2_with fail)
  all_goals first
  | have hq1 := (hlq.below hbs (Nat.le_refl _)).more hbs.size
    have F9 := FH.out.below GS (by have := FH.out.rf.lt; omega)
    have hQ := (((hq1.setB F9.r1 (by simp) (by simp) (.bool nq) (.slice Aq kq cq)).setB (F9.r2.far2 (by omega) _ _) (by simp) (by simp) (.bool ns) (.slice As ks cs)).setB ((F9.rf.far2 (by omega) _ _).far2 (by omega) _ _) (by simp) (by simp) (.int .i64 0) (.int .i64 0))
    have hS := (((hls.setB F9.r1 (by simp) (by simp) (.bool nq) (.slice Aq kq cq)).setB (F9.r2.far2 (by omega) _ _) (by simp) (by simp) (.bool ns) (.slice As ks cs)).setB ((F9.rf.far2 (by omega) _ _).far2 (by omega) _ _) (by simp) (by simp) (.int .i64 0) (.int .i64 0))
    have E9 : Below w.heap.size w ws := EW.trans (GS.mono EW.size)
    refine bodyPost_ret (v := .tuple #[intv nq Aq kq cq, intv ns As ks cs, flt 0 0]) (by simp [results, Tryz.results74, go_sem, F9.r1.c0, F9.r1.c1, F9.r2.c0, F9.r2.c1, F9.rf.c0, F9.rf.c1]) rfl ⟨_, _, (by rw [HVA.out, HVB.out]; exact floor_up hq0.out HR0.out HS0.out), nq, Aq, kq, cq, zq, ns, As, ks, cs, zs, rfl, LRd.more hQ (by simp), HRQ'.out, LRd.more hS (by simp), HRS'.out, ?_⟩
    (repeat (first | with_reducible exact Below.refl _ _ | with_reducible exact E9 | with_reducible refine Below.drew ?_ | with_reducible refine below_drewN ?_ _ | with_reducible refine Below.setCell ?_ (by first | (simp <;> omega) | omega) _ | with_reducible refine Below.alloc ?_ (by first | (simp <;> omega) | omega) _))
  | have hs1 := (hls.below hbq (Nat.le_refl _)).more hbq.size
    have F9 := FH.out.below GQ (by have := FH.out.rf.lt; omega)
    have hQ := (((hlq.setB F9.r1 (by simp) (by simp) (.bool nq) (.slice Aq kq cq)).setB (F9.r2.far2 (by omega) _ _) (by simp) (by simp) (.bool ns) (.slice As ks cs)).setB ((F9.rf.far2 (by omega) _ _).far2 (by omega) _ _) (by simp) (by simp) (.int .i64 0) (.int .i64 0))
    have hS := (((hs1.setB F9.r1 (by simp) (by simp) (.bool nq) (.slice Aq kq cq)).setB (F9.r2.far2 (by omega) _ _) (by simp) (by simp) (.bool ns) (.slice As ks cs)).setB ((F9.rf.far2 (by omega) _ _).far2 (by omega) _ _) (by simp) (by simp) (.int .i64 0) (.int .i64 0))
    have E9 : Below w.heap.size w wq := EW.trans (GQ.mono EW.size)
    refine bodyPost_ret (v := .tuple #[intv nq Aq kq cq, intv ns As ks cs, flt 0 0]) (by simp [results, Tryz.results74, go_sem, F9.r1.c0, F9.r1.c1, F9.r2.c0, F9.r2.c1, F9.rf.c0, F9.rf.c1]) rfl ⟨_, _, (by rw [HVA.out, HVB.out]; exact floor_up hq0.out HR0.out HS0.out), nq, Aq, kq, cq, zq, ns, As, ks, cs, zs, rfl, LRd.more hQ (by simp), HRQ'.out, LRd.more hS (by simp), HRS'.out, ?_⟩
    (repeat (first | with_reducible exact Below.refl _ _ | with_reducible exact E9 | with_reducible refine Below.drew ?_ | with_reducible refine below_drewN ?_ _ | with_reducible refine Below.setCell ?_ (by first | (simp <;> omega) | omega) _ | with_reducible refine Below.alloc ?_ (by first | (simp <;> omega) | omega) _))
theorem idivmod_ok (w : World) (B : Nat) (a b : IV) (ha : a.at w B) (hb : b.at w B) (hB : B ≤ w.heap.size) (oa : a.ok = true) (ob : b.ok = true) (h0 : 0 < b.n) :
    Calls Tryz.prog 74 #[a.v, b.v] w (DmPostV a.val b.val w) := by
  by_cases hs : a.neg = b.neg
  · exact idivmod_same w B a b ha hb hB oa ob h0 hs
  · rcases Nat.eq_zero_or_pos (vb 4294967296 a.xs % vb 4294967296 b.xs) with e | e
    · exact idivmod_zer w B a b ha hb hB oa ob h0 hs e
    · exact idivmod_up w B a b ha hb hB oa ob h0 hs e
end Go.Proofs.YtfgkhdpdjclmkaaGreat
