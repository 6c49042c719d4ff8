/- The reference's Nearest: the best of all ratios with a small denominator. -/
import Derived.Test.YtfgkhdpdjclmkaaGreatBRds1
import Derived.Test.YtfgkhdpdjclmkaaGreatBNrm
import Derived.Deep.DeepCutAuto
import Derived.Deep.CutBlock
import Derived.IntWalk
namespace Go.Proofs.YtfgkhdpdjclmkaaGreat
open Go.RowKit
set_option maxHeartbeats 400000
set_option maxRecDepth 100000
set_option linter.unusedSimpArgs false
set_option linter.unusedVariables false

theorem DRd.set3m {w : World} {B n c g : Nat} {A : Option Addr} {xs : List Nat} (h : DRd w B A n c xs) {b : Bool} {A1 A2 : Option Addr} {n1 c1 n2 c2 : Nat} (G : Bk3 w g (.bool b) (.slice A1 n1 c1) (.slice A2 n2 c2)) (a e f : Value) : DRd (((w.setCell ⟨g, 0, none⟩ a).setCell ⟨g, 1, none⟩ e).setCell ⟨g, 2, none⟩ f) B A n c xs := by
  have q0 := h.setK G.c0 (by intro k x; simp) a
  have q1 := q0.setK (p := ⟨g, 1, none⟩) (u := .slice A1 n1 c1) (by rw [World.cell?_setCell_other _ _ _ _ (by simp)]; exact G.c1) (by intro k x; simp) e
  exact q1.setK (p := ⟨g, 2, none⟩) (u := .slice A2 n2 c2) (by rw [World.cell?_setCell_other _ _ _ _ (by simp), World.cell?_setCell_other _ _ _ _ (by simp)]; exact G.c2) (by intro k x; simp) f
/-- An integer of the reference in a block of its own. -/
def IdR (V : World) (z : Int) (s : Value) (wx : World) : Prop :=
  ∃ (g : Nat) (m : Bool) (A : Option Addr) (k c : Nat) (xs : List Nat) (v : Nat), s = .pointer (some ⟨g, 0, none⟩) ∧ Bk2 wx g (.bool m) (.slice A k c) ∧ DRd wx wx.heap.size A k c xs ∧ Hid (Rep 65536 xs v) ∧ Hid (sval m v = z) ∧ V.heap.size ≤ g ∧ Below V.heap.size V wx
section
variable {V u : World} {m : Bool} {A : Option Addr} {k c v g : Nat} {xs : List Nat} {z : Int} (H : DRd u u.heap.size A k c xs) (R : Hid (Rep 65536 xs v)) (S : Hid (sval m v = z)) (b : Below V.heap.size V u)
include H R S b
theorem id_a : IdR V z (.pointer (some ⟨u.heap.size, 0, none⟩)) (u.alloc (.cells #[.bool m, .slice A k c] 40)) :=
  ⟨_, m, A, k, c, xs, v, rfl, Bk2.newAt _ _ rfl _ _ _, DRd.more (H.alloc (Nat.le_refl _) _) (by simp), R, S, b.size, b.alloc b.size _⟩
theorem id_o (G : Bk2 u g (.bool false) (.slice none 0 0)) (hg : V.heap.size ≤ g) : IdR V z (.pointer (some ⟨g, 0, none⟩)) ((u.setCell ⟨g, 0, none⟩ (.bool m)).setCell ⟨g, 1, none⟩ (.slice A k c)) :=
  ⟨_, m, A, k, c, xs, v, rfl, G.set _ _, DRd.more (H.setBD G (by simp) (by simp) _ _) (by simp [World.setCell]), R, S, hg, (b.setCell (p := ⟨g, 0, none⟩) hg _).setCell (p := ⟨g, 1, none⟩) hg _⟩
end
theorem nj2 {w w' : World} {u v : Value} {t : TypeId} (h : Below (w.alloc (.cells #[u, v] t)).heap.size (w.alloc (.cells #[u, v] t)) w') : Bk2 w' w.heap.size u v := (Bk2.newAt w w.heap.size rfl _ _ _).below h (by simp)
theorem nj2d {w w' : World} {u v : Value} {t : TypeId} (h : Below (w.drew.alloc (.cells #[u, v] t)).heap.size (w.drew.alloc (.cells #[u, v] t)) w') : Bk2 w' w.heap.size u v := (Bk2.newAt w.drew w.heap.size rfl _ _ _).below h (by simp)
@[irreducible] def TX : Nat := 65536 ^ 2000
theorem tx_eq {m : Nat} (h : m = 2000) : TX = 65536 ^ m := by subst h; unfold TX; rfl
theorem tx_tt : 2 * (TX * TX) ≤ TT := by
  obtain ⟨k, hk⟩ : ∃ k, k = 2000 := ⟨_, rfl⟩
  obtain ⟨m, hm⟩ : ∃ m, m = 40000 := ⟨_, rfl⟩
  rw [tx_eq hk, tt_eq hm, ← Nat.pow_add]
  have h2 : 2 * 65536 ^ (k + k) ≤ 65536 ^ (k + k + 1) := by rw [Nat.pow_succ]; omega
  exact Nat.le_trans h2 (Nat.pow_le_pow_right (by decide) (by omega))
theorem tx_top : 64 * (Top128 * Top128) ≤ TX := by
  obtain ⟨k, hk⟩ : ∃ k, k = 128 := ⟨_, rfl⟩
  obtain ⟨m, hm⟩ : ∃ m, m = 2000 := ⟨_, rfl⟩
  rw [top128 hk, tx_eq hm, ← Nat.pow_add]
  have h1 : (4294967296 : Nat) ^ (k + k) = 65536 ^ (2 * (k + k)) := by rw [Nat.pow_mul]
  rw [h1]
  have h2 : 64 * 65536 ^ (2 * (k + k)) ≤ 65536 ^ (2 * (k + k) + 1) := by rw [Nat.pow_succ]; omega
  exact Nat.le_trans h2 (Nat.pow_le_pow_right (by decide) (by omega))
theorem tx_lt {v : Nat} (h : v < TX) : v < TT := by
  have h1 := tx_tt
  have h3 : 0 < TX := by omega
  have h2 : 1 * TX ≤ TX * TX := Nat.mul_le_mul_right _ (by omega)
  omega
theorem top_big {v : Nat} (h : v < 64) : v < Top128 := Nat.lt_of_lt_of_le h (Nat.le_of_lt (lt_top (by decide)))
theorem top_tx {v : Nat} (h : v ≤ 64 * Top128) : v < TX := by
  have h1 := tx_top
  have h4 := lt_top (n := 64) (by decide)
  have h2 : 64 * Top128 ≤ Top128 * Top128 := Nat.mul_le_mul_right _ (by omega)
  have h3 : 0 < Top128 * Top128 := Nat.mul_pos (by omega) (by omega)
  omega
theorem nlow_bd {n0 yn y1 : Int} {b c y2 v : Nat} {m : Bool} (L : LowOf (n0 * (c : Int) - yn * (b : Int)) (b * c) y1 y2) (hv : sval m v = ((y1.natAbs : Nat) : Int)) (hb : b < TX) (hc : c < TX) (hn : n0.natAbs < TX) (hy : yn.natAbs < TX) : v < TT ∧ y2 < TT := by
  obtain ⟨_, _, _, h4, h5⟩ := L
  have h1 : (n0 * (c : Int)).natAbs < TX * TX := by rw [Int.natAbs_mul]; exact Nat.mul_lt_mul'' hn hc
  have h2 : (yn * (b : Int)).natAbs < TX * TX := by rw [Int.natAbs_mul]; exact Nat.mul_lt_mul'' hy hb
  have h3 : b * c < TX * TX := Nat.mul_lt_mul'' hb hc
  have h6 := tx_tt
  have h7 := sval_abs m v
  rw [hv] at h7
  omega
theorem nless_is {b c : Nat} {n0 yn y1 : Int} {y2 : Nat} {m n : Bool} {u v : Nat} (h : LowOf (sval m u * ((c : Nat) : Int) - sval n v * ((b : Nat) : Int)) (b * c) y1 y2) (h1 : sval m u = n0) (h2 : sval n v = yn) : LowOf (n0 * (c : Int) - yn * (b : Int)) (b * c) y1 y2 := by rw [h1, h2] at h; exact h
theorem nabs_is {m n : Bool} {u v : Nat} {z : Int} (h : sval m u = ((v : Nat) : Int)) (h2 : sval n v = z) : sval m u = ((z.natAbs : Nat) : Int) := by rw [h, ← h2, sval_abs]
theorem nsv_lt {m : Bool} {v : Nat} {z : Int} (h : sval m v = z) (hz : z.natAbs < TX) : v < TX := by rw [← sval_abs m v, h]; exact hz
/-- Of two distances: which one is smaller. -/
theorem ndec {n0 yn bn r ya ba : Int} {d yd bd yw bw yv bv : Nat} {my mb : Bool} (h : ICmp (sval my yv * ((bw : Nat) : Int)) (sval mb bv * ((yw : Nat) : Int)) r) (hy : sval my yv = ((ya.natAbs : Nat) : Int)) (hb : sval mb bv = ((ba.natAbs : Nat) : Int)) (LY : LowOf (n0 * (yd : Int) - yn * (d : Int)) (d * yd) ya yw) (LB : LowOf (n0 * (bd : Int) - bn * (d : Int)) (d * bd) ba bw) (hd : 1 ≤ d) (hyd : 1 ≤ yd) (hbd : 1 ≤ bd) : decide (r < 0) = decide (dist n0 (d : Int) yn (yd : Int) * (bd : Int) < dist n0 (d : Int) bn (bd : Int) * (yd : Int)) := by
  rw [hy, hb] at h
  have k1 := low_dist (n0 := n0) (d0 := (d : Int)) (p := yn) (q := (yd : Int)) (b := d * yd) (by rw [Int.natCast_mul]) LY.1
  have k2 := low_dist (n0 := n0) (d0 := (d : Int)) (p := bn) (q := (bd : Int)) (b := d * bd) (by rw [Int.natCast_mul]) LB.1
  have k3 := cmp_dist (Dy := dist n0 (d : Int) yn (yd : Int)) (Dz := dist n0 (d : Int) bn (bd : Int)) (a := ((ya.natAbs : Nat) : Int)) (b := ((ba.natAbs : Nat) : Int)) (u := (yw : Int)) (v := (bw : Int)) (show (1 : Int) ≤ (d : Int) by omega) (show (1 : Int) ≤ (yd : Int) by omega) (show (1 : Int) ≤ (bd : Int) by omega) (by have := LY.2.1; omega) (by have := LB.2.1; omega) k1 k2
  rw [Bool.eq_iff_iff, decide_eq_true_eq, decide_eq_true_eq, ← k3]
  unfold ICmp at h
  omega
/-- What was looked at of one denominator. -/
def Sk (k : Nat) (low : Int) (p : Int) : Prop := (k = 1 ∧ p ≤ low) ∨ 2 ≤ k
theorem sk0 (low : Int) : Sk 0 low = fun _ => False := by funext p; exact propext ⟨fun h => by unfold Sk at h; omega, fun h => h.elim⟩
theorem sk1 (low : Int) : Sk 1 low = fun p => p ≤ low := by funext p; exact propext ⟨fun h => by rcases h with h | h; exact h.2; omega, fun h => .inl ⟨rfl, h⟩⟩
theorem sk2 (low : Int) : Sk 2 low = fun _ => True := by funext p; exact propext ⟨fun _ => trivial, fun _ => .inr (Nat.le_refl _)⟩
theorem sk_step {n0 d0 : Int} {d k : Nat} {low r bp bq y1 y2 : Int} (h : Bst n0 d0 d (Sk k low) bp bq) (hk : k < 2) (hd : 1 ≤ d) (hf : FloorOf (n0 * (d : Int)) d0 low r) (hd0 : 1 ≤ d0) (hy : y1 * (d : Int) = (low + (k : Int)) * y2) (hy2 : 1 ≤ y2) (hyd : y2 ≤ (d : Int)) (hg : Nat.gcd y1.natAbs y2.natAbs = 1) :
    (dist n0 d0 y1 y2 * bq < dist n0 d0 bp bq * y2 → Bst n0 d0 d (Sk (k + 1) low) y1 y2) ∧ (¬ dist n0 d0 y1 y2 * bq < dist n0 d0 bp bq * y2 → Bst n0 d0 d (Sk (k + 1) low) bp bq) := by
  have hr : 0 ≤ r ∧ r < d0 := by rcases hf.2 with g | g; exact g; omega
  have e1 := hf.1
  rcases (show k = 0 ∨ k = 1 by omega) with rfl | rfl
  · rw [show Sk (0 + 1) low = fun p => p ≤ low from sk1 low]
    rw [sk0] at h
    exact bst_low h (by omega) e1 hr.1 hr.2 (by simpa using hy) hy2 hyd hg
  · rw [show Sk (1 + 1) low = fun _ => True from sk2 low]
    rw [sk1] at h
    exact bst_high h (by omega) e1 hr.1 hr.2 (by simpa using hy) hy2 hyd hg
theorem sk_next {n0 d0 : Int} {d : Nat} {low bp bq : Int} (h : Bst n0 d0 d (Sk 2 low) bp bq) : Bst n0 d0 ((d + 1 : Nat) : Int) (fun _ => False) bp bq := by
  rw [sk2] at h
  have := bst_next h
  rw [show ((d + 1 : Nat) : Int) = (d : Int) + 1 by omega]
  exact this
theorem sk_zero {n0 d0 : Int} {d : Nat} {low bp bq : Int} (h : Bst n0 d0 d (fun _ => False) bp bq) : Bst n0 d0 d (Sk 0 low) bp bq := by
  rw [sk0]; exact h
/-- The outer loop. -/
def NoRel (V : World) (g5 m : Nat) (n0 d0 : Int) (s6 : Value) (wx : World) : Prop :=
  ∃ (d : Nat) (q : QV) (bp : Int) (bq : Nat), s6 = .int .i64 (d : Int) ∧ 1 ≤ d ∧ d ≤ m + 1 ∧ Bk3 wx g5 (.bool q.m) (.slice q.A q.n q.c) (.slice q.D q.k q.d) ∧ q.at wx wx.heap.size ∧ Hid (q.is bp bq) ∧ Hid (Bst n0 d0 (d : Int) (fun _ => False) bp (bq : Int)) ∧ Hid ((bq < d ∨ bq = 1) ∧ bp.natAbs ≤ 64 * Top128) ∧ Below g5 V wx
/-- The inner loop. -/
def NiRel (V : World) (g5 g7 d : Nat) (n0 d0 low : Int) (s8 : Value) (wx : World) : Prop :=
  ∃ (k : Nat) (q : QV) (bp : Int) (bq : Nat) (m : Bool) (A : Option Addr) (n c : Nat) (xs : List Nat) (v : Nat), s8 = .int .i64 (k : Int) ∧ k ≤ 2 ∧ Bk3 wx g5 (.bool q.m) (.slice q.A q.n q.c) (.slice q.D q.k q.d) ∧ q.at wx wx.heap.size ∧ Hid (q.is bp bq) ∧ Hid (Bst n0 d0 (d : Int) (Sk k low) bp (bq : Int)) ∧ Hid (bp.natAbs ≤ 64 * Top128) ∧ Bk2 wx g7 (.bool m) (.slice A n c) ∧ DRd wx wx.heap.size A n c xs ∧ Hid (Rep 65536 xs v) ∧ Hid (sval m v = low + (k : Int)) ∧ Below g5 V wx
/-- Behind the comparison. -/
def NbR (V : World) (g5 g7 d k : Nat) (n0 d0 low : Int) (wx : World) : Prop :=
  ∃ (q : QV) (bp : Int) (bq : Nat) (m : Bool) (A : Option Addr) (n c : Nat) (xs : List Nat) (v : Nat), Bk3 wx g5 (.bool q.m) (.slice q.A q.n q.c) (.slice q.D q.k q.d) ∧ q.at wx wx.heap.size ∧ Hid (q.is bp bq) ∧ Hid (Bst n0 d0 (d : Int) (Sk (k + 1) low) bp (bq : Int)) ∧ Hid (bp.natAbs ≤ 64 * Top128) ∧ Bk2 wx g7 (.bool m) (.slice A n c) ∧ DRd wx wx.heap.size A n c xs ∧ Hid (Rep 65536 xs v) ∧ Hid (sval m v = low + (k : Int)) ∧ Below g5 V wx
def FlR (V : World) (n d : Int) (s : Value) (wx : World) : Prop := ∃ low r, Hid (FloorOf n d low r) ∧ IdR V low s wx
def LwR (V : World) (z1 : Int) (z2 : Nat) (s : Value) (wx : World) : Prop := ∃ y1 y2, Hid (LowOf z1 z2 y1 y2) ∧ LfR V y1 y2 s wx
theorem flr_mk {V wx : World} {n d low r : Int} {s : Value} (h : Hid (FloorOf n d low r)) (k : IdR V low s wx) : FlR V n d s wx := ⟨low, r, h, k⟩
theorem lwr_mk {V wx : World} {z1 y1 : Int} {z2 y2 : Nat} {s : Value} (h : Hid (LowOf z1 z2 y1 y2)) (k : LfR V y1 y2 s wx) : LwR V z1 z2 s wx := ⟨y1, y2, h, k⟩
theorem one_ltx {m : Bool} {v : Nat} (h : sval m v = 1) : v < TT := lt_tt9 (by rw [← sval_abs m v, h]; exact lt_top (by decide))
theorem Bk3.far2b {w : World} {g k : Nat} {u v x : Value} (h : Bk3 w g u v x) (hk : k ≠ g) (a b : Value) : Bk3 ((w.setCell ⟨k, 0, none⟩ a).setCell ⟨k, 1, none⟩ b) g u v x := by
  obtain ⟨h0, h1, h2, z0, z1, z2, lt⟩ := h
  have hk' : ¬ g = k := fun h => hk h.symm
  constructor <;> simp [go_sem, h0, h1, h2, z0, z1, z2, lt, hk, hk']
end Go.Proofs.YtfgkhdpdjclmkaaGreat
