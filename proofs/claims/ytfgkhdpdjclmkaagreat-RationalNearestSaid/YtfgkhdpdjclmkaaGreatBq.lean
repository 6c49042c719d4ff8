/- Two older blocks may be written. Continued fractions, as the program computes them. The closure of convergents. The program's expand with the closure of convergents. The program's convergents. -/
import Derived.Test.YtfgkhdpdjclmkaaGreatBo
import Derived.Below
import Derived.Deep.DeepCutAuto
import Derived.Deep.LoopGhost
import Derived.Test.YtfgkhdpdjclmkaaGreatBi
namespace Go.Proofs.YtfgkhdpdjclmkaaGreat
open Go.RowKit
set_option maxHeartbeats 400000
set_option maxRecDepth 100000
set_option linter.unusedSimpArgs false
set_option linter.unusedVariables false

/-- As before, but for blocks g and h. -/
structure Kp2 (g h : Nat) (w w' : World) : Prop where
  os : w'.os = w.os
  tape : w'.tape = w.tape
  output : w'.output = w.output
  size : w.heap.size ≤ w'.heap.size
  block : ∀ k, k < w.heap.size → k ≠ g → k ≠ h → w'.heap[k]? = w.heap[k]?
/-- Block g holds a ratio. -/
abbrev Rq (w : World) (g : Nat) (m : Bool) (A : Option Addr) (n c : Nat) (m' : Bool) (D : Option Addr) (k d : Nat) : Prop := Row w g 26 [.bool m, .slice A n c, .bool m', .slice D k d]
section
variable {g h : Nat} {a w w' : World}
theorem Kp2.refl (g h : Nat) (w : World) : Kp2 g h w w := ⟨rfl, rfl, rfl, Nat.le_refl _, fun _ _ _ _ => rfl⟩
theorem Kp2.trans (x : Kp2 g h a w) (y : Kp2 g h w w') : Kp2 g h a w' :=
  ⟨y.os.trans x.os, y.tape.trans x.tape, y.output.trans x.output, Nat.le_trans x.size y.size, fun i hi hg hh => (y.block i (Nat.lt_of_lt_of_le hi x.size) hg hh).trans (x.block i hi hg hh)⟩
theorem Kp2.of {B : Nat} (x : Below B w w') (hB : w.heap.size ≤ B) : Kp2 g h w w' := ⟨x.os, x.tape, x.output, x.size, fun k hk _ _ => x.block k (by omega)⟩
theorem Kp2.drew (x : Kp2 g h a w) : Kp2 g h a w.drew := ⟨x.os, x.tape, x.output, x.size, x.block⟩
theorem Kp2.alloc (x : Kp2 g h a w) (o : Obj) : Kp2 g h a (w.alloc o) := x.trans (Kp2.of (bl1 w o) (Nat.le_refl _))
theorem Kp2.set (x : Kp2 g h a w) {p : Addr} (hk : p.block = g ∨ p.block = h ∨ a.heap.size ≤ p.block) (u : Value) : Kp2 g h a (w.setCell p u) :=
  ⟨x.os, x.tape, x.output, by have := x.size; simpa [World.setCell] using this, fun i hi hg hh => (Below.heap_setCell _ _ _ _ (by omega)).trans (x.block i hi hg hh)⟩
theorem Kp2.below {B : Nat} (x : Kp2 g h w w') (hg : B ≤ g) (hh : B ≤ h) (hB : B ≤ w.heap.size) : Below B w w' := ⟨x.os, x.tape, x.output, x.size, fun k hk => x.block k (by omega) (by omega) (by omega)⟩
theorem Kp2.cell (x : Kp2 g h w w') {p : Addr} (hp : p.block < w.heap.size) (hg : p.block ≠ g) (hh : p.block ≠ h) : w'.cell? p = w.cell? p := World.cell?_of_block (w := w) (x.block p.block hp hg hh)
theorem Kp2.frozen (x : Kp2 g h w w') {p : Addr} (hp : p.block < w.heap.size) (hg : p.block ≠ g) (hh : p.block ≠ h) : w'.frozen? p = w.frozen? p := World.frozen?_of_block (w := w) (x.block p.block hp hg hh)
theorem Kp2.b2 (x : Kp2 g h w w') {k : Nat} {u v : Value} (q : Bk2 w k u v) (hg : k ≠ g) (hh : k ≠ h) : Bk2 w' k u v :=
  ⟨(x.cell (p := ⟨k, 0, none⟩) q.lt hg hh).trans q.c0, (x.cell (p := ⟨k, 1, none⟩) q.lt hg hh).trans q.c1, (x.frozen (p := ⟨k, 0, none⟩) q.lt hg hh).trans q.z0, (x.frozen (p := ⟨k, 1, none⟩) q.lt hg hh).trans q.z1, by have := x.size; have := q.lt; omega⟩
theorem Kp2.row (x : Kp2 g h w w') {k : Nat} {t : TypeId} {cs : List Value} (q : Row w k t cs) (hg : k ≠ g) (hh : k ≠ h) : Row w' k t cs := (x.block k q.lt hg hh).trans q
variable {m m' : Bool} {A D : Option Addr} {n c k d : Nat}
theorem Rq.b4 (q : Rq w g m A n c m' D k d) : Bk4 w g (.bool m) (.slice A n c) (.bool m') (.slice D k d) :=
  ⟨Row.cell q 0, Row.cell q 1, Row.cell q 2, Row.cell q 3, Row.frozen q 0, Row.frozen q 1, Row.frozen q 2, Row.frozen q 3, Row.lt q⟩
theorem Rq.new (w : World) {g : Nat} (hg : g = w.heap.size) (m : Bool) (A : Option Addr) (n c : Nat) (m' : Bool) (D : Option Addr) (k d : Nat) : Rq (w.alloc (.cells #[.bool m, .slice A n c, .bool m', .slice D k d] 26)) g m A n c m' D k d := by
  subst hg
  exact Row.new w 26 [.bool m, .slice A n c, .bool m', .slice D k d]
theorem Rq.set (q : Rq w g m A n c m' D k d) (x : Bool) (X : Option Addr) (y z : Nat) (x' : Bool) (X' : Option Addr) (y' z' : Nat) : Rq (World.set4 w g (.bool x) (.slice X y z) (.bool x') (.slice X' y' z')) g x X y z x' X' y' z' :=
  (((Row.set_ q 0 _).set_ 1 _).set_ 2 _).set_ 3 _
theorem Row.far4 {t : TypeId} {cs : List Value} (q : Row w g t cs) {k : Nat} (hk : g ≠ k) (a b e f : Value) : Row (World.set4 w k a b e f) g t cs :=
  (((Row.far q (p := ⟨k, 0, none⟩) hk a).far (p := ⟨k, 1, none⟩) hk b).far (p := ⟨k, 2, none⟩) hk e).far (p := ⟨k, 3, none⟩) hk f
theorem Rq.no (q : Rq w g m A n c m' D k d) (j : Nat) (x : Int) : w.cell? ⟨g, j, none⟩ ≠ some (.int .u32 x) := by
  rw [Row.cell q]
  match j with
  | 0 => simp
  | 1 => simp
  | 2 => simp
  | 3 => simp
  | j + 4 => simp
/-- No limb lies in block g. -/
def NoLimb (w : World) (g : Nat) : Prop := ∀ j x, w.cell? ⟨g, j, none⟩ ≠ some (.int .u32 x)
end
theorem LRd.kp2 {w w' : World} {B g h n c : Nat} {A : Option Addr} {xs : List Nat} (q : LRd w B A n c xs) (hB : B ≤ w.heap.size) (x : Kp2 g h w w') (ng : NoLimb w g) (nh : NoLimb w h) : LRd w' B A n c xs := by
  refine ⟨q.len, q.cap, q.lim, fun hn => ?_⟩
  obtain ⟨b0, off, e, hb, hc⟩ := q.rd hn
  refine ⟨b0, off, e, hb, fun j hj => ?_⟩
  have h1 := hc j hj
  refine (x.cell (p := ⟨b0, off + j, none⟩) (by show b0 < _; omega) ?_ ?_).trans h1
  · intro e1
    have e2 : b0 = g := e1
    subst e2
    exact ng _ _ h1
  · intro e1
    have e2 : b0 = h := e1
    subst e2
    exact nh _ _ h1
/-- The last two convergents, as the program computes them. -/
def cvg (m : Int) : Nat → Int → Int → Int → Int → Int → Int → (Int × Int) × (Int × Int)
  | 0, _, _, p0, q0, p1, q1 => ((p0, q0), (p1, q1))
  | f + 1, n, d, p0, q0, p1, q1 =>
    if d = 0 then ((p0, q0), (p1, q1))
    else if m < q0 + n / d * q1 then ((p0, q0), (p1, q1))
    else cvg m f d (n % d) p1 q1 (p0 + n / d * p1) (q0 + n / d * q1)
structure CvI (n0 d0 m : Int) (f : Nat) (n d p0 q0 p1 q1 : Int) : Prop where
  num : p1 * n + p0 * d = n0
  den : q1 * n + q0 * d = d0
  det : p1 * q0 - p0 * q1 = 1 ∨ p1 * q0 - p0 * q1 = -1
  dp : 0 ≤ d
  dd : d ≤ d0
  q0p : 0 ≤ q0
  q0m : q0 ≤ m
  q1p : 0 ≤ q1
  q1m : q1 ≤ m
  nb : n.natAbs ≤ max n0.natAbs d0.natAbs
  fl : d < f
  go : cvg m f n d p0 q0 p1 q1 = cvg m (d0.toNat + 1) n0 d0 0 1 1 0
  st : (n = n0 ∧ d = d0 ∧ p0 = 0 ∧ q0 = 1 ∧ p1 = 1 ∧ q1 = 0) ∨ (1 ≤ q1 ∧ d < n)
theorem CvI.start {n0 d0 m : Int} (hd : 1 ≤ d0) (hm : 1 ≤ m) : CvI n0 d0 m (d0.toNat + 1) n0 d0 0 1 1 0 where
  num := by grind
  den := by grind
  det := by grind
  dp := by omega
  dd := by omega
  q0p := by omega
  q0m := hm
  q1p := by omega
  q1m := by omega
  nb := by omega
  fl := by omega
  go := rfl
  st := .inl ⟨rfl, rfl, rfl, rfl, rfl, rfl⟩
theorem CvI.pos {n0 d0 m n d p0 q0 p1 q1 : Int} {f : Nat} (h : CvI n0 d0 m f n d p0 q0 p1 q1) (hd : d ≠ 0) (hd0 : 1 ≤ d0) : 0 ≤ q0 + n / d * q1 ∧ 1 ≤ q0 + n / d * q1 := by
  have := h.dp
  rcases h.st with ⟨rfl, rfl, rfl, rfl, rfl, rfl⟩ | ⟨a, b⟩
  · omega
  · have h1 : 1 ≤ n / d := by
      have := (Int.le_ediv_iff_mul_le (a := 1) (b := n) (c := d) (by omega)).2 (by omega)
      exact this
    have h2 : 1 * 1 ≤ n / d * q1 := Int.mul_le_mul h1 a (by omega) (by omega)
    have := h.q0p
    omega
theorem CvI.stop0 {n0 d0 m n p0 q0 p1 q1 : Int} {f : Nat} (h : CvI n0 d0 m f n 0 p0 q0 p1 q1) : cvg m (d0.toNat + 1) n0 d0 0 1 1 0 = ((p0, q0), (p1, q1)) := by
  rw [← h.go]
  have := h.fl
  obtain ⟨g, rfl⟩ : ∃ g, f = g + 1 := ⟨f - 1, by omega⟩
  simp [cvg]
theorem CvI.stop1 {n0 d0 m n d p0 q0 p1 q1 : Int} {f : Nat} (h : CvI n0 d0 m f n d p0 q0 p1 q1) (hd : d ≠ 0) (hm : m < q0 + n / d * q1) : cvg m (d0.toNat + 1) n0 d0 0 1 1 0 = ((p0, q0), (p1, q1)) := by
  rw [← h.go]
  have := h.fl
  have := h.dp
  obtain ⟨g, rfl⟩ : ∃ g, f = g + 1 := ⟨f - 1, by omega⟩
  simp [cvg, hd, hm]
theorem CvI.next {n0 d0 m n d p0 q0 p1 q1 : Int} {f : Nat} (h : CvI n0 d0 m (f + 1) n d p0 q0 p1 q1) (hd : d ≠ 0) (hd0 : 1 ≤ d0) (hm : q0 + n / d * q1 ≤ m) : CvI n0 d0 m f d (n % d) p1 q1 (p0 + n / d * p1) (q0 + n / d * q1) := by
  have e := Int.mul_ediv_add_emod n d
  have hdp := h.dp
  have h1 := Int.emod_nonneg n hd
  have h2 := Int.emod_lt_of_pos n (show 0 < d by omega)
  have hp := h.pos hd hd0
  have hn := h.num
  have hde := h.den
  have hdet := h.det
  have hgo := h.go
  have hfl := h.fl
  have hdd := h.dd
  have ht : ¬ m < q0 + n / d * q1 := by omega
  rw [cvg, if_neg hd, if_neg ht] at hgo
  generalize n / d = t at *
  generalize n % d = r at *
  refine ⟨?_, ?_, ?_, h1, by omega, h.q1p, h.q1m, by omega, by omega, by omega, by omega, hgo, .inr ⟨hp.2, h2⟩⟩
  · grind
  · grind
  · rcases hdet with e1 | e1
    · right; grind
    · left; grind
/-- a * d = q * n + e with d at least 1. -/
theorem num_bd {a d q n e : Int} {T : Nat} (hd : 1 ≤ d) (h : a * d = q * n + e) (hq : q.natAbs ≤ T) (hn : n.natAbs ≤ T) (he : e.natAbs ≤ T) : a.natAbs ≤ T * T + T ∧ (a * d).natAbs ≤ T * T + T := by
  have h1 : (a * d).natAbs ≤ T * T + T := by
    rw [h]
    have h2 : (q * n).natAbs ≤ T * T := by rw [Int.natAbs_mul]; exact Nat.mul_le_mul hq hn
    omega
  refine ⟨?_, h1⟩
  have h3 : a.natAbs * 1 ≤ a.natAbs * d.natAbs := Nat.mul_le_mul_left _ (by omega)
  rw [← Int.natAbs_mul] at h3
  omega
theorem CvI.bds {n0 d0 m n d p0 q0 p1 q1 : Int} {f T : Nat} (h : CvI n0 d0 m f n d p0 q0 p1 q1) (hd0 : 1 ≤ d0) (hn : n0.natAbs ≤ T) (hd : d0.natAbs ≤ T) (hm : m.natAbs ≤ T) : n.natAbs ≤ T ∧ d.natAbs ≤ T ∧ q0.natAbs ≤ T ∧ q1.natAbs ≤ T ∧ p0.natAbs ≤ T * T + T ∧ p1.natAbs ≤ T * T + T := by
  have hnb := h.nb
  have hdp := h.dp
  have hdd := h.dd
  have a1 := h.q0p
  have a2 := h.q0m
  have a3 := h.q1p
  have a4 := h.q1m
  have g1 : n.natAbs ≤ T := by omega
  have g2 : d.natAbs ≤ T := by omega
  have g3 : q0.natAbs ≤ T := by omega
  have g4 : q1.natAbs ≤ T := by omega
  refine ⟨g1, g2, g3, g4, ?_, ?_⟩
  · rcases h.det with e | e
    · exact (num_bd (a := p0) (d := d0) (q := q0) (n := n0) (e := -n) hd0 (by have := h.num; have := h.den; grind) g3 hn (by omega)).1
    · exact (num_bd (a := p0) (d := d0) (q := q0) (n := n0) (e := n) hd0 (by have := h.num; have := h.den; grind) g3 hn (by omega)).1
  · rcases h.det with e | e
    · exact (num_bd (a := p1) (d := d0) (q := q1) (n := n0) (e := d) hd0 (by have := h.num; have := h.den; grind) g4 hn (by omega)).1
    · exact (num_bd (a := p1) (d := d0) (q := q1) (n := n0) (e := -d) hd0 (by have := h.num; have := h.den; grind) g4 hn (by omega)).1
theorem ediv_bd {n d : Int} {T : Nat} (hd : 0 ≤ d) (hn : n.natAbs ≤ T) : (n / d).natAbs ≤ T := by
  have := Int.natAbs_ediv_le_natAbs n d
  omega
theorem poly_lt {T : Nat} (hT : 4 ≤ T) : (T * T + T) + T * (T * T + T) < T * T * T * T ∧ T * T < T * T * T * T := by
  have h1 : 4 * T ≤ T * T := Nat.mul_le_mul_right _ hT
  have h2 : 4 * (T * T) ≤ T * T * T := by have := Nat.mul_le_mul_right (T * T) hT; grind
  have h3 : 4 * (T * T * T) ≤ T * T * T * T := by have := Nat.mul_le_mul_right (T * T * T) hT; grind
  have e : T * (T * T + T) = T * T * T + T * T := by grind
  omega
/-- What further wants. -/
theorem CvI.fur {n0 d0 m n d p0 q0 p1 q1 : Int} {f T : Nat} (h : CvI n0 d0 m f n d p0 q0 p1 q1) (hd0 : 1 ≤ d0) (hn : n0.natAbs ≤ T) (hd : d0.natAbs ≤ T) (hm : m.natAbs ≤ T) (hT : 4 ≤ T) :
    p1.natAbs < T * T * T * T ∧ q1.natAbs < T * T * T * T ∧ (n / d).natAbs < T * T * T * T ∧ p0.natAbs + (n / d * p1).natAbs < T * T * T * T ∧ q0.natAbs + (n / d * q1).natAbs < T * T * T * T := by
  obtain ⟨b1, b2, b3, b4, b5, b6⟩ := h.bds hd0 hn hd hm
  have b7 := ediv_bd h.dp b1
  obtain ⟨c1, c2⟩ := poly_lt hT
  have e1 : (n / d * p1).natAbs ≤ T * (T * T + T) := by rw [Int.natAbs_mul]; exact Nat.mul_le_mul b7 b6
  have e2 : (n / d * q1).natAbs ≤ T * (T * T + T) := by rw [Int.natAbs_mul]; exact Nat.mul_le_mul b7 (by omega)
  have e3 : T ≤ T * T := Nat.le_mul_self T
  refine ⟨?_, ?_, ?_, ?_, ?_⟩ <;> omega
/-- The nearest ratio, as the program computes it. -/
def nearO (n0 d0 m : Int) : Int × Int :=
  let c := cvg m (d0.toNat + 1) n0 d0 0 1 1 0
  (c.1.1 + (m - c.1.2) / c.2.2 * c.2.1, c.1.2 + (m - c.1.2) / c.2.2 * c.2.2)
def nearZ (n0 d0 m : Int) : Int × Int :=
  let c := cvg m (d0.toNat + 1) n0 d0 0 1 1 0
  let o := nearO n0 d0 m
  if ((o.1 * d0 - n0 * o.2) * c.2.2).natAbs < ((c.2.1 * d0 - n0 * c.2.2) * o.2).natAbs then o else c.2
/-- The end of convergents. -/
structure CvE (n0 d0 m : Int) (n d p0 q0 p1 q1 : Int) : Prop where
  num : p1 * n + p0 * d = n0
  den : q1 * n + q0 * d = d0
  det : p1 * q0 - p0 * q1 = 1 ∨ p1 * q0 - p0 * q1 = -1
  dp : 0 ≤ d
  dd : d ≤ d0
  q0p : 0 ≤ q0
  q0m : q0 ≤ m
  q1p : 1 ≤ q1
  q1m : q1 ≤ m
  nb : n.natAbs ≤ max n0.natAbs d0.natAbs
  dn : d < n
  mx : d = 0 ∨ m < q0 + n / d * q1
  go : cvg m (d0.toNat + 1) n0 d0 0 1 1 0 = ((p0, q0), (p1, q1))
theorem CvI.end0 {n0 d0 m n p0 q0 p1 q1 : Int} {f : Nat} (h : CvI n0 d0 m f n 0 p0 q0 p1 q1) (hd0 : 1 ≤ d0) : CvE n0 d0 m n 0 p0 q0 p1 q1 := by
  rcases h.st with ⟨_, e, _⟩ | ⟨a, b⟩
  · omega
  · exact ⟨h.num, h.den, h.det, h.dp, h.dd, h.q0p, h.q0m, a, h.q1m, h.nb, b, .inl rfl, h.stop0⟩
theorem CvI.end1 {n0 d0 m n d p0 q0 p1 q1 : Int} {f : Nat} (h : CvI n0 d0 m f n d p0 q0 p1 q1) (hd0 : 1 ≤ d0) (hm1 : 1 ≤ m) (hd : d ≠ 0) (hm : m < q0 + n / d * q1) : CvE n0 d0 m n d p0 q0 p1 q1 := by
  rcases h.st with ⟨_, e, _, e2, _, e3⟩ | ⟨a, b⟩
  · subst e2 e3; omega
  · exact ⟨h.num, h.den, h.det, h.dp, h.dd, h.q0p, h.q0m, a, h.q1m, h.nb, b, .inr hm, h.stop1 hd hm⟩
theorem sm_le {s m q : Int} (hs : s * q ≤ m) (h0 : 0 ≤ s) (hq : 1 ≤ q) : s ≤ m := by
  have : s * 1 ≤ s * q := Int.mul_le_mul_of_nonneg_left hq h0
  omega
theorem z_lt {a T T2 T3 T4 : Nat} (h : a ≤ T3 + 2 * T2 + T) (c1 : T2 + T + (T3 + T2) < T4) (h2 : 4 * T2 ≤ T3) (h3 : 4 * T3 ≤ T4) : a < T4 := by omega
theorem z_all (T T2 T3 : Nat) (h2 : 4 * T2 ≤ T3) : T ≤ T3 + 2 * T2 + T ∧ T2 + T ≤ T3 + 2 * T2 + T ∧ T2 + T + (T3 + T2) ≤ T3 + 2 * T2 + T ∧ T + T2 ≤ T3 + 2 * T2 + T ∧ 2 * T2 + T ≤ T3 + 2 * T2 + T ∧ T2 ≤ T3 + 2 * T2 + T ∧ 2 * T2 + T + T2 ≤ T3 + 2 * T2 + T ∧ T3 + T2 ≤ T3 + 2 * T2 + T ∧ T2 + T + T2 ≤ T3 + 2 * T2 + T := by omega
theorem nat_gap {x y : Int} {T : Nat} (hx : x.natAbs ≤ T) (hy : y.natAbs ≤ T * T) : (x + y).natAbs ≤ T * T + T := by omega
theorem nat_gap2 {x y z : Int} {T : Nat} (e : x - y = z) (hx : z.natAbs ≤ T * T + T) (hy : y.natAbs ≤ T * T) : x.natAbs ≤ 2 * (T * T) + T := by omega
/-- What Nearest wants. -/
theorem CvE.fur {n0 d0 m n d p0 q0 p1 q1 s : Int} {T : Nat} (h : CvE n0 d0 m n d p0 q0 p1 q1) (hs : s = (m - q0) / q1) (hd0 : 1 ≤ d0) (hn : n0.natAbs ≤ T) (hd : d0.natAbs ≤ T) (hm : m.natAbs ≤ T) (hT : 4 ≤ T) :
    (0 ≤ s ∧ 0 ≤ q0 + s * q1 ∧ q0 + s * q1 ≤ m) ∧
    (p1.natAbs < T * T * T * T ∧ q1.natAbs < T * T * T * T ∧ s.natAbs < T * T * T * T ∧ p0.natAbs + (s * p1).natAbs < T * T * T * T ∧ q0.natAbs + (s * q1).natAbs < T * T * T * T) ∧
    ((p0 + s * p1).natAbs < T * T * T * T ∧ (q0 + s * q1).natAbs < T * T * T * T ∧ n0.natAbs < T * T * T * T ∧ d0.natAbs < T * T * T * T) ∧
    ((((p0 + s * p1) * d0).natAbs < T * T * T * T ∧ (n0 * (q0 + s * q1)).natAbs < T * T * T * T ∧ ((p0 + s * p1) * d0).natAbs + (n0 * (q0 + s * q1)).natAbs < T * T * T * T ∧ (((p0 + s * p1) * d0 - n0 * (q0 + s * q1)) * q1).natAbs < T * T * T * T) ∧
     ((p1 * d0).natAbs < T * T * T * T ∧ (n0 * q1).natAbs < T * T * T * T ∧ (p1 * d0).natAbs + (n0 * q1).natAbs < T * T * T * T ∧ ((p1 * d0 - n0 * q1) * (q0 + s * q1)).natAbs < T * T * T * T)) := by
  have a1 := h.q0p
  have a2 := h.q0m
  have a3 := h.q1p
  have a4 := h.q1m
  have hdp := h.dp
  have hdd := h.dd
  have hnb := h.nb
  have s0 : 0 ≤ s := by rw [hs]; exact Int.ediv_nonneg (by omega) (by omega)
  have s1 : s * q1 ≤ m - q0 := by rw [hs]; exact Int.ediv_mul_le _ (by omega)
  have s2 : 0 ≤ s * q1 := Int.mul_nonneg s0 (by omega)
  have s3 : s ≤ m := sm_le (q := q1) (by omega) s0 a3
  have g1 : n.natAbs ≤ T := by omega
  have g2 : d.natAbs ≤ T := by omega
  have g3 : q0.natAbs ≤ T := by omega
  have g4 : q1.natAbs ≤ T := by omega
  have g5 : (q0 + s * q1).natAbs ≤ T := by omega
  have g6 : s.natAbs ≤ T := by omega
  have e0 : ∃ e : Int, e.natAbs ≤ T ∧ p0 * d0 = q0 * n0 + e := by
    rcases h.det with e | e
    · exact ⟨-n, by omega, by have := h.num; have := h.den; grind⟩
    · exact ⟨n, by omega, by have := h.num; have := h.den; grind⟩
  have e1 : ∃ e : Int, e.natAbs ≤ T ∧ p1 * d0 = q1 * n0 + e := by
    rcases h.det with e | e
    · exact ⟨d, by omega, by have := h.num; have := h.den; grind⟩
    · exact ⟨-d, by omega, by have := h.num; have := h.den; grind⟩
  obtain ⟨x0, x0b, x0e⟩ := e0
  obtain ⟨x1, x1b, x1e⟩ := e1
  have k0 := num_bd hd0 x0e g3 hn x0b
  have k1 := num_bd hd0 x1e g4 hn x1b
  have b3 : (n0 * q1).natAbs ≤ T * T := by rw [Int.natAbs_mul]; exact Nat.mul_le_mul hn g4
  have b4 : (n0 * (q0 + s * q1)).natAbs ≤ T * T := by rw [Int.natAbs_mul]; exact Nat.mul_le_mul hn g5
  have b5 : (s * p1).natAbs ≤ T * (T * T + T) := by rw [Int.natAbs_mul]; exact Nat.mul_le_mul g6 k1.1
  have b6 : (s * q1).natAbs ≤ T * T := by rw [Int.natAbs_mul]; exact Nat.mul_le_mul g6 g4
  have xo : (p0 + s * p1) * d0 - n0 * (q0 + s * q1) = x0 + s * x1 := by grind
  have b7 : (s * x1).natAbs ≤ T * T := by rw [Int.natAbs_mul]; exact Nat.mul_le_mul g6 x1b
  have b8 : ((p0 + s * p1) * d0 - n0 * (q0 + s * q1)).natAbs ≤ T * T + T := by rw [xo]; exact nat_gap x0b b7
  have b9 : ((p0 + s * p1) * d0).natAbs ≤ 2 * (T * T) + T := nat_gap2 rfl b8 b4
  have xl : p1 * d0 - n0 * q1 = x1 := by grind
  have b10 : (((p0 + s * p1) * d0 - n0 * (q0 + s * q1)) * q1).natAbs ≤ (T * T + T) * T := by rw [Int.natAbs_mul]; exact Nat.mul_le_mul b8 g4
  have b11 : ((p1 * d0 - n0 * q1) * (q0 + s * q1)).natAbs ≤ T * T := by rw [Int.natAbs_mul, xl]; exact Nat.mul_le_mul x1b g5
  obtain ⟨c1, c2⟩ := poly_lt hT
  have e3 : T ≤ T * T := Nat.le_mul_self T
  have e4 : (T * T + T) * T = T * (T * T + T) := Nat.mul_comm _ _
  have h1 : 4 * T ≤ T * T := Nat.mul_le_mul_right _ hT
  have h2 : 4 * (T * T) ≤ T * T * T := by have := Nat.mul_le_mul_right (T * T) hT; grind
  have h3 : 4 * (T * T * T) ≤ T * T * T * T := by have := Nat.mul_le_mul_right (T * T * T) hT; grind
  have e5 : T * (T * T + T) = T * T * T + T * T := by grind
  have k00 := k0.1
  have k10 := k1.1
  have k11 := k1.2
  have b12 := Int.natAbs_add_le p0 (s * p1)
  have b13 : (q0 + s * q1).natAbs ≤ T := g5
  have z1 : 0 ≤ q0 + s * q1 := by omega
  have z2 : q0 + s * q1 ≤ m := by omega
  clear xl xo k0 k1 x0e x1e hs s1 s2 s3 x0b x1b b7 hnb a1 a2 a3 a4 hdp hdd h g1 g2 hm g5
  refine ⟨⟨s0, z1, z2⟩, ?_⟩
  clear s0 z1 z2
  generalize (((p0 + s * p1) * d0 - n0 * (q0 + s * q1)) * q1).natAbs = v1 at *
  generalize ((p1 * d0 - n0 * q1) * (q0 + s * q1)).natAbs = v2 at *
  generalize ((p0 + s * p1) * d0 - n0 * (q0 + s * q1)).natAbs = v3 at *
  generalize ((p0 + s * p1) * d0).natAbs = v4 at *
  generalize (n0 * (q0 + s * q1)).natAbs = v5 at *
  generalize (p0 + s * p1).natAbs = v6 at *
  generalize (q0 + s * q1).natAbs = v7 at *
  generalize (s * p1).natAbs = v8 at *
  generalize (s * q1).natAbs = v9 at *
  generalize (p1 * d0).natAbs = v10 at *
  generalize (n0 * q1).natAbs = v11 at *
  generalize p0.natAbs = v12 at *
  generalize p1.natAbs = v13 at *
  generalize q0.natAbs = v14 at *
  generalize q1.natAbs = v15 at *
  generalize n0.natAbs = v16 at *
  generalize d0.natAbs = v17 at *
  generalize s.natAbs = v18 at *
  rw [e4] at b10
  rw [e5] at b10 c1 b5
  clear e4 e5
  generalize T * T * T * T = T4 at *
  generalize T * T * T = T3 at *
  generalize T * T = T2 at *
  clear b8 h1 c2
  have Z : ∀ {a}, a ≤ T3 + 2 * T2 + T → a < T4 := fun {a} h => z_lt h c1 h2 h3
  obtain ⟨zT, zA, zB, zC, zD, zE, zF, zG, zH⟩ := z_all T T2 T3 h2
  exact ⟨⟨Z (Nat.le_trans k10 zA), Z (Nat.le_trans g4 zT), Z (Nat.le_trans g6 zT), Z (Nat.le_trans (Nat.add_le_add k00 b5) zB), Z (Nat.le_trans (Nat.add_le_add g3 b6) zC)⟩,
    ⟨Z (Nat.le_trans b12 (Nat.le_trans (Nat.add_le_add k00 b5) zB)), Z (Nat.le_trans b13 zT), Z (Nat.le_trans hn zT), Z (Nat.le_trans hd zT)⟩,
    ⟨Z (Nat.le_trans b9 zD), Z (Nat.le_trans b4 zE), Z (Nat.le_trans (Nat.add_le_add b9 b4) zF), Z (Nat.le_trans b10 zG)⟩,
    Z (Nat.le_trans k11 zA), Z (Nat.le_trans b3 zE), Z (Nat.le_trans (Nat.add_le_add k11 b3) zH), Z (Nat.le_trans b11 zE)⟩
theorem near_parts : nearZ 355 113 10 = (22, 7) := by decide
theorem cmp_i (w : World) (B : Nat) (m m2 : Bool) (A D : Option Addr) (n k c d : Nat) (xs ys : List Nat) (z1 z2 : Int) (HA : LRd w B A n c xs) (HB : LRd w B D k d ys) (hB : B ≤ w.heap.size) (hx : IRep m xs z1) (hy : IRep m2 ys z2) (b1 : z1.natAbs < Big) (b2 : z2.natAbs < Big) :
    Calls Tryz.prog 78 #[.slice A n c, .slice D k d] w (CmpFPost z1.natAbs z2.natAbs w) := by
  have h := cmp_ok w B A D n k c d xs ys HA HB hB (big_vld hx.rep b1) (big_vld hy.rep b2)
  rw [hx.rep.val, hy.rep.val] at h
  exact h
theorem cmpv_gt {p q : Nat} {r : Int} (h : CmpV p q r) (hq : q < p) : r = 1 := by unfold CmpV at h; omega
theorem cmpv_le {p q : Nat} {r : Int} (h : CmpV p q r) (hq : p ≤ q) : r = -1 ∨ r = 0 := by unfold CmpV at h; omega
/-- What the closure leaves where the next convergent counts. -/
def CvGo (g h : Nat) (b : RV) (z1 z2 : Int) (w : World) (e : Ending) (w' : World) : Prop :=
  ∃ m A k c xs m' D l d ys, e = .returned (.bool true) ∧ Rq w' g b.num.neg b.num.A b.num.n b.num.c b.den.neg b.den.A b.den.n b.den.c ∧ Rq w' h m A k c m' D l d ∧ LRd w' w'.heap.size A k c xs ∧ LRd w' w'.heap.size D l d ys ∧ IRep m xs z1 ∧ IRep m' ys z2 ∧ Kp2 g h w w'
theorem Row.drewE {w : World} {g : Nat} {t : TypeId} {cs : List Value} (h : Row w g t cs) : Row w.drew g t cs := h
set_option maxHeartbeats 4000000 in
theorem CvGo.mk {W : World} {g h B : Nat} {m m' m1 m2 : Bool} {A D A1 A2 : Option Addr} {n c k d k1 e1 k2 e2 : Nat} {x1 x2 : List Nat} {z1 z2 : Int} {w : World} {b : RV} (Q1 : Rq W g m A n c m' D k d) (Q2 : Rq W h b.num.neg b.num.A b.num.n b.num.c b.den.neg b.den.A b.den.n b.den.c) (hne : g ≠ h) (hl1 : LRd W B A1 k1 e1 x1) (hl2 : LRd W B A2 k2 e2 x2) (R1 : IRep m1 x1 z1) (R2 : IRep m2 x2 z2) (KW : Kp2 g h w W) (hB : B ≤ W.heap.size) {e : Ending} (he : e = .returned (.bool true)) :
    CvGo g h b z1 z2 w e (World.set4 (World.set4 W g (.bool b.num.neg) (.slice b.num.A b.num.n b.num.c) (.bool b.den.neg) (.slice b.den.A b.den.n b.den.c)) h (.bool m1) (.slice A1 k1 e1) (.bool m2) (.slice A2 k2 e2)).drew := by
  have s1 := Rq.set Q1 b.num.neg b.num.A b.num.n b.num.c b.den.neg b.den.A b.den.n b.den.c
  have s2 : Rq (World.set4 W g (.bool b.num.neg) (.slice b.num.A b.num.n b.num.c) (.bool b.den.neg) (.slice b.den.A b.den.n b.den.c)) h _ _ _ _ _ _ _ _ := Row.far4 Q2 (fun e => hne e.symm) _ _ _ _
  have l1 := (hl1.set4 Q1.b4 (by simp) (by simp) (by simp) (by simp) (.bool b.num.neg) (.slice b.num.A b.num.n b.num.c) (.bool b.den.neg) (.slice b.den.A b.den.n b.den.c)).set4 s2.b4 (by simp) (by simp) (by simp) (by simp) (.bool m1) (.slice A1 k1 e1) (.bool m2) (.slice A2 k2 e2)
  have l2 := (hl2.set4 Q1.b4 (by simp) (by simp) (by simp) (by simp) (.bool b.num.neg) (.slice b.num.A b.num.n b.num.c) (.bool b.den.neg) (.slice b.den.A b.den.n b.den.c)).set4 s2.b4 (by simp) (by simp) (by simp) (by simp) (.bool m1) (.slice A1 k1 e1) (.bool m2) (.slice A2 k2 e2)
  have f1 : Rq (World.set4 (World.set4 W g (.bool b.num.neg) (.slice b.num.A b.num.n b.num.c) (.bool b.den.neg) (.slice b.den.A b.den.n b.den.c)) h (.bool m1) (.slice A1 k1 e1) (.bool m2) (.slice A2 k2 e2)) g _ _ _ _ _ _ _ _ := Row.far4 s1 hne _ _ _ _
  have f2 := s2.set m1 A1 k1 e1 m2 A2 k2 e2
  refine ⟨m1, A1, k1, e1, x1, m2, A2, k2, e2, x2, he, Row.drewE f1, Row.drewE f2, l1.drew.more (by simp [World.setCell]; omega), l2.drew.more (by simp [World.setCell]; omega), R1, R2, ?_⟩
  exact ((((((((KW.set (.inl rfl) _).set (.inl rfl) _).set (.inl rfl) _).set (.inl rfl) _).set (.inr (.inl rfl)) _).set (.inr (.inl rfl)) _).set (.inr (.inl rfl)) _).set (.inr (.inl rfl)) _).drew
set_option maxHeartbeats 8000000 in
theorem cv_stop (w : World) (B g h q : Nat) (a b : RV) (t mo : IV) (na da nb db zt zm : Int) (H1 : a.at w B) (H2 : b.at w B) (H3 : t.at w B) (H4 : mo.at w B) (hB : B ≤ w.heap.size) (G1 : Rq w g a.num.neg a.num.A a.num.n a.num.c a.den.neg a.den.A a.den.n a.den.c) (G2 : Rq w h b.num.neg b.num.A b.num.n b.num.c b.den.neg b.den.A b.den.n b.den.c) (G3 : Bk2 w q (.bool mo.neg) (.slice mo.A mo.n mo.c)) (hgh : g ≠ h) (IA : Hid (IRep a.num.neg a.num.xs na)) (IC : Hid (IRep a.den.neg a.den.xs da)) (IB : Hid (IRep b.num.neg b.num.xs nb)) (ID : Hid (IRep b.den.neg b.den.xs db)) (IT : Hid (IRep t.neg t.xs zt)) (IM : Hid (IRep mo.neg mo.xs zm)) (b3 : Hid (nb.natAbs < Big)) (b4 : Hid (db.natAbs < Big)) (bt : Hid (zt.natAbs < Big)) (bm : Hid (zm.natAbs < Big)) (f1 : Hid (na.natAbs + (zt * nb).natAbs < Big)) (f2 : Hid (da.natAbs + (zt * db).natAbs < Big)) (hs : Hid (zm.natAbs < (da + zt * db).natAbs)) :
    Calls Tryz.prog 123 #[t.v, .pointer (some ⟨g, 0, none⟩), .pointer (some ⟨h, 0, none⟩), .pointer (some ⟨q, 0, none⟩)] w (fun e w' => e = .returned (.bool false) ∧ Below w.heap.size w w') := by
  obtain ⟨HA, HC⟩ := H1
  obtain ⟨HB, HD⟩ := H2
  replace HA : LRd w B a.num.A a.num.n a.num.c a.num.xs := HA
  replace HC : LRd w B a.den.A a.den.n a.den.c a.den.xs := HC
  replace HB : LRd w B b.num.A b.num.n b.num.c b.num.xs := HB
  replace HD : LRd w B b.den.A b.den.n b.den.c b.den.xs := HD
  have HT : LRd w B t.A t.n t.c t.xs := H3
  have HM : LRd w B mo.A mo.n mo.c mo.xs := H4
  have E : Below w.heap.size w w := Below.refl _ _
  have P1 := G1.b4
  have P2 := G2.b4
  have P3 := G3
  have ltg := P1.lt
  have lth := P2.lt
  have ltq := P3.lt
  go_enter Tryz.func123, Tryz.ntmps123
  have t_P10 : (w.alloc (.cells #[.bool t.neg, .slice t.A t.n t.c] 24)).cell? ⟨g, 0, none⟩ = some ((.bool a.num.neg)) := (P1.alloc _).c0
  have t_P11 : (w.alloc (.cells #[.bool t.neg, .slice t.A t.n t.c] 24)).cell? ⟨g, 1, none⟩ = some ((.slice a.num.A a.num.n a.num.c)) := (P1.alloc _).c1
  have t_P12 : (w.alloc (.cells #[.bool t.neg, .slice t.A t.n t.c] 24)).cell? ⟨g, 2, none⟩ = some ((.bool a.den.neg)) := (P1.alloc _).c2
  have t_P13 : (w.alloc (.cells #[.bool t.neg, .slice t.A t.n t.c] 24)).cell? ⟨g, 3, none⟩ = some ((.slice a.den.A a.den.n a.den.c)) := (P1.alloc _).c3
  have t_P20 : (w.alloc (.cells #[.bool t.neg, .slice t.A t.n t.c] 24)).cell? ⟨h, 0, none⟩ = some ((.bool b.num.neg)) := (P2.alloc _).c0
  have t_P21 : (w.alloc (.cells #[.bool t.neg, .slice t.A t.n t.c] 24)).cell? ⟨h, 1, none⟩ = some ((.slice b.num.A b.num.n b.num.c)) := (P2.alloc _).c1
  have t_P22 : (w.alloc (.cells #[.bool t.neg, .slice t.A t.n t.c] 24)).cell? ⟨h, 2, none⟩ = some ((.bool b.den.neg)) := (P2.alloc _).c2
  have t_P23 : (w.alloc (.cells #[.bool t.neg, .slice t.A t.n t.c] 24)).cell? ⟨h, 3, none⟩ = some ((.slice b.den.A b.den.n b.den.c)) := (P2.alloc _).c3
  go_wp2_with fail
  clear t_P10 t_P11 t_P12 t_P13 t_P20 t_P21 t_P22 t_P23
  obtain ⟨V0, hV0⟩ : ∃ V0 : World, V0 = (w.alloc (.cells #[.bool t.neg, .slice t.A t.n t.c] 24)) := ⟨_, rfl⟩
  have bV0 : Below w.heap.size w V0 := by rw [hV0]; (repeat (first | with_reducible exact Below.refl _ _ | with_reducible refine Below.alloc ?_ (by first | (simp <;> omega) | omega) _))
  have zV0 : w.heap.size + 1 ≤ V0.heap.size := by rw [hV0]; simp
  have PT : Bk2 V0 (w.heap.size) (.bool t.neg) (.slice t.A t.n t.c) := by rw [hV0]; exact (Bk2.newAt _ _ (by first | omega | (simp; done) | (simp; omega)) _ _ _)
  rw [← hV0]
  clear hV0
  replace E := E.trans (bV0.mono E.size)
  replace HA := HA.below bV0 (by omega)
  replace HC := HC.below bV0 (by omega)
  replace HB := HB.below bV0 (by omega)
  replace HD := HD.below bV0 (by omega)
  replace HT := HT.below bV0 (by omega)
  replace HM := HM.below bV0 (by omega)
  replace P1 := P1.below bV0 P1.lt
  replace P2 := P2.below bV0 P2.lt
  replace P3 := P3.below bV0 P3.lt
  clear bV0
  (with_reducible refine (further_any _ B a b t na da nb db zt (rv_at HA HC) (rv_at HB HD) (iv_at HT) (by omega) IA IC IB ID IT b3 b4 bt f1 f2).mono ?_)
  rintro e w1 ⟨m1, A1, k1, e1, x1, m2, A2, k2, e2, x2, rfl, hl1, hl2, hr1, hr2, hb1⟩
  have sw1 := hb1.size
  replace E := E.trans (hb1.mono E.size)
  replace HA := HA.below hb1 (by omega)
  replace HC := HC.below hb1 (by omega)
  replace HB := HB.below hb1 (by omega)
  replace HD := HD.below hb1 (by omega)
  replace HT := HT.below hb1 (by omega)
  replace HM := HM.below hb1 (by omega)
  replace P1 := P1.below hb1 P1.lt
  replace P2 := P2.below hb1 P2.lt
  replace P3 := P3.below hb1 P3.lt
  replace PT := PT.below hb1 PT.lt
  clear hb1
  have R1 := Lib.hid hr1
  have R2 := Lib.hid hr2
  clear hr1 hr2
  have E1 : Below w1.heap.size w1 w1 := Below.refl _ _
  have t_P30 : (w1.alloc (.cells #[.bool m1, .slice A1 k1 e1, .bool m2, .slice A2 k2 e2] 26)).cell? ⟨q, 0, none⟩ = some ((.bool mo.neg)) := (P3.alloc _).c0
  have t_P31 : (w1.alloc (.cells #[.bool m1, .slice A1 k1 e1, .bool m2, .slice A2 k2 e2] 26)).cell? ⟨q, 1, none⟩ = some ((.slice mo.A mo.n mo.c)) := (P3.alloc _).c1
  go_wp2_with fail
  clear t_P30 t_P31
  obtain ⟨V1, hV1⟩ : ∃ V1 : World, V1 = (w1.alloc (.cells #[.bool m1, .slice A1 k1 e1, .bool m2, .slice A2 k2 e2] 26)) := ⟨_, rfl⟩
  have bV1 : Below w1.heap.size w1 V1 := by rw [hV1]; (repeat (first | with_reducible exact Below.refl _ _ | with_reducible refine Below.alloc ?_ (by first | (simp <;> omega) | omega) _))
  have zV1 : w1.heap.size + 1 ≤ V1.heap.size := by rw [hV1]; simp
  have PN : Bk4 V1 (w1.heap.size) (.bool m1) (.slice A1 k1 e1) (.bool m2) (.slice A2 k2 e2) := by rw [hV1]; exact (Bk4.newAt _ _ (by first | omega | (simp; done) | (simp; omega)) _ _ _ _ _)
  rw [← hV1]
  clear hV1
  replace E := E.trans (bV1.mono E.size)
  replace HA := HA.below bV1 (by omega)
  replace HC := HC.below bV1 (by omega)
  replace HB := HB.below bV1 (by omega)
  replace HD := HD.below bV1 (by omega)
  replace HT := HT.below bV1 (by omega)
  replace HM := HM.below bV1 (by omega)
  replace P1 := P1.below bV1 P1.lt
  replace P2 := P2.below bV1 P2.lt
  replace P3 := P3.below bV1 P3.lt
  replace PT := PT.below bV1 PT.lt
  replace hl1 := hl1.below bV1 (by omega)
  replace hl2 := hl2.below bV1 (by omega)
  clear bV1
  (with_reducible refine (cmp_i _ w1.heap.size m2 mo.neg A2 mo.A k2 mo.n e2 mo.c x2 mo.xs (da + zt * db) zm hl2 (HM.more (by omega)) (by omega) R2.out IM.out (by have := f2.out; omega) bm.out).mono ?_)
  rintro e w2 ⟨r, hcv, rfl, hb2⟩
  have sw2 := hb2.size
  replace E := E.trans (hb2.mono E.size)
  replace HA := HA.below hb2 (by omega)
  replace HC := HC.below hb2 (by omega)
  replace HB := HB.below hb2 (by omega)
  replace HD := HD.below hb2 (by omega)
  replace HT := HT.below hb2 (by omega)
  replace HM := HM.below hb2 (by omega)
  replace P1 := P1.below hb2 P1.lt
  replace P2 := P2.below hb2 P2.lt
  replace P3 := P3.below hb2 P3.lt
  replace PT := PT.below hb2 PT.lt
  replace hl1 := hl1.below hb2 (by omega)
  replace hl2 := hl2.below hb2 (by omega)
  replace PN := PN.below hb2 PN.lt
  clear hb2
  obtain rfl : r = 1 := cmpv_gt hcv hs.out
  clear hcv
  go_wp2_with fail
  obtain ⟨V2, hV2⟩ : ∃ V2 : World, V2 = (w2.alloc (.cells #[.int .i64 0, .int .i64 0] 28)) := ⟨_, rfl⟩
  have bV2 : Below w2.heap.size w2 V2 := by rw [hV2]; (repeat (first | with_reducible exact Below.refl _ _ | with_reducible refine Below.alloc ?_ (by first | (simp <;> omega) | omega) _))
  have zV2 : w2.heap.size + 1 ≤ V2.heap.size := by rw [hV2]; simp
  have PF : Bk2 V2 (w2.heap.size) (.int .i64 0) (.int .i64 0) := by rw [hV2]; exact (Bk2.newAt _ _ (by first | omega | (simp; done) | (simp; omega)) _ _ _)
  rw [← hV2]
  clear hV2
  replace E := E.trans (bV2.mono E.size)
  replace HA := HA.below bV2 (by omega)
  replace HC := HC.below bV2 (by omega)
  replace HB := HB.below bV2 (by omega)
  replace HD := HD.below bV2 (by omega)
  replace HT := HT.below bV2 (by omega)
  replace HM := HM.below bV2 (by omega)
  replace P1 := P1.below bV2 P1.lt
  replace P2 := P2.below bV2 P2.lt
  replace P3 := P3.below bV2 P3.lt
  replace PT := PT.below bV2 PT.lt
  replace hl1 := hl1.below bV2 (by omega)
  replace hl2 := hl2.below bV2 (by omega)
  replace PN := PN.below bV2 PN.lt
  clear bV2
  go_ret
  exact ⟨rfl, E⟩
set_option maxHeartbeats 8000000 in
theorem cv_go (w : World) (B g h q : Nat) (a b : RV) (t mo : IV) (na da nb db zt zm : Int) (H1 : a.at w B) (H2 : b.at w B) (H3 : t.at w B) (H4 : mo.at w B) (hB : B ≤ w.heap.size) (G1 : Rq w g a.num.neg a.num.A a.num.n a.num.c a.den.neg a.den.A a.den.n a.den.c) (G2 : Rq w h b.num.neg b.num.A b.num.n b.num.c b.den.neg b.den.A b.den.n b.den.c) (G3 : Bk2 w q (.bool mo.neg) (.slice mo.A mo.n mo.c)) (hgh : g ≠ h) (IA : Hid (IRep a.num.neg a.num.xs na)) (IC : Hid (IRep a.den.neg a.den.xs da)) (IB : Hid (IRep b.num.neg b.num.xs nb)) (ID : Hid (IRep b.den.neg b.den.xs db)) (IT : Hid (IRep t.neg t.xs zt)) (IM : Hid (IRep mo.neg mo.xs zm)) (b3 : Hid (nb.natAbs < Big)) (b4 : Hid (db.natAbs < Big)) (bt : Hid (zt.natAbs < Big)) (bm : Hid (zm.natAbs < Big)) (f1 : Hid (na.natAbs + (zt * nb).natAbs < Big)) (f2 : Hid (da.natAbs + (zt * db).natAbs < Big)) (hs : Hid ((da + zt * db).natAbs ≤ zm.natAbs)) :
    Calls Tryz.prog 123 #[t.v, .pointer (some ⟨g, 0, none⟩), .pointer (some ⟨h, 0, none⟩), .pointer (some ⟨q, 0, none⟩)] w (CvGo g h b (na + zt * nb) (da + zt * db) w) := by
  obtain ⟨HA, HC⟩ := H1
  obtain ⟨HB, HD⟩ := H2
  replace HA : LRd w B a.num.A a.num.n a.num.c a.num.xs := HA
  replace HC : LRd w B a.den.A a.den.n a.den.c a.den.xs := HC
  replace HB : LRd w B b.num.A b.num.n b.num.c b.num.xs := HB
  replace HD : LRd w B b.den.A b.den.n b.den.c b.den.xs := HD
  have HT : LRd w B t.A t.n t.c t.xs := H3
  have HM : LRd w B mo.A mo.n mo.c mo.xs := H4
  have E : Below w.heap.size w w := Below.refl _ _
  have P1 := G1.b4
  have P2 := G2.b4
  have P3 := G3
  have ltg := P1.lt
  have lth := P2.lt
  have ltq := P3.lt
  go_enter Tryz.func123, Tryz.ntmps123
  have t_P10 : (w.alloc (.cells #[.bool t.neg, .slice t.A t.n t.c] 24)).cell? ⟨g, 0, none⟩ = some ((.bool a.num.neg)) := (P1.alloc _).c0
  have t_P11 : (w.alloc (.cells #[.bool t.neg, .slice t.A t.n t.c] 24)).cell? ⟨g, 1, none⟩ = some ((.slice a.num.A a.num.n a.num.c)) := (P1.alloc _).c1
  have t_P12 : (w.alloc (.cells #[.bool t.neg, .slice t.A t.n t.c] 24)).cell? ⟨g, 2, none⟩ = some ((.bool a.den.neg)) := (P1.alloc _).c2
  have t_P13 : (w.alloc (.cells #[.bool t.neg, .slice t.A t.n t.c] 24)).cell? ⟨g, 3, none⟩ = some ((.slice a.den.A a.den.n a.den.c)) := (P1.alloc _).c3
  have t_P20 : (w.alloc (.cells #[.bool t.neg, .slice t.A t.n t.c] 24)).cell? ⟨h, 0, none⟩ = some ((.bool b.num.neg)) := (P2.alloc _).c0
  have t_P21 : (w.alloc (.cells #[.bool t.neg, .slice t.A t.n t.c] 24)).cell? ⟨h, 1, none⟩ = some ((.slice b.num.A b.num.n b.num.c)) := (P2.alloc _).c1
  have t_P22 : (w.alloc (.cells #[.bool t.neg, .slice t.A t.n t.c] 24)).cell? ⟨h, 2, none⟩ = some ((.bool b.den.neg)) := (P2.alloc _).c2
  have t_P23 : (w.alloc (.cells #[.bool t.neg, .slice t.A t.n t.c] 24)).cell? ⟨h, 3, none⟩ = some ((.slice b.den.A b.den.n b.den.c)) := (P2.alloc _).c3
  go_wp2_with fail
  clear t_P10 t_P11 t_P12 t_P13 t_P20 t_P21 t_P22 t_P23
  obtain ⟨V0, hV0⟩ : ∃ V0 : World, V0 = (w.alloc (.cells #[.bool t.neg, .slice t.A t.n t.c] 24)) := ⟨_, rfl⟩
  have bV0 : Below w.heap.size w V0 := by rw [hV0]; (repeat (first | with_reducible exact Below.refl _ _ | with_reducible refine Below.alloc ?_ (by first | (simp <;> omega) | omega) _))
  have zV0 : w.heap.size + 1 ≤ V0.heap.size := by rw [hV0]; simp
  have PT : Bk2 V0 (w.heap.size) (.bool t.neg) (.slice t.A t.n t.c) := by rw [hV0]; exact (Bk2.newAt _ _ (by first | omega | (simp; done) | (simp; omega)) _ _ _)
  rw [← hV0]
  clear hV0
  replace E := E.trans (bV0.mono E.size)
  replace HA := HA.below bV0 (by omega)
  replace HC := HC.below bV0 (by omega)
  replace HB := HB.below bV0 (by omega)
  replace HD := HD.below bV0 (by omega)
  replace HT := HT.below bV0 (by omega)
  replace HM := HM.below bV0 (by omega)
  replace P1 := P1.below bV0 P1.lt
  replace P2 := P2.below bV0 P2.lt
  replace P3 := P3.below bV0 P3.lt
  clear bV0
  (with_reducible refine (further_any _ B a b t na da nb db zt (rv_at HA HC) (rv_at HB HD) (iv_at HT) (by omega) IA IC IB ID IT b3 b4 bt f1 f2).mono ?_)
  rintro e w1 ⟨m1, A1, k1, e1, x1, m2, A2, k2, e2, x2, rfl, hl1, hl2, hr1, hr2, hb1⟩
  have sw1 := hb1.size
  replace E := E.trans (hb1.mono E.size)
  replace HA := HA.below hb1 (by omega)
  replace HC := HC.below hb1 (by omega)
  replace HB := HB.below hb1 (by omega)
  replace HD := HD.below hb1 (by omega)
  replace HT := HT.below hb1 (by omega)
  replace HM := HM.below hb1 (by omega)
  replace P1 := P1.below hb1 P1.lt
  replace P2 := P2.below hb1 P2.lt
  replace P3 := P3.below hb1 P3.lt
  replace PT := PT.below hb1 PT.lt
  clear hb1
  have R1 := Lib.hid hr1
  have R2 := Lib.hid hr2
  clear hr1 hr2
  have E1 : Below w1.heap.size w1 w1 := Below.refl _ _
  have t_P30 : (w1.alloc (.cells #[.bool m1, .slice A1 k1 e1, .bool m2, .slice A2 k2 e2] 26)).cell? ⟨q, 0, none⟩ = some ((.bool mo.neg)) := (P3.alloc _).c0
  have t_P31 : (w1.alloc (.cells #[.bool m1, .slice A1 k1 e1, .bool m2, .slice A2 k2 e2] 26)).cell? ⟨q, 1, none⟩ = some ((.slice mo.A mo.n mo.c)) := (P3.alloc _).c1
  go_wp2_with fail
  clear t_P30 t_P31
  obtain ⟨V1, hV1⟩ : ∃ V1 : World, V1 = (w1.alloc (.cells #[.bool m1, .slice A1 k1 e1, .bool m2, .slice A2 k2 e2] 26)) := ⟨_, rfl⟩
  have bV1 : Below w1.heap.size w1 V1 := by rw [hV1]; (repeat (first | with_reducible exact Below.refl _ _ | with_reducible refine Below.alloc ?_ (by first | (simp <;> omega) | omega) _))
  have zV1 : w1.heap.size + 1 ≤ V1.heap.size := by rw [hV1]; simp
  have PN : Bk4 V1 (w1.heap.size) (.bool m1) (.slice A1 k1 e1) (.bool m2) (.slice A2 k2 e2) := by rw [hV1]; exact (Bk4.newAt _ _ (by first | omega | (simp; done) | (simp; omega)) _ _ _ _ _)
  rw [← hV1]
  clear hV1
  replace E := E.trans (bV1.mono E.size)
  replace HA := HA.below bV1 (by omega)
  replace HC := HC.below bV1 (by omega)
  replace HB := HB.below bV1 (by omega)
  replace HD := HD.below bV1 (by omega)
  replace HT := HT.below bV1 (by omega)
  replace HM := HM.below bV1 (by omega)
  replace P1 := P1.below bV1 P1.lt
  replace P2 := P2.below bV1 P2.lt
  replace P3 := P3.below bV1 P3.lt
  replace PT := PT.below bV1 PT.lt
  replace hl1 := hl1.below bV1 (by omega)
  replace hl2 := hl2.below bV1 (by omega)
  clear bV1
  (with_reducible refine (cmp_i _ w1.heap.size m2 mo.neg A2 mo.A k2 mo.n e2 mo.c x2 mo.xs (da + zt * db) zm hl2 (HM.more (by omega)) (by omega) R2.out IM.out (by have := f2.out; omega) bm.out).mono ?_)
  rintro e w2 ⟨r, hcv, rfl, hb2⟩
  have sw2 := hb2.size
  replace E := E.trans (hb2.mono E.size)
  replace HA := HA.below hb2 (by omega)
  replace HC := HC.below hb2 (by omega)
  replace HB := HB.below hb2 (by omega)
  replace HD := HD.below hb2 (by omega)
  replace HT := HT.below hb2 (by omega)
  replace HM := HM.below hb2 (by omega)
  replace P1 := P1.below hb2 P1.lt
  replace P2 := P2.below hb2 P2.lt
  replace P3 := P3.below hb2 P3.lt
  replace PT := PT.below hb2 PT.lt
  replace hl1 := hl1.below hb2 (by omega)
  replace hl2 := hl2.below hb2 (by omega)
  replace PN := PN.below hb2 PN.lt
  clear hb2
  rcases cmpv_le hcv hs.out with rfl | rfl
  all_goals clear hcv
  all_goals
    go_upto_region 5 with fail
    obtain ⟨V2, hV2⟩ : ∃ V2 : World, V2 = (w2.alloc (.cells #[.int .i64 0, .int .i64 0] 28)) := ⟨_, rfl⟩
    have bV2 : Below w2.heap.size w2 V2 := by rw [hV2]; (repeat (first | with_reducible exact Below.refl _ _ | with_reducible refine Below.alloc ?_ (by first | (simp <;> omega) | omega) _))
    have zV2 : w2.heap.size + 1 ≤ V2.heap.size := by rw [hV2]; simp
    have PF : Bk2 V2 (w2.heap.size) (.int .i64 0) (.int .i64 0) := by rw [hV2]; exact (Bk2.newAt _ _ (by first | omega | (simp; done) | (simp; omega)) _ _ _)
    rw [← hV2]
    clear hV2
    replace E := E.trans (bV2.mono E.size)
    replace HA := HA.below bV2 (by omega)
    replace HC := HC.below bV2 (by omega)
    replace HB := HB.below bV2 (by omega)
    replace HD := HD.below bV2 (by omega)
    replace HT := HT.below bV2 (by omega)
    replace HM := HM.below bV2 (by omega)
    replace P1 := P1.below bV2 P1.lt
    replace P2 := P2.below bV2 P2.lt
    replace P3 := P3.below bV2 P3.lt
    replace PT := PT.below bV2 PT.lt
    replace hl1 := hl1.below bV2 (by omega)
    replace hl2 := hl2.below bV2 (by omega)
    replace PN := PN.below bV2 PN.lt
    clear bV2
    have Q1 : Rq V2 g _ _ _ _ _ _ _ _ := Row.below G1 E ltg
    have Q2 : Rq V2 h _ _ _ _ _ _ _ _ := Row.below G2 E lth
    have ltN := PN.lt
    have KW : Kp2 g h w V2 := Kp2.of E (Nat.le_refl _)
    obtain ⟨d0, d1, d2, d3, y0, y1, y2, y3, lt1⟩ := P1
    obtain ⟨e0, e1', e2', e3, v0, v1, v2, v3, lt2⟩ := P2
    obtain ⟨n0, n1, n2, n3, _, _, _, _, lt3⟩ := PN
    have hne := hgh
    have hne' : h ≠ g := fun e => hgh e.symm
    clear hgh
    go_region
    go_wp2_with fail
    all_goals go_ret
    all_goals (with_reducible refine CvGo.mk Q1 Q2 hne hl1 hl2 R1.out R2.out KW (by omega) ?_)
    all_goals rfl
theorem top4_big : Top128 * Top128 * Top128 * Top128 ≤ Big := by
  obtain ⟨m, hm⟩ : ∃ m, m = 128 := ⟨_, rfl⟩
  obtain ⟨k, hk⟩ : ∃ k, k = 600 := ⟨_, rfl⟩
  rw [top128 hm, big_pow hk, ← Nat.pow_add, ← Nat.pow_add, ← Nat.pow_add]
  exact Nat.pow_le_pow_right (by decide) (by omega)
theorem top_ge4 : 4 ≤ Top128 := Nat.le_of_lt (lt_top (by decide))
theorem floor_ediv {n d q r : Int} (h : FloorOf n d q r) (hd : 0 < d) : q = n / d ∧ r = n % d := by
  have h1 : FloorOf n d (n / d) (n % d) := ⟨by have := Int.mul_ediv_add_emod n d; rw [Int.mul_comm] at this; omega, .inl ⟨Int.emod_nonneg _ (by omega), Int.emod_lt_of_pos _ hd⟩⟩
  exact h.uniq h1
def Ex0 (w : World) (x : RV) (s4 s5 : Value) (wx : World) : Prop :=
  ∃ pn pd, s4 = .pointer (some ⟨pn, 0, none⟩) ∧ s5 = .pointer (some ⟨pd, 0, none⟩) ∧ Bk2 wx pn (.bool x.num.neg) (.slice x.num.A x.num.n x.num.c) ∧ Bk2 wx pd (.bool x.den.neg) (.slice x.den.A x.den.n x.den.c) ∧ w.heap.size ≤ pn ∧ w.heap.size ≤ pd ∧ pn ≠ pd ∧ Below w.heap.size w wx
def CvRow (w : World) (g : Nat) (a : RV) : Prop := Rq w g a.num.neg a.num.A a.num.n a.num.c a.den.neg a.den.A a.den.n a.den.c
/-- The state of the loop. -/
structure ExSt (w : World) (g h pn pd : Nat) (n0 d0 zm : Int) (k : Nat) (wr : World) (nv dv : IV) (a b : RV) (n d p0 q0 p1 q1 : Int) : Prop where
  PN : Bk2 wr pn (.bool nv.neg) (.slice nv.A nv.n nv.c)
  PD : Bk2 wr pd (.bool dv.neg) (.slice dv.A dv.n dv.c)
  G1 : CvRow wr g a
  G2 : CvRow wr h b
  HN : LRd wr wr.heap.size nv.A nv.n nv.c nv.xs
  HD : LRd wr wr.heap.size dv.A dv.n dv.c dv.xs
  HA : a.at wr wr.heap.size
  HB : b.at wr wr.heap.size
  rn : IRep nv.neg nv.xs n
  rd : IRep dv.neg dv.xs d
  r0 : IRep a.num.neg a.num.xs p0
  r1 : IRep a.den.neg a.den.xs q0
  r2 : IRep b.num.neg b.num.xs p1
  r3 : IRep b.den.neg b.den.xs q1
  cv : CvI n0 d0 zm k n d p0 q0 p1 q1
  kp : Kp2 g h w wr
def ExRel (w : World) (g h pn pd : Nat) (n0 d0 zm : Int) (k : Nat) (wr : World) : Prop := ∃ nv dv a b n d p0 q0 p1 q1, ExSt w g h pn pd n0 d0 zm k wr nv dv a b n d p0 q0 p1 q1
/-- What is left of expand. -/
def ExPost (g h : Nat) (n0 d0 zm : Int) (w : World) (e : Ending) (w' : World) : Prop :=
  ∃ a b n d p0 q0 p1 q1, e = .returned (.tuple #[]) ∧ CvRow w' g a ∧ CvRow w' h b ∧ a.at w' w'.heap.size ∧ b.at w' w'.heap.size ∧ IRep a.num.neg a.num.xs p0 ∧ IRep a.den.neg a.den.xs q0 ∧ IRep b.num.neg b.num.xs p1 ∧ IRep b.den.neg b.den.xs q1 ∧ CvE n0 d0 zm n d p0 q0 p1 q1 ∧ Kp2 g h w w'
theorem RV.at.upto {w w' : World} {r : RV} (h : r.at w w.heap.size) (hb : Below w.heap.size w w') : r.at w' w'.heap.size := ⟨(LRd.below h.1 hb (Nat.le_refl _)).more hb.size, (LRd.below h.2 hb (Nat.le_refl _)).more hb.size⟩
theorem ex_next {w u : World} {g h pn pd k : Nat} {n0 d0 zm n d p0 q0 p1 q1 : Int} {u1 u2 v1 v2 : Value} {nv dv : IV} {a b : RV} (PN : Bk2 u pn u1 u2) (PD : Bk2 u pd v1 v2) (hu1 : ∀ x, u1 ≠ .int .u32 x) (hu2 : ∀ x, u2 ≠ .int .u32 x) (hv1 : ∀ x, v1 ≠ .int .u32 x) (hv2 : ∀ x, v2 ≠ .int .u32 x) (hne : pn ≠ pd) (hpn : w.heap.size ≤ pn) (hpd : w.heap.size ≤ pd) (hg : g < w.heap.size) (hh : h < w.heap.size)
    (G1 : CvRow u g a) (G2 : CvRow u h b) (HN : LRd u u.heap.size nv.A nv.n nv.c nv.xs) (HD : LRd u u.heap.size dv.A dv.n dv.c dv.xs) (HA : a.at u u.heap.size) (HB : b.at u u.heap.size) (rn : IRep nv.neg nv.xs n) (rd : IRep dv.neg dv.xs d) (r0 : IRep a.num.neg a.num.xs p0) (r1 : IRep a.den.neg a.den.xs q0) (r2 : IRep b.num.neg b.num.xs p1) (r3 : IRep b.den.neg b.den.xs q1) (cv : CvI n0 d0 zm k n d p0 q0 p1 q1) (kp : Kp2 g h w u) :
    ExRel w g h pn pd n0 d0 zm k ((((u.drew.setCell ⟨pn, 0, none⟩ (.bool nv.neg)).setCell ⟨pn, 1, none⟩ (.slice nv.A nv.n nv.c)).setCell ⟨pd, 0, none⟩ (.bool dv.neg)).setCell ⟨pd, 1, none⟩ (.slice dv.A dv.n dv.c)) := by
  have P := PN.drew
  have D := PD.drew
  have P' := P.set (.bool nv.neg) (.slice nv.A nv.n nv.c)
  have D' := D.far2 hne (.bool nv.neg) (.slice nv.A nv.n nv.c)
  have L : ∀ {A n c xs}, LRd u u.heap.size A n c xs → LRd ((((u.drew.setCell ⟨pn, 0, none⟩ (.bool nv.neg)).setCell ⟨pn, 1, none⟩ (.slice nv.A nv.n nv.c)).setCell ⟨pd, 0, none⟩ (.bool dv.neg)).setCell ⟨pd, 1, none⟩ (.slice dv.A dv.n dv.c)) _ A n c xs := fun H => ((H.drew.setB P hu1 hu2 _ _).setB D' hv1 hv2 _ _).more (B' := ((((u.drew.setCell ⟨pn, 0, none⟩ (.bool nv.neg)).setCell ⟨pn, 1, none⟩ (.slice nv.A nv.n nv.c)).setCell ⟨pd, 0, none⟩ (.bool dv.neg)).setCell ⟨pd, 1, none⟩ (.slice dv.A dv.n dv.c)).heap.size) (by simp [World.setCell])
  have R : ∀ {k t cs}, k < w.heap.size → Row u k t cs → Row ((((u.drew.setCell ⟨pn, 0, none⟩ (.bool nv.neg)).setCell ⟨pn, 1, none⟩ (.slice nv.A nv.n nv.c)).setCell ⟨pd, 0, none⟩ (.bool dv.neg)).setCell ⟨pd, 1, none⟩ (.slice dv.A dv.n dv.c)) k t cs := fun {k t cs} hk H => (((Row.far (Row.drewE H) (p := ⟨pn, 0, none⟩) (by show k ≠ pn; omega) _).far (p := ⟨pn, 1, none⟩) (by show k ≠ pn; omega) _).far (p := ⟨pd, 0, none⟩) (by show k ≠ pd; omega) _).far (p := ⟨pd, 1, none⟩) (by show k ≠ pd; omega) _
  exact ⟨nv, dv, a, b, n, d, p0, q0, p1, q1, ⟨P'.far2 (Ne.symm hne) _ _, D'.set _ _, R hg G1, R hh G2, L HN, L HD, ⟨L HA.1, L HA.2⟩, ⟨L HB.1, L HB.2⟩, rn, rd, r0, r1, r2, r3, cv,
    (((kp.drew.set (p := ⟨pn, 0, none⟩) (.inr (.inr hpn)) _).set (p := ⟨pn, 1, none⟩) (.inr (.inr hpn)) _).set (p := ⟨pd, 0, none⟩) (.inr (.inr hpd)) _).set (p := ⟨pd, 1, none⟩) (.inr (.inr hpd)) _⟩⟩
theorem ex0_a {w V : World} {x : RV} (bV : Below w.heap.size w V) : Ex0 w x (.pointer (some ⟨V.heap.size, 0, none⟩)) (.pointer (some ⟨V.heap.size + 1, 0, none⟩)) ((V.alloc (.cells #[.bool x.num.neg, .slice x.num.A x.num.n x.num.c] 24)).alloc (.cells #[.bool x.den.neg, .slice x.den.A x.den.n x.den.c] 24)).drew :=
  ⟨_, _, rfl, rfl, ((Bk2.newAt V V.heap.size rfl _ _ _).alloc _).drew, (Bk2.newAt _ _ (by simp) _ _ _).drew, bV.size, by have := bV.size; omega, by omega, ((bV.alloc (by have := bV.size; simpa using this) _).alloc (by have := bV.size; simp; omega) _).drew⟩
theorem ex0_b {w V : World} {x : RV} (bV : Below w.heap.size w V) : Ex0 w x (.pointer (some ⟨V.heap.size + 1, 0, none⟩)) (.pointer (some ⟨V.heap.size, 0, none⟩)) ((V.alloc (.cells #[.bool x.den.neg, .slice x.den.A x.den.n x.den.c] 24)).alloc (.cells #[.bool x.num.neg, .slice x.num.A x.num.n x.num.c] 24)).drew :=
  ⟨_, _, rfl, rfl, (Bk2.newAt _ _ (by simp) _ _ _).drew, ((Bk2.newAt V V.heap.size rfl _ _ _).alloc _).drew, by have := bV.size; omega, bV.size, by omega, ((bV.alloc (by have := bV.size; simpa using this) _).alloc (by have := bV.size; simp; omega) _).drew⟩
set_option maxHeartbeats 8000000 in
theorem expand_cv (w : World) (B g h q : Nat) (x a0 b0 : RV) (mo : IV) (n0 d0 zm : Int) (H1 : x.at w B) (H2 : a0.at w B) (H3 : b0.at w B) (HMo : LRd w B mo.A mo.n mo.c mo.xs) (hB : B ≤ w.heap.size) (G01 : CvRow w g a0) (G02 : CvRow w h b0) (HQ : Bk2 w q (.bool mo.neg) (.slice mo.A mo.n mo.c)) (hgh : g ≠ h) (hqg : q ≠ g) (hqh : q ≠ h)
    (IX : IRep x.num.neg x.num.xs n0) (IY : IRep x.den.neg x.den.xs d0) (I0 : IRep a0.num.neg a0.num.xs 0) (I1 : IRep a0.den.neg a0.den.xs 1) (I2 : IRep b0.num.neg b0.num.xs 1) (I3 : IRep b0.den.neg b0.den.xs 0) (IMo : Hid (IRep mo.neg mo.xs zm)) (hd0 : 1 ≤ d0) (hm1 : 1 ≤ zm) (bn : n0.natAbs < Top128) (bd : d0.natAbs < Top128) (bmo : zm.natAbs < Top128) :
    Calls Tryz.prog 81 #[x.v, .func (Fn.func 123) #[] #[.pointer (some ⟨g, 0, none⟩), .pointer (some ⟨h, 0, none⟩), .pointer (some ⟨q, 0, none⟩)]] w (ExPost g h n0 d0 zm w) := by
  have HI := Lib.hid (And.intro IX (And.intro IY (And.intro I0 (And.intro I1 (And.intro I2 I3)))))
  have HB4 := Lib.hid (And.intro bn (And.intro bd bmo))
  have bm : Hid (zm.natAbs < Big) := by have h1 := top4_big; have h2 := (poly_lt top_ge4).2; have h3 := Nat.le_mul_self Top128; exact Nat.lt_of_lt_of_le bmo (Nat.le_trans h3 (Nat.le_trans (Nat.le_of_lt h2) h1))
  clear IX IY I0 I1 I2 I3 bn bd bmo
  obtain ⟨HX, HY⟩ := H1
  replace HX : LRd w B x.num.A x.num.n x.num.c x.num.xs := HX
  replace HY : LRd w B x.den.A x.den.n x.den.c x.den.xs := HY
  have ltg := Row.lt G01
  have lth := Row.lt G02
  have ltq := HQ.lt
  have HGH := Lib.hid (And.intro hgh (And.intro hqg hqh))
  clear hgh hqg hqh
  go_enter Tryz.func81, Tryz.ntmps81
  go_upto_region 1 with fail
  obtain ⟨V, hV⟩ : ∃ V : World, V = w.alloc (.cells #[.bool x.num.neg, .slice x.num.A x.num.n x.num.c, .bool x.den.neg, .slice x.den.A x.den.n x.den.c] 26) := ⟨_, rfl⟩
  have bV : Below w.heap.size w V := by rw [hV]; exact bl1 _ _
  have PX : Bk4 V w.heap.size (.bool x.num.neg) (.slice x.num.A x.num.n x.num.c) (.bool x.den.neg) (.slice x.den.A x.den.n x.den.c) := by rw [hV]; exact Bk4.newAt _ _ rfl _ _ _ _ _
  have zV := bV.size
  rw [← hV]
  clear hV
  go_cut [4, 5] (fun s4 s5 wx => Ex0 w x s4 s5 wx)
  case first =>
    have ltx := PX.lt
    obtain ⟨_, _, _, _, _, _, _, _, _⟩ := PX
    go_region
    all_goals (go_wp2_with fail)
    all_goals go_meet
    all_goals first
      | with_reducible exact ex0_a bV
      | with_reducible exact ex0_b bV
      | (trace_state; fail)
  case rest =>
    obtain ⟨pn, pd, rfl, rfl, PN0, PD0, hpn, hpd, hnd, hbX⟩ := hcut
    obtain ⟨W0, hW0⟩ : ∃ y : World, y = wc := ⟨_, rfl⟩
    subst hW0
    have zW := hbX.size
    have HND := Lib.hid hnd
    clear hnd PX bV zV
    go_wp2_with fail
    go_loopg [] (d0.toNat + 1) (fun k wr => ExRel w g h pn pd n0 d0 zm k wr)
    case atStart =>
      obtain ⟨IX, IY, I0, I1, I2, I3⟩ := HI.out
      exact ⟨x.num, x.den, a0, b0, n0, d0, 0, 1, 1, 0, ⟨PN0, PD0, Row.below G01 hbX ltg, Row.below G02 hbX lth, (HX.below hbX hB).more (by omega), (HY.below hbX hB).more (by omega), ⟨(LRd.below H2.1 hbX hB).more (by omega), (LRd.below H2.2 hbX hB).more (by omega)⟩, ⟨(LRd.below H3.1 hbX hB).more (by omega), (LRd.below H3.2 hbX hB).more (by omega)⟩, IX, IY, I0, I1, I2, I3, CvI.start hd0 hm1, Kp2.of hbX (Nat.le_refl _)⟩⟩
    case round =>
      clear PN0 PD0 hbX zW HX HY
      obtain ⟨nv, dv, a, b, n, d, p0, q0, p1, q1, S0⟩ := hrel
      have hpl := S0.PN.lt
      have hdl := S0.PD.lt
      have PN := S0.PN
      have PD := S0.PD
      have HN := S0.HN
      have HD := S0.HD
      by_cases hd : d = 0
      · subst hd
        have SS := Lib.hid S0
        have hz : decide (dv.n = 0) = true := by have h1 := (IRep.len0 S0.rd).2 rfl; have h2 := S0.HD.len.out; rw [decide_eq_true_eq]; omega
        clear S0
        have E : Below wr.heap.size wr wr := Below.refl _ _
        have t_PD0 := PD.c0
        have t_PD1 := PD.c1
        go_wp2_with fail
        clear t_PD0 t_PD1
        (with_reducible refine (isZero_any _ dv.neg dv.A dv.n dv.c (by have := HD.cap; omega)).mono ?_)
        rintro e w1 ⟨rfl, hb1⟩
        have sw1 := hb1.size
        replace E := E.trans (hb1.mono E.size)
        replace PN := PN.below hb1 PN.lt
        replace PD := PD.below hb1 PD.lt
        replace HN := HN.below hb1 (by omega)
        replace HD := HD.below hb1 (by omega)
        clear hb1
        rw [hz]
        clear hz
        go_wp2_with fail
        go_end0
        have S := SS.out
        have cv := S.cv
        exact ⟨a, b, n, 0, p0, q0, p1, q1, rfl, Row.below S.G1 E (Row.lt S.G1), Row.below S.G2 E (Row.lt S.G2), S.HA.upto E, S.HB.upto E, S.r0, S.r1, S.r2, S.r3, cv.end0 hd0, S.kp.trans (Kp2.of E (Nat.le_refl _))⟩
      · have SS := Lib.hid S0
        have hz : decide (dv.n = 0) = false := by have h1 : dv.xs.length ≠ 0 := fun h => hd ((IRep.len0 S0.rd).1 h); have h2 := S0.HD.len.out; rw [decide_eq_false_iff_not]; omega
        have hk0 : 0 < dv.n := by have h1 : dv.xs.length ≠ 0 := fun h => hd ((IRep.len0 S0.rd).1 h); have h2 := S0.HD.len.out; omega
        have HDZ := Lib.hid hd
        have hdpos := Lib.hid (show 0 < d by have := S0.cv.dp; omega)
        have on := Lib.hid (show nv.ok = true from S0.rn.iok (by have := S0.cv.nb; have := HB4.out; omega))
        have od := Lib.hid (show dv.ok = true from S0.rd.iok (by have := S0.cv.dp; have := S0.cv.dd; have := HB4.out; omega))
        have hvn := Lib.hid (show nv.val = n from S0.rn.ival (A := nv.A) (n := nv.n) (c := nv.c))
        have hvd := Lib.hid (show dv.val = d from S0.rd.ival (A := dv.A) (n := dv.n) (c := dv.c))
        clear S0 hd
        have E : Below wr.heap.size wr wr := Below.refl _ _
        have t_PD0 := PD.c0
        have t_PD1 := PD.c1
        go_wp2_with fail
        clear t_PD0 t_PD1
        (with_reducible refine (isZero_any _ dv.neg dv.A dv.n dv.c (by have := HD.cap; omega)).mono ?_)
        rintro e w1 ⟨rfl, hb1⟩
        have sw1 := hb1.size
        replace E := E.trans (hb1.mono E.size)
        replace PN := PN.below hb1 PN.lt
        replace PD := PD.below hb1 PD.lt
        replace HN := HN.below hb1 (by omega)
        replace HD := HD.below hb1 (by omega)
        clear hb1
        rw [hz]
        clear hz
        have t_PN0 := PN.c0
        have t_PN1 := PN.c1
        have t_PD0 := PD.c0
        have t_PD1 := PD.c1
        go_wp2_with fail
        clear t_PN0 t_PN1 t_PD0 t_PD1
        (with_reducible refine (idivmod_ok _ wr.heap.size nv dv (iv_at HN) (iv_at HD) (by omega) on.out od.out (by omega)).mono ?_)
        rintro e w2 ⟨t, r, hfl, m1, A1, k1, e1, x1, m2, A2, k2, e2, x2, rfl, hl1, hr1, hl2, hr2, hb2⟩
        have sw2 := hb2.size
        replace E := E.trans (hb2.mono E.size)
        replace PN := PN.below hb2 PN.lt
        replace PD := PD.below hb2 PD.lt
        replace HN := HN.below hb2 (by omega)
        replace HD := HD.below hb2 (by omega)
        clear hb2
        rw [hvn.out, hvd.out] at hfl
        obtain ⟨rfl, rfl⟩ := floor_ediv hfl hdpos.out
        have RT := Lib.hid hr1
        have RR := Lib.hid hr2
        clear hr1 hr2 hfl
        go_wp2_with fail
        obtain ⟨V2, hV2⟩ : ∃ V2 : World, V2 = (((w2.alloc (.cells #[.bool m1, .slice A1 k1 e1] 24)).alloc (.cells #[.bool m2, .slice A2 k2 e2] 24)).alloc (.cells #[.int .i64 0, .int .i64 0] 28)) := ⟨_, rfl⟩
        have bV2 : Below w2.heap.size w2 V2 := by rw [hV2]; (repeat (first | with_reducible exact Below.refl _ _ | with_reducible refine Below.alloc ?_ (by first | (simp <;> omega) | omega) _))
        have zV2 : w2.heap.size + 3 ≤ V2.heap.size := by rw [hV2]; simp
        have T1 : Bk2 V2 (w2.heap.size) (.bool m1) (.slice A1 k1 e1) := by rw [hV2]; exact (((Bk2.newAt _ _ (by first | omega | (simp; done) | (simp; omega)) _ _ _).alloc _).alloc _)
        have T2 : Bk2 V2 (w2.heap.size + 1) (.bool m2) (.slice A2 k2 e2) := by rw [hV2]; exact ((Bk2.newAt _ _ (by first | omega | (simp; done) | (simp; omega)) _ _ _).alloc _)
        have T3 : Bk2 V2 (w2.heap.size + 2) (.int .i64 0) (.int .i64 0) := by rw [hV2]; exact (Bk2.newAt _ _ (by first | omega | (simp; done) | (simp; omega)) _ _ _)
        rw [← hV2]
        clear hV2
        replace E := E.trans (bV2.mono E.size)
        replace PN := PN.below bV2 PN.lt
        replace PD := PD.below bV2 PD.lt
        replace HN := HN.below bV2 (by omega)
        replace HD := HD.below bV2 (by omega)
        replace hl1 := hl1.below bV2 (by omega)
        replace hl2 := hl2.below bV2 (by omega)
        clear bV2
        have T1' : LRd V2 V2.heap.size A1 k1 e1 x1 := hl1.more (by omega)
        clear hl1
        have hqg := HGH.out.2.1
        have hqh := HGH.out.2.2
        have hgh := HGH.out.1
        have S := SS.out
        have G1 : Rq V2 g _ _ _ _ _ _ _ _ := Row.below S.G1 E (Row.lt S.G1)
        have G2 : Rq V2 h _ _ _ _ _ _ _ _ := Row.below S.G2 E (Row.lt S.G2)
        have GM : Bk2 V2 q (.bool mo.neg) (.slice mo.A mo.n mo.c) := (S.kp.b2 HQ hqg hqh).below E ((S.kp.b2 HQ hqg hqh).lt)
        have HM : mo.at V2 V2.heap.size := (((HMo.kp2 hB S.kp (Rq.no G01) (Rq.no G02)).more (Nat.le_trans hB S.kp.size)).below E (Nat.le_refl _)).more E.size
        have A1' := S.HA.upto E
        have B1' := S.HB.upto E
        have FB := S.cv.fur hd0 (Nat.le_of_lt HB4.out.1) (Nat.le_of_lt HB4.out.2.1) (Nat.le_of_lt HB4.out.2.2) top_ge4
        have fb1 := Lib.hid (Nat.lt_of_lt_of_le FB.1 top4_big)
        have fb2 := Lib.hid (Nat.lt_of_lt_of_le FB.2.1 top4_big)
        have fb3 := Lib.hid (Nat.lt_of_lt_of_le FB.2.2.1 top4_big)
        have fb4 := Lib.hid (Nat.lt_of_lt_of_le FB.2.2.2.1 top4_big)
        have fb5 := Lib.hid (Nat.lt_of_lt_of_le FB.2.2.2.2 top4_big)
        have hps := S.cv.pos HDZ.out hd0
        clear FB
        by_cases hm : zm < q0 + n / d * q1
        · have hs : zm.natAbs < (q0 + n / d * q1).natAbs := by omega
          (with_reducible refine (cv_stop _ _ g h q a b (IV.mk m1 A1 k1 e1 x1) mo p0 q0 p1 q1 (n / d) zm A1' B1' (iv_at T1') HM (Nat.le_refl _) G1 G2 GM hgh (Lib.hid S.r0) (Lib.hid S.r1) (Lib.hid S.r2) (Lib.hid S.r3) RT IMo fb1 fb2 fb3 bm fb4 fb5 (Lib.hid hs)).mono ?_)
          rintro e w4 ⟨rfl, hb4⟩
          have HM2 := Lib.hid hm
          clear hm hs hps
          have E4 : Below wr.heap.size wr w4 := E.trans (hb4.mono E.size)
          go_wp2_with fail
          go_end0
          exact ⟨a, b, n, d, p0, q0, p1, q1, rfl, Row.below S.G1 E4 (Row.lt S.G1), Row.below S.G2 E4 (Row.lt S.G2), S.HA.upto E4, S.HB.upto E4, S.r0, S.r1, S.r2, S.r3, S.cv.end1 hd0 hm1 HDZ.out HM2.out, S.kp.trans (Kp2.of E4 (Nat.le_refl _))⟩
        · have hs : (q0 + n / d * q1).natAbs ≤ zm.natAbs := by omega
          have HM2 := Lib.hid (show q0 + n / d * q1 ≤ zm by omega)
          (with_reducible refine (cv_go _ _ g h q a b (IV.mk m1 A1 k1 e1 x1) mo p0 q0 p1 q1 (n / d) zm A1' B1' (iv_at T1') HM (Nat.le_refl _) G1 G2 GM hgh (Lib.hid S.r0) (Lib.hid S.r1) (Lib.hid S.r2) (Lib.hid S.r3) RT IMo fb1 fb2 fb3 bm fb4 fb5 (Lib.hid hs)).mono ?_)
          rintro e w4 ⟨m3, A3, k3, c3, x3, m4, A4, k4, c4, x4, rfl, Q1, Q2, l3, l4, i3, i4, kp4⟩
          clear hm hs hps
          obtain ⟨k, rfl⟩ : ∃ k, gk = k + 1 := ⟨gk - 1, by have := S.cv.fl; have := S.cv.dp; omega⟩
          have PN4 := kp4.b2 PN (by omega) (by omega)
          have PD4 := kp4.b2 PD (by omega) (by omega)
          have T24 := kp4.b2 T2 (by have := S.kp.size; omega) (by have := S.kp.size; omega)
          have L5 := (hl2.more (by omega)).kp2 (Nat.le_refl _) kp4 (Rq.no G1) (Rq.no G2)
          have L6 := (HD.more (by omega)).kp2 (Nat.le_refl _) kp4 (Rq.no G1) (Rq.no G2)
          have kpE : Kp2 g h w w4 := (S.kp.trans (Kp2.of E (Nat.le_refl _))).trans kp4
          have HE := Lib.hid (fun (u : World) (hu : u = w4) => hu)
          have BB := S.HB.upto E
          have B5 : b.at w4 w4.heap.size := ⟨(LRd.kp2 BB.1 (Nat.le_refl _) kp4 (Rq.no G1) (Rq.no G2)).more kp4.size, (LRd.kp2 BB.2 (Nat.le_refl _) kp4 (Rq.no G1) (Rq.no G2)).more kp4.size⟩
          have hnd := HND.out
          have hdn : pd ≠ pn := fun e => hnd e.symm
          have CN := S.cv.next HDZ.out hd0 HM2.out
          have s4 := kp4.size
          have FIN := fun (u1 u2 v1 v2 : Value) (p1' : Bk2 w4 pn u1 u2) (p2' : Bk2 w4 pd v1 v2) (y1 : ∀ x, u1 ≠ .int .u32 x) (y2 : ∀ x, u2 ≠ .int .u32 x) (y3 : ∀ x, v1 ≠ .int .u32 x) (y4 : ∀ x, v2 ≠ .int .u32 x) => ex_next (w := w) (g := g) (h := h) (nv := dv) (dv := ⟨m2, A2, k2, e2, x2⟩) (a := b) (b := ⟨⟨m3, A3, k3, c3, x3⟩, ⟨m4, A4, k4, c4, x4⟩⟩) p1' p2' y1 y2 y3 y4 hnd hpn hpd ltg lth Q1 Q2 (L6.more s4) (L5.more s4) B5 ⟨l3, l4⟩ S.rd RR.out S.r2 S.r3 i3 i4 CN kpE
          have FIN2 := Lib.hid (FIN _ _ _ _ PN4 PD4 (by simp) (by simp) (by simp) (by simp))
          clear FIN CN HE BB S G1 G2 A1' B1' GM HM Q1 Q2
          have hq1 : ¬ pn = w2.heap.size + 1 := by omega
          have hq2 : ¬ pd = w2.heap.size + 1 := by omega
          go_upto_region 5 with fail
          obtain ⟨_, _, _, _, _⟩ := PN4
          obtain ⟨_, _, _, _, _⟩ := PD4
          obtain ⟨_, _, _, _, _⟩ := T24
          go_region
          go_wp2_with fail
          all_goals go_roundg k
          case rel => exact FIN2.out
          case measure => omega
theorem Kp2.b4 {g h : Nat} {w w' : World} (x : Kp2 g h w w') {k : Nat} {u v s t : Value} (q : Bk4 w k u v s t) (hg : k ≠ g) (hh : k ≠ h) : Bk4 w' k u v s t :=
  ⟨(x.cell (p := ⟨k, 0, none⟩) q.lt hg hh).trans q.c0, (x.cell (p := ⟨k, 1, none⟩) q.lt hg hh).trans q.c1, (x.cell (p := ⟨k, 2, none⟩) q.lt hg hh).trans q.c2, (x.cell (p := ⟨k, 3, none⟩) q.lt hg hh).trans q.c3,
   (x.frozen (p := ⟨k, 0, none⟩) q.lt hg hh).trans q.z0, (x.frozen (p := ⟨k, 1, none⟩) q.lt hg hh).trans q.z1, (x.frozen (p := ⟨k, 2, none⟩) q.lt hg hh).trans q.z2, (x.frozen (p := ⟨k, 3, none⟩) q.lt hg hh).trans q.z3, by have := x.size; have := q.lt; omega⟩
theorem cvrow_mk {w : World} {g : Nat} (a : RV) (h : Rq w g a.num.neg a.num.A a.num.n a.num.c a.den.neg a.den.A a.den.n a.den.c) : CvRow w g a := h
/-- The last two convergents. -/
def GivesCv (n0 d0 zm : Int) (w : World) (e : Ending) (w' : World) : Prop :=
  ∃ (a b : RV) (n d p0 q0 p1 q1 : Int), e = .returned (.tuple #[a.v, b.v]) ∧ a.at w' w'.heap.size ∧ b.at w' w'.heap.size ∧ IRep a.num.neg a.num.xs p0 ∧ IRep a.den.neg a.den.xs q0 ∧ IRep b.num.neg b.num.xs p1 ∧ IRep b.den.neg b.den.xs q1 ∧ CvE n0 d0 zm n d p0 q0 p1 q1 ∧ Below w.heap.size w w'
set_option maxHeartbeats 8000000 in
theorem convergents_any (w : World) (B : Nat) (x : RV) (mo : IV) (n0 d0 zm : Int) (H1 : x.at w B) (H2 : mo.at w B) (hB : B ≤ w.heap.size) (IX : Hid (IRep x.num.neg x.num.xs n0)) (IY : Hid (IRep x.den.neg x.den.xs d0)) (IM : Hid (IRep mo.neg mo.xs zm)) (hd0 : 1 ≤ d0) (hm1 : 1 ≤ zm) (HBD : Hid (n0.natAbs < Top128 ∧ d0.natAbs < Top128 ∧ zm.natAbs < Top128)) :
    Calls Tryz.prog 90 #[x.v, mo.v] w (GivesCv n0 d0 zm w) := by
  obtain ⟨HX, HY⟩ := H1
  replace HX : LRd w B x.num.A x.num.n x.num.c x.num.xs := HX
  replace HY : LRd w B x.den.A x.den.n x.den.c x.den.xs := HY
  have HM : LRd w B mo.A mo.n mo.c mo.xs := H2
  have E : Below w.heap.size w w := Below.refl _ _
  go_enter Tryz.func90, Tryz.ntmps90
  go_wp2_with fail
  obtain ⟨V0, hV0⟩ : ∃ V0 : World, V0 = ((((w.alloc (.cells #[.bool x.num.neg, .slice x.num.A x.num.n x.num.c, .bool x.den.neg, .slice x.den.A x.den.n x.den.c] 26)).alloc (.cells #[.bool mo.neg, .slice mo.A mo.n mo.c] 24)).alloc (.cells #[.bool false, .slice none 0 0, .bool false, .slice none 0 0] 26)).alloc (.cells #[.bool false, .slice none 0 0, .bool false, .slice none 0 0] 26)) := ⟨_, rfl⟩
  have bV0 : Below w.heap.size w V0 := by rw [hV0]; (repeat (first | with_reducible exact Below.refl _ _ | with_reducible refine Below.alloc ?_ (by first | (simp <;> omega) | omega) _))
  have zV0 : w.heap.size + 4 ≤ V0.heap.size := by rw [hV0]; simp
  have PX : Bk4 V0 (w.heap.size) (.bool x.num.neg) (.slice x.num.A x.num.n x.num.c) (.bool x.den.neg) (.slice x.den.A x.den.n x.den.c) := by rw [hV0]; exact ((((Bk4.newAt _ _ (by first | omega | (simp; done) | (simp; omega)) _ _ _ _ _).alloc _).alloc _).alloc _)
  have PM : Bk2 V0 (w.heap.size + 1) (.bool mo.neg) (.slice mo.A mo.n mo.c) := by rw [hV0]; exact (((Bk2.newAt _ _ (by first | omega | (simp; done) | (simp; omega)) _ _ _).alloc _).alloc _)
  have R1 : Bk4 V0 (w.heap.size + 2) (.bool false) (.slice none 0 0) (.bool false) (.slice none 0 0) := by rw [hV0]; exact ((Bk4.newAt _ _ (by first | omega | (simp; done) | (simp; omega)) _ _ _ _ _).alloc _)
  have R2 : Bk4 V0 (w.heap.size + 3) (.bool false) (.slice none 0 0) (.bool false) (.slice none 0 0) := by rw [hV0]; exact (Bk4.newAt _ _ (by first | omega | (simp; done) | (simp; omega)) _ _ _ _ _)
  rw [← hV0]
  clear hV0
  replace E := E.trans (bV0.mono E.size)
  replace HX := HX.below bV0 (by omega)
  replace HY := HY.below bV0 (by omega)
  replace HM := HM.below bV0 (by omega)
  clear bV0
  (with_reducible refine (iof_any _ 1 (by decide) (by decide)).mono ?_)
  rintro e w1 ⟨m1, A1, k1, c1, x1, rfl, hl1, hr1, hb1⟩
  have sw1 := hb1.size
  replace E := E.trans (hb1.mono E.size)
  replace HX := HX.below hb1 (by omega)
  replace HY := HY.below hb1 (by omega)
  replace HM := HM.below hb1 (by omega)
  replace PX := PX.below hb1 PX.lt
  replace PM := PM.below hb1 PM.lt
  replace R1 := R1.below hb1 R1.lt
  replace R2 := R2.below hb1 R2.lt
  clear hb1
  have I1 := Lib.hid hr1
  clear hr1
  go_wp2_with fail
  (with_reducible refine (iof_any _ 1 (by decide) (by decide)).mono ?_)
  rintro e w2 ⟨m2, A2, k2, c2, x2, rfl, hl2, hr2, hb2⟩
  have sw2 := hb2.size
  replace E := E.trans (hb2.mono E.size)
  replace HX := HX.below hb2 (by omega)
  replace HY := HY.below hb2 (by omega)
  replace HM := HM.below hb2 (by omega)
  replace PX := PX.below hb2 PX.lt
  replace PM := PM.below hb2 PM.lt
  replace R1 := R1.below hb2 R1.lt
  replace R2 := R2.below hb2 R2.lt
  replace hl1 := hl1.below hb2 (by omega)
  clear hb2
  have I2 := Lib.hid hr2
  clear hr2
  have t_PX0 : ((w2.alloc (.cells #[.bool false, .slice none 0 0, .bool m1, .slice A1 k1 c1] 26)).alloc (.cells #[.bool m2, .slice A2 k2 c2, .bool false, .slice none 0 0] 26)).cell? ⟨w.heap.size, 0, none⟩ = some ((.bool x.num.neg)) := ((PX.alloc _).alloc _).c0
  have t_PX1 : ((w2.alloc (.cells #[.bool false, .slice none 0 0, .bool m1, .slice A1 k1 c1] 26)).alloc (.cells #[.bool m2, .slice A2 k2 c2, .bool false, .slice none 0 0] 26)).cell? ⟨w.heap.size, 1, none⟩ = some ((.slice x.num.A x.num.n x.num.c)) := ((PX.alloc _).alloc _).c1
  have t_PX2 : ((w2.alloc (.cells #[.bool false, .slice none 0 0, .bool m1, .slice A1 k1 c1] 26)).alloc (.cells #[.bool m2, .slice A2 k2 c2, .bool false, .slice none 0 0] 26)).cell? ⟨w.heap.size, 2, none⟩ = some ((.bool x.den.neg)) := ((PX.alloc _).alloc _).c2
  have t_PX3 : ((w2.alloc (.cells #[.bool false, .slice none 0 0, .bool m1, .slice A1 k1 c1] 26)).alloc (.cells #[.bool m2, .slice A2 k2 c2, .bool false, .slice none 0 0] 26)).cell? ⟨w.heap.size, 3, none⟩ = some ((.slice x.den.A x.den.n x.den.c)) := ((PX.alloc _).alloc _).c3
  go_wp2_with fail
  clear t_PX0 t_PX1 t_PX2 t_PX3
  obtain ⟨V2, hV2⟩ : ∃ V2 : World, V2 = ((w2.alloc (.cells #[.bool false, .slice none 0 0, .bool m1, .slice A1 k1 c1] 26)).alloc (.cells #[.bool m2, .slice A2 k2 c2, .bool false, .slice none 0 0] 26)) := ⟨_, rfl⟩
  have bV2 : Below w2.heap.size w2 V2 := by rw [hV2]; (repeat (first | with_reducible exact Below.refl _ _ | with_reducible refine Below.alloc ?_ (by first | (simp <;> omega) | omega) _))
  have zV2 : w2.heap.size + 2 ≤ V2.heap.size := by rw [hV2]; simp
  have P6 : Bk4 V2 (w2.heap.size) (.bool false) (.slice none 0 0) (.bool m1) (.slice A1 k1 c1) := by rw [hV2]; exact ((Bk4.newAt _ _ (by first | omega | (simp; done) | (simp; omega)) _ _ _ _ _).alloc _)
  have P7 : Bk4 V2 (w2.heap.size + 1) (.bool m2) (.slice A2 k2 c2) (.bool false) (.slice none 0 0) := by rw [hV2]; exact (Bk4.newAt _ _ (by first | omega | (simp; done) | (simp; omega)) _ _ _ _ _)
  have G1 : Rq V2 w2.heap.size false none 0 0 m1 A1 k1 c1 := by rw [hV2]; exact Row.alloc (Rq.new _ rfl _ _ _ _ _ _ _ _) _
  have G2 : Rq V2 (w2.heap.size + 1) m2 A2 k2 c2 false none 0 0 := by rw [hV2]; exact Rq.new _ (by simp) _ _ _ _ _ _ _ _
  rw [← hV2]
  clear hV2
  replace E := E.trans (bV2.mono E.size)
  replace HX := HX.below bV2 (by omega)
  replace HY := HY.below bV2 (by omega)
  replace HM := HM.below bV2 (by omega)
  replace PX := PX.below bV2 PX.lt
  replace PM := PM.below bV2 PM.lt
  replace R1 := R1.below bV2 R1.lt
  replace R2 := R2.below bV2 R2.lt
  replace hl1 := hl1.below bV2 (by omega)
  replace hl2 := hl2.below bV2 (by omega)
  clear bV2
  have NL := fun (u : World) => nil_lrd u
  (with_reducible refine (expand_cv V2 V2.heap.size w2.heap.size (w2.heap.size + 1) (w.heap.size + 1) x ⟨⟨false, none, 0, 0, []⟩, ⟨m1, A1, k1, c1, x1⟩⟩ ⟨⟨m2, A2, k2, c2, x2⟩, ⟨false, none, 0, 0, []⟩⟩ mo n0 d0 zm (rv_at (HX.more (by omega)) (HY.more (by omega))) (rv_at (NL _) (hl1.more (by omega))) (rv_at (hl2.more (by omega)) (NL _)) (HM.more (by omega)) (Nat.le_refl _) (cvrow_mk ⟨⟨false, none, 0, 0, []⟩, ⟨m1, A1, k1, c1, x1⟩⟩ G1) (cvrow_mk ⟨⟨m2, A2, k2, c2, x2⟩, ⟨false, none, 0, 0, []⟩⟩ G2) PM (by omega) (by omega) (by omega) IX.out IY.out IRep.zero I1.out I2.out IRep.zero IM hd0 hm1 HBD.out.1 HBD.out.2.1 HBD.out.2.2).mono ?_)
  rintro e w3 ⟨a, b, n, d, p0, q0, p1, q1, rfl, Q1, Q2, HA, HB, i0, i1, i2, i3, cve, kp⟩
  have s3 := kp.size
  have E3 : Below w.heap.size w w3 := E.trans (kp.below (by omega) (by omega) (by omega))
  have R13 := kp.b4 R1 (by omega) (by omega)
  have R23 := kp.b4 R2 (by omega) (by omega)
  have HH := Lib.hid (And.intro i0 (And.intro i1 (And.intro i2 i3)))
  have CE := Lib.hid cve
  have B1 := Q1.b4
  have B2 := Q2.b4
  have lr1 := R13.lt
  have lr2 := R23.lt
  have n1 : ¬ w.heap.size + 2 = w2.heap.size := by omega
  have n2 : ¬ w.heap.size + 3 = w2.heap.size := by omega
  have n3 : ¬ w.heap.size + 2 = w2.heap.size + 1 := by omega
  have n4 : ¬ w.heap.size + 3 = w2.heap.size + 1 := by omega
  clear i0 i1 i2 i3 cve kp E HX HY HM PX PM R1 R2 P6 P7 G1 G2 NL hl1 hl2
  go_upto_region 3 with fail
  obtain ⟨_, _, _, _, _, _, _, _, _⟩ := B1
  obtain ⟨_, _, _, _, _, _, _, _, _⟩ := B2
  have R13' := R13
  have R23' := R23
  obtain ⟨_, _, _, _, _, _, _, _, _⟩ := R13
  obtain ⟨_, _, _, _, _, _, _, _, _⟩ := R23
  go_region
  go_wp2_with fail
  rw [show w.heap.size + 1 + 1 = w.heap.size + 2 from rfl, show w.heap.size + 2 + 1 = w.heap.size + 3 from rfl]
  have S1 := R13'.set (.bool a.num.neg) (.slice a.num.A a.num.n a.num.c) (.bool a.den.neg) (.slice a.den.A a.den.n a.den.c)
  have T2 := R23'.far4 (show w.heap.size + 2 ≠ w.heap.size + 3 by omega) (.bool a.num.neg) (.slice a.num.A a.num.n a.num.c) (.bool a.den.neg) (.slice a.den.A a.den.n a.den.c)
  have S2 := T2.set (.bool b.num.neg) (.slice b.num.A b.num.n b.num.c) (.bool b.den.neg) (.slice b.den.A b.den.n b.den.c)
  have S1' := S1.far4 (show w.heap.size + 3 ≠ w.heap.size + 2 by omega) (.bool b.num.neg) (.slice b.num.A b.num.n b.num.c) (.bool b.den.neg) (.slice b.den.A b.den.n b.den.c)
  have L : ∀ {A n c xs}, LRd w3 w3.heap.size A n c xs → LRd (World.set4 (World.set4 w3 (w.heap.size + 2) (.bool a.num.neg) (.slice a.num.A a.num.n a.num.c) (.bool a.den.neg) (.slice a.den.A a.den.n a.den.c)) (w.heap.size + 3) (.bool b.num.neg) (.slice b.num.A b.num.n b.num.c) (.bool b.den.neg) (.slice b.den.A b.den.n b.den.c)) _ A n c xs := fun H => ((H.set4 R13' (by simp) (by simp) (by simp) (by simp) _ _ _ _).set4 T2 (by simp) (by simp) (by simp) (by simp) _ _ _ _).more (B' := (World.set4 (World.set4 w3 (w.heap.size + 2) (.bool a.num.neg) (.slice a.num.A a.num.n a.num.c) (.bool a.den.neg) (.slice a.den.A a.den.n a.den.c)) (w.heap.size + 3) (.bool b.num.neg) (.slice b.num.A b.num.n b.num.c) (.bool b.den.neg) (.slice b.den.A b.den.n b.den.c)).heap.size) (by simp [World.setCell])
  obtain ⟨U, hU⟩ : ∃ U : World, U = ((((((((w3.setCell ⟨w.heap.size + 2, 0, none⟩ (.bool a.num.neg)).setCell ⟨w.heap.size + 2, 1, none⟩ (.slice a.num.A a.num.n a.num.c)).setCell ⟨w.heap.size + 2, 2, none⟩ (.bool a.den.neg)).setCell ⟨w.heap.size + 2, 3, none⟩ (.slice a.den.A a.den.n a.den.c)).setCell ⟨w.heap.size + 3, 0, none⟩ (.bool b.num.neg)).setCell ⟨w.heap.size + 3, 1, none⟩ (.slice b.num.A b.num.n b.num.c)).setCell ⟨w.heap.size + 3, 2, none⟩ (.bool b.den.neg)).setCell ⟨w.heap.size + 3, 3, none⟩ (.slice b.den.A b.den.n b.den.c)) := ⟨_, rfl⟩
  have EU : Below w.heap.size w U := by rw [hU]; (repeat (first | with_reducible exact E3 | with_reducible refine Below.setCell ?_ (by first | (simp <;> omega) | omega) _))
  have S2U : Bk4 U (w.heap.size + 3) (.bool b.num.neg) (.slice b.num.A b.num.n b.num.c) (.bool b.den.neg) (.slice b.den.A b.den.n b.den.c) := by rw [hU]; exact S2
  have S1U : Bk4 U (w.heap.size + 2) (.bool a.num.neg) (.slice a.num.A a.num.n a.num.c) (.bool a.den.neg) (.slice a.den.A a.den.n a.den.c) := by rw [hU]; exact S1'
  have LU : ∀ {A n c xs}, LRd w3 w3.heap.size A n c xs → LRd U U.heap.size A n c xs := fun H => by rw [hU]; exact L H
  rw [← hU]
  clear S2 S1' L
  clear hU
  obtain ⟨r0, r1, r2, r3, _, _, _, _, _⟩ := S1U.drew
  obtain ⟨t0, t1, t2, t3, _, _, _, _, _⟩ := S2U.drew
  obtain ⟨i0, i1, i2, i3⟩ := HH.out
  refine bodyPost_ret (v := .tuple #[a.v, b.v]) (by simp [results, Tryz.results90, go_sem, r0, r1, r2, r3, t0, t1, t2, t3]) rfl ⟨a, b, n, d, p0, q0, p1, q1, rfl, rv_at (LU HA.1).drew (LU HA.2).drew, rv_at (LU HB.1).drew (LU HB.2).drew, i0, i1, i2, i3, CE.out, EU.drew⟩
end Go.Proofs.YtfgkhdpdjclmkaaGreat
