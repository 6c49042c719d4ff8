/- NaturalArithmetic: the law, where both arguments are valid. -/
import Derived.Test.YtjkogajdpkbjeaaLawA1
namespace Go.Proofs.Ytjkogajdpkbjeaa
open Go.RowKit
set_option maxHeartbeats 400000
set_option maxRecDepth 100000
set_option linter.unusedSimpArgs false
set_option linter.unusedVariables false

theorem cmp_rep {b n m p q : Nat} {xs ys : List Nat} {r : Int} (hb : 1 < b) (h : CmpIs n m xs ys r) (hx : xs.length = n) (hy : ys.length = m) (rx : Rep b xs p) (ry : Rep b ys q) : CmpV p q r := by
  have hb0 : 0 < b := by omega
  rw [← rx.val, ← ry.val]
  unfold CmpV
  rcases h.one with e | e | e
  · left; refine ⟨e, ?_⟩
    rcases h.less e with h1 | ⟨h1, k, h2, h3, h4⟩
    · exact vb_less_len hb0 rx.dig ry.top (by omega)
    · have := S_less (b := b) (f := fun i => xs.getD i 0) (g := fun i => ys.getD i 0) hb0 h2 (fun j _ => Dig.at_ rx.dig hb0 j) h3 h4
      unfold vb; rw [hx, hy, ← h1]; exact this
  · right; left; refine ⟨e, ?_⟩
    obtain ⟨h1, h2⟩ := h.same e
    unfold vb; rw [hx, hy, ← h1]; exact S_ext h2
  · right; right; refine ⟨e, ?_⟩
    rcases h.more e with h1 | ⟨h1, k, h2, h3, h4⟩
    · exact vb_less_len hb0 ry.dig rx.top (by omega)
    · have := S_less (b := b) (f := fun i => ys.getD i 0) (g := fun i => xs.getD i 0) hb0 h2 (fun j _ => Dig.at_ ry.dig hb0 j) h3 h4
      unfold vb; rw [hx, hy, ← h1]; exact this
theorem CmpV.unique {p q : Nat} {r s : Int} (h : CmpV p q r) (k : CmpV p q s) : r = s := by unfold CmpV at h k; omega
/-- What Add and Mul give. -/
def IsB (p v : Nat) (u1 u2 : Int) : Prop := (p < Big ∧ v = p ∧ u1 = 0 ∧ u2 = 0) ∨ (Big ≤ p ∧ v = 0 ∧ u1 = 14 ∧ u2 = -1)
def GivesU (w : World) (p : Nat) (e : Ending) (w' : World) : Prop := ∃ v u1 u2, IsB p v u1 u2 ∧ GivesF w v u1 u2 e w'
theorem GivesB.u {w : World} {p : Nat} {e : Ending} {w' : World} (h : GivesB w p e w') : GivesU w p e w' := by
  rcases h with ⟨h1, h2⟩ | ⟨h1, h2⟩
  · exact ⟨p, 0, 0, .inl ⟨h1, rfl, rfl, rfl⟩, h2⟩
  · exact ⟨0, 14, -1, .inr ⟨h1, rfl, rfl, rfl⟩, h2⟩
theorem valid_t (w : World) (B : Nat) (A : Option Addr) (n c : Nat) (xs : List Nat) (h : LRd w B A n c xs) (hx : vld xs = true) : Calls Try.prog 14 #[.slice A n c] w fun e w' => e = .returned (.bool true) ∧ w = w' :=
  (valid_any w B A n c xs h).mono fun e w' hg => by rw [hx] at hg; exact hg
theorem nok_t (w : World) (B : Nat) (A : Option Addr) (n c : Nat) (xs : List Nat) (h : LRd w B A n c xs) (hx : vld xs = true) : Calls Try.prog 15 #[.slice A n c] w fun e w' => e = .returned (.bool true) ∧ w = w' :=
  (naturalOk_any w B A n c xs h).mono fun e w' hg => by rw [hx] at hg; exact hg
theorem is_u (w : World) (B : Nat) (A D : Option Addr) (n m c d p v : Nat) (u1 u2 : Int) (xs ws : List Nat) (h : LRd w B A n c xs) (k : DRd w B D m d ws) (hB : B ≤ w.heap.size) (hx : Rep 4294967296 xs v) (hw : Rep 65536 ws p) (hu : IsB p v u1 u2) :
    Calls Try.prog 19 #[.slice A n c, flt u1 u2, .slice D m d, flt 0 0] w fun e w' => e = .returned (.bool true) ∧ Below w.heap.size w w' := by
  rcases hu with ⟨h1, rfl, rfl, rfl⟩ | ⟨h1, rfl, rfl, rfl⟩
  · exact is_fit w B A D n m c d v xs ws h k hB hx hw h1
  · obtain rfl := nil_len hx h.len.out
    exact is_big w B A D m c d p ws k hB hw h1
theorem vld_lt {xs : List Nat} (hl : Lim xs) (hx : vld xs = true) : vb 4294967296 xs < Big := fit_len ⟨hl, rfl, (vld_top hx).1⟩ rfl (vld_top hx).2
theorem DRd.drew {w : World} {B n c : Nat} {A : Option Addr} {xs : List Nat} (h : DRd w B A n c xs) : DRd w.drew B A n c xs := h.keep fun _ _ => rfl
theorem s_next {B : Nat} {W v v' : World} (h : Below B W v) (hb : Below v.heap.size v v') (hB : B ≤ W.heap.size) : Below B W v' := h.trans (hb.mono (by have := h.size; omega))
section
variable (w : World) (B : Nat) (A D : Option Addr) (n m c d p q : Nat) (xs ys : List Nat) (h : LRd w B A n c xs) (k : LRd w B D m d ys) (hB : B ≤ w.heap.size) (hx : vld xs = true) (hy : vld ys = true) (hp : vb 4294967296 xs = p) (hq : vb 4294967296 ys = q)
include h k hB hx hy hp hq
theorem add_fit (hs : p + q < Big) : Calls Try.prog 9 #[.slice A n c, .slice D m d] w (GivesF w (p + q) 0 0) :=
  (add_ok w B A D n m c d xs ys h k hB hx hy).mono fun e w' hg => by
    rw [hp, hq] at hg
    rcases hg with ⟨_, h2⟩ | ⟨h1, _⟩
    · exact h2
    · omega
theorem add_big (hs : Big ≤ p + q) : Calls Try.prog 9 #[.slice A n c, .slice D m d] w (GivesF w 0 14 (-1)) :=
  (add_ok w B A D n m c d xs ys h k hB hx hy).mono fun e w' hg => by
    rw [hp, hq] at hg
    rcases hg with ⟨h1, _⟩ | ⟨_, h2⟩
    · omega
    · exact h2
theorem sub_ge (hs : q ≤ p) : Calls Try.prog 10 #[.slice A n c, .slice D m d] w (GivesF w (p - q) 0 0) :=
  (sub_ok w B A D n m c d xs ys h k hB hx hy).mono fun e w' hg => by
    rw [hp, hq] at hg
    rcases hg with ⟨_, h2⟩ | ⟨h1, _⟩
    · exact h2
    · omega
theorem sub_lt (hs : p < q) : Calls Try.prog 10 #[.slice A n c, .slice D m d] w (GivesF w 0 4 (-2)) :=
  (sub_ok w B A D n m c d xs ys h k hB hx hy).mono fun e w' hg => by
    rw [hp, hq] at hg
    rcases hg with ⟨h1, _⟩ | ⟨_, h2⟩
    · omega
    · exact h2
theorem mul_u : Calls Try.prog 11 #[.slice A n c, .slice D m d] w (GivesU w (p * q)) :=
  (mul_ok w B A D n m c d xs ys h k hB hx hy).mono fun e w' hg => by
    rw [hp, hq] at hg; exact hg.u
theorem cmp_v : Calls Try.prog 12 #[.slice A n c, .slice D m d] w (CmpFPost p q w) :=
  (cmp_ok w B A D n m c d xs ys h k hB hx hy).mono fun e w' hg => by
    rw [hp, hq] at hg; exact hg
end
theorem r14_at {W v : World} {g1 g2 g3 : Nat} {a b c d e f : Int} (P1 : FC W g1 a b) (P2 : FC W g2 c d) (P3 : FC W g3 e f) (h : Below W.heap.size W v) :
    Below W.heap.size W v ∧ v.cell? ⟨g1, 0, none⟩ = some (.int .i64 a) ∧ v.cell? ⟨g1, 1, none⟩ = some (.int .i64 b) ∧ v.cell? ⟨g2, 0, none⟩ = some (.int .i64 c) ∧ v.cell? ⟨g2, 1, none⟩ = some (.int .i64 d) ∧ v.cell? ⟨g3, 0, none⟩ = some (.int .i64 e) ∧ v.cell? ⟨g3, 1, none⟩ = some (.int .i64 f) := by
  have Q1 := P1.below h P1.lt
  have Q2 := P2.below h P2.lt
  have Q3 := P3.below h P3.lt
  exact ⟨h, Q1.c0, Q1.c1, Q2.c0, Q2.c1, Q3.c0, Q3.c1⟩
theorem r14_next {W v v' : World} {g1 g2 g3 : Nat} {a b c d e f : Int} (P1 : FC W g1 a b) (P2 : FC W g2 c d) (P3 : FC W g3 e f) (h : Below W.heap.size W v) (hb : Below v.heap.size v v') :
    Below W.heap.size W v' ∧ v'.cell? ⟨g1, 0, none⟩ = some (.int .i64 a) ∧ v'.cell? ⟨g1, 1, none⟩ = some (.int .i64 b) ∧ v'.cell? ⟨g2, 0, none⟩ = some (.int .i64 c) ∧ v'.cell? ⟨g2, 1, none⟩ = some (.int .i64 d) ∧ v'.cell? ⟨g3, 0, none⟩ = some (.int .i64 e) ∧ v'.cell? ⟨g3, 1, none⟩ = some (.int .i64 f) :=
  r14_at P1 P2 P3 (s_next h hb (Nat.le_refl _))
theorem le_at {W v : World} {B : Nat} (hz : W.heap.size = B) (h : Below W.heap.size W v) : B ≤ v.heap.size := by have := h.size; omega
theorem l_at {W v : World} {B n c : Nat} {A : Option Addr} {xs : List Nat} (hl : LRd W B A n c xs) (h : Below W.heap.size W v) (hB : B ≤ W.heap.size) : LRd v v.heap.size A n c xs := (hl.below h hB).more (by have := h.size; omega)
theorem r6_next {W v v' : World} {g1 g2 B : Nat} {a b c d : Int} (hB : W.heap.size = B) (P1 : FC W g1 a b) (P2 : FC W g2 c d) (h : Below B W v) (hb : Below v.heap.size v v') :
    Below B W v' ∧ v'.cell? ⟨g1, 0, none⟩ = some (.int .i64 a) ∧ v'.cell? ⟨g1, 1, none⟩ = some (.int .i64 b) ∧ v'.cell? ⟨g2, 0, none⟩ = some (.int .i64 c) ∧ v'.cell? ⟨g2, 1, none⟩ = some (.int .i64 d) := by
  subst hB
  have h' := s_next h hb (Nat.le_refl _)
  have Q1 := P1.below h' P1.lt
  have Q2 := P2.below h' P2.lt
  exact ⟨h', Q1.c0, Q1.c1, Q2.c0, Q2.c1⟩
end Go.Proofs.Ytjkogajdpkbjeaa
