/- The closures that Pow and PowMod hand to power. -/
import Derived.Test.YtflmcgoijofpdaaGreatAInt24
import Derived.Test.YtflmcgoijofpdaaGreatAc
import Derived.Test.YtflmcgoijofpdaaGreatAAri1
import Derived.Deep.RegionHeld3
namespace Go.Proofs.YtflmcgoijofpdaaGreat
open Go.RowKit
set_option maxHeartbeats 400000
set_option maxRecDepth 100000
set_option linter.unusedSimpArgs false
set_option linter.unusedVariables false

theorem LRd.grownX {w w' : World} {B g n c : Nat} {A : Option Addr} {t : TypeId} {b : Bool} {xs : List Nat} (h : LRd w B A n c xs) (hB : B ≤ w.heap.size) (hr : Row w g t [.bool b]) (hg : w.grownBy w' (some g)) : LRd w' B A n c xs := by
  refine ⟨h.len, h.cap, h.lim, fun hn => ?_⟩
  obtain ⟨b0, off, e, hb, hc⟩ := h.rd hn
  refine ⟨b0, off, e, hb, fun j hj => ?_⟩
  have h1 := hc j hj
  by_cases hbg : b0 = g
  · subst hbg
    rw [Row.cell hr] at h1
    rcases hk : off + j with _ | k
    · rw [hk] at h1; cases h1
    · rw [hk] at h1; simp at h1
  · rw [← h1]
    exact World.cell?_of_block (w := w) (hg.block b0 (by omega) (fun e => hbg (by injection e)))
theorem grown_below {w w' : World} {g : Nat} (h : Below w.heap.size w w') : w.grownBy w' (some g) := ⟨h.os, h.tape, h.output, h.size, fun k hk _ => h.block k hk⟩
theorem grown_trans {a b c : World} {g : Nat} (h : a.grownBy b (some g)) (k : b.grownBy c (some g)) : a.grownBy c (some g) :=
  ⟨k.os.trans h.os, k.tape.trans h.tape, k.output.trans h.output, Nat.le_trans h.size k.size, fun i hi hn => (k.block i (Nat.lt_of_lt_of_le hi h.size) hn).trans (h.block i hi hn)⟩
theorem grownX_set {a w : World} {g j : Nat} (h : a.grownBy w (some g)) (u : Value) : a.grownBy (w.setCell ⟨g, j, none⟩ u) (some g) :=
  ⟨h.os, h.tape, h.output, by simp [World.setCell]; exact h.size, fun i hi hn => (Below.heap_setCell w _ u i (fun e => hn (by rw [e]))).trans (h.block i hi hn)⟩
def PmPost (g p q : Nat) (fl : Bool) (w : World) (e : Ending) (w' : World) : Prop :=
  ∃ A k c zs v f2, e = .returned (.slice A k c) ∧ LRd w' w'.heap.size A k c zs ∧ Rep 4294967296 zs v ∧ k ≤ 128 ∧ Row w' g 4 [.bool f2] ∧ w.grownBy w' (some g) ∧
    ((p * q < Top128 ∧ v = p * q ∧ f2 = fl) ∨ (Top128 ≤ p * q ∧ v = 0 ∧ f2 = true))
theorem rep_vld1 {zs : List Nat} {v k : Nat} (h : Rep 4294967296 zs v) (hl : zs.length = k) (hk : k ≤ 128) : vld zs = true := rep_v128 h (lt128 h hl hk)
set_option maxHeartbeats 4000000 in
theorem pmul_any (w : World) (B g : Nat) (A D : Option Addr) (n m c d p q : Nat) (fl : Bool) (xs ys : List Nat) (h : LRd w B A n c xs) (k : LRd w B D m d ys) (hB : B ≤ w.heap.size) (hx : Rep 4294967296 xs p) (hy : Rep 4294967296 ys q) (hn : n ≤ 128) (hm : m ≤ 128) (hg : Row w g 4 [.bool fl]) :
    Calls Tryz.prog 110 #[.slice A n c, .slice D m d, .pointer (some ⟨g, 0, none⟩)] w (PmPost g p q fl w) := by
  have hlt := Row.lt hg
  have HN := Lib.hid (big_mul (lt128 hx h.len.out hn) (lt128 hy k.len.out hm))
  go_enter Tryz.func110, Tryz.ntmps110
  go_wp2_with fail
  refine (mul_ok w B A D n m c d xs ys h k hB (rep_vld1 hx h.len.out hn) (rep_vld1 hy k.len.out hm)).mono ?_
  rintro e w1 hgb
  rw [hx.val, hy.val] at hgb
  obtain ⟨R, l, r, zs, rfl, hl, hr, hb1⟩ := hgb.elim (fun h => h.2) (fun h => absurd HN.out (Nat.not_lt_of_le h.1))
  clear hgb
  have R1 : Row w1 g 4 [.bool fl] := Row.below hg hb1 hlt
  have hl1 := hl.cap
  have HR := Lib.hid hr
  have sz := hb1.size
  clear hr HN
  by_cases hk : 128 < l
  · have hc := ge128 HR.out hl.len.out hk
    have y0 : (w1.alloc (.cells #[.int .i64 0, .int .i64 0] 28)).cell? ⟨g, 0, none⟩ = some (.bool fl) := Row.cell (Row.alloc R1 _) 0
    have z0 : (w1.alloc (.cells #[.int .i64 0, .int .i64 0] 28)).frozen? ⟨g, 0, none⟩ = false := Row.frozen (Row.alloc R1 _) 0
    go_wp2_with fail
    go_ret
    refine ⟨none, 0, 0, [], 0, true, rfl, ⟨rfl, by omega, (by intro x hx; cases hx), fun h0 => absurd h0 (by omega)⟩, nil_rep, by omega, ?_, ?_, .inr ⟨hc, rfl, rfl⟩⟩
    · exact Row.set_ (Row.alloc R1 _) 0 _
    · exact grownX_set (grown_below (hb1.alloc (by omega) _)) _
  · have hc := lt128 HR.out hl.len.out (by omega)
    go_wp2_with fail
    go_ret
    exact ⟨R, l, r, zs, _, fl, rfl, (hl.alloc (Nat.le_refl _) _).more (by simp), HR.out, by omega, Row.alloc R1 _, grown_below (hb1.alloc (by omega) _), .inl ⟨hc, rfl, rfl⟩⟩
end Go.Proofs.YtflmcgoijofpdaaGreat
