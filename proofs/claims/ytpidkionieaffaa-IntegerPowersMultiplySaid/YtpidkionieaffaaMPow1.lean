/- The closures that Pow and PowMod hand to power. -/
import Derived.Test.YtpidkionieaffaaMInt24
import Derived.Test.YtpidkionieaffaaMc
import Derived.Test.YtpidkionieaffaaMAri1
import Derived.Deep.RegionHeld3
namespace Go.Proofs.Ytpidkionieaffaa
open Go.RowKit
set_option maxHeartbeats 400000
set_option maxRecDepth 100000
set_option linter.unusedSimpArgs false
set_option linter.unusedVariables false

theorem LRd.grownX {w w' : World} {B g n c : Nat} {A : Option Addr} {t : TypeId} {b : Bool} {xs : List Nat} (h : LRd w B A n c xs) (hB : B ≤ w.heap.size) (hr : Row w g t [.bool b]) (hg : w.grownBy w' (some g)) : LRd w' B A n c xs := by
  refine ⟨h.len, h.cap, h.lim, fun hn => ?_⟩
  obtain ⟨b0, off, e, hb, hc⟩ := h.rd hn
  refine ⟨b0, off, e, hb, fun j hj => ?_⟩
  have h1 := hc j hj
  by_cases hbg : b0 = g
  · subst hbg
    rw [Row.cell hr] at h1
    rcases hk : off + j with _ | k
    · rw [hk] at h1; cases h1
    · rw [hk] at h1; simp at h1
  · rw [← h1]
    exact World.cell?_of_block (w := w) (hg.block b0 (by omega) (fun e => hbg (by injection e)))
theorem grown_below {w w' : World} {g : Nat} (h : Below w.heap.size w w') : w.grownBy w' (some g) := ⟨h.os, h.tape, h.output, h.size, fun k hk _ => h.block k hk⟩
theorem grown_trans {a b c : World} {g : Nat} (h : a.grownBy b (some g)) (k : b.grownBy c (some g)) : a.grownBy c (some g) :=
  ⟨k.os.trans h.os, k.tape.trans h.tape, k.output.trans h.output, Nat.le_trans h.size k.size, fun i hi hn => (k.block i (Nat.lt_of_lt_of_le hi h.size) hn).trans (h.block i hi hn)⟩
theorem grownX_set {a w : World} {g j : Nat} (h : a.grownBy w (some g)) (u : Value) : a.grownBy (w.setCell ⟨g, j, none⟩ u) (some g) :=
  ⟨h.os, h.tape, h.output, by simp [World.setCell]; exact h.size, fun i hi hn => (Below.heap_setCell w _ u i (fun e => hn (by rw [e]))).trans (h.block i hi hn)⟩
def PmPost (g p q : Nat) (fl : Bool) (w : World) (e : Ending) (w' : World) : Prop :=
  ∃ A k c zs v f2, e = .returned (.slice A k c) ∧ LRd w' w'.heap.size A k c zs ∧ Rep 4294967296 zs v ∧ k ≤ 128 ∧ Row w' g 4 [.bool f2] ∧ w.grownBy w' (some g) ∧
    ((p * q < Top128 ∧ v = p * q ∧ f2 = fl) ∨ (Top128 ≤ p * q ∧ v = 0 ∧ f2 = true))
theorem rep_vld1 {zs : List Nat} {v k : Nat} (h : Rep 4294967296 zs v) (hl : zs.length = k) (hk : k ≤ 128) : vld zs = true := rep_v128 h (lt128 h hl hk)
theorem rep_vldB {zs : List Nat} {v : Nat} (h : Rep 4294967296 zs v) (hv : v < Big) : vld zs = true := by
  refine rep_vld h.top ?_
  obtain ⟨m, hm⟩ : ∃ m, m = 600 := ⟨_, rfl⟩
  rw [big_pow hm] at hv
  have := h.length_le (by decide) hv
  omega
set_option maxHeartbeats 4000000 in
theorem pmul_any (w : World) (B g : Nat) (A D : Option Addr) (n m c d p q : Nat) (fl : Bool) (xs ys : List Nat) (h : LRd w B A n c xs) (k : LRd w B D m d ys) (hB : B ≤ w.heap.size) (hx : Rep 4294967296 xs p) (hy : Rep 4294967296 ys q) (hn : n ≤ 128) (hm : m ≤ 128) (hg : Row w g 4 [.bool fl]) :
    Calls Try.prog 91 #[.slice A n c, .slice D m d, .pointer (some ⟨g, 0, none⟩)] w (PmPost g p q fl w) := by
  have hlt := Row.lt hg
  have HN := Lib.hid (big_mul (lt128 hx h.len.out hn) (lt128 hy k.len.out hm))
  go_enter Try.func91, Try.ntmps91
  go_wp2_with fail
  refine (mul_ok w B A D n m c d xs ys h k hB (rep_vld1 hx h.len.out hn) (rep_vld1 hy k.len.out hm)).mono ?_
  rintro e w1 hgb
  rw [hx.val, hy.val] at hgb
  obtain ⟨R, l, r, zs, rfl, hl, hr, hb1⟩ := hgb.elim (fun h => h.2) (fun h => absurd HN.out (Nat.not_lt_of_le h.1))
  clear hgb
  have R1 : Row w1 g 4 [.bool fl] := Row.below hg hb1 hlt
  have hl1 := hl.cap
  have HR := Lib.hid hr
  have sz := hb1.size
  clear hr HN
  by_cases hk : 128 < l
  · have hc := ge128 HR.out hl.len.out hk
    have y0 : (w1.alloc (.cells #[.int .i64 0, .int .i64 0] 26)).cell? ⟨g, 0, none⟩ = some (.bool fl) := Row.cell (Row.alloc R1 _) 0
    have z0 : (w1.alloc (.cells #[.int .i64 0, .int .i64 0] 26)).frozen? ⟨g, 0, none⟩ = false := Row.frozen (Row.alloc R1 _) 0
    go_wp2_with fail
    go_ret
    refine ⟨none, 0, 0, [], 0, true, rfl, ⟨rfl, by omega, (by intro x hx; cases hx), fun h0 => absurd h0 (by omega)⟩, nil_rep, by omega, ?_, ?_, .inr ⟨hc, rfl, rfl⟩⟩
    · exact Row.set_ (Row.alloc R1 _) 0 _
    · exact grownX_set (grown_below (hb1.alloc (by omega) _)) _
  · have hc := lt128 HR.out hl.len.out (by omega)
    go_wp2_with fail
    go_ret
    exact ⟨R, l, r, zs, _, fl, rfl, (hl.alloc (Nat.le_refl _) _).more (by simp), HR.out, by omega, Row.alloc R1 _, grown_below (hb1.alloc (by omega) _), .inl ⟨hc, rfl, rfl⟩⟩
def MmPost (p q m : Nat) (w : World) (e : Ending) (w' : World) : Prop := GivesL w (p * q % m) e w'
set_option maxHeartbeats 4000000 in
theorem pmod_any (w : World) (B g : Nat) (A D : Option Addr) (n m c d p q : Nat) (mv : IV) (xs ys : List Nat) (h : LRd w B A n c xs) (k : LRd w B D m d ys) (hB : B ≤ w.heap.size) (hx : Rep 4294967296 xs p) (hy : Rep 4294967296 ys q) (hn : n ≤ 128) (hm : m ≤ 128) (HM : mv.at w B) (om : mv.ok = true) (h0 : 0 < mv.n) (hg : Bk2 w g (.bool mv.neg) (.slice mv.A mv.n mv.c)) :
    Calls Try.prog 92 #[.slice A n c, .slice D m d, .pointer (some ⟨g, 0, none⟩)] w (MmPost p q (vb 4294967296 mv.xs) w) := by
  have hlt := hg.lt
  have HN := Lib.hid (big_mul (lt128 hx h.len.out hn) (lt128 hy k.len.out hm))
  go_enter Try.func92, Try.ntmps92
  go_wp2_with fail
  refine (mul_ok w B A D n m c d xs ys h k hB (rep_vld1 hx h.len.out hn) (rep_vld1 hy k.len.out hm)).mono ?_
  rintro e w1 hgb
  rw [hx.val, hy.val] at hgb
  obtain ⟨R, l, r, zs, rfl, hl, hr, hb1⟩ := hgb.elim (fun h => h.2) (fun h => absurd HN.out (Nat.not_lt_of_le h.1))
  clear hgb
  have G1 : Bk2 w1 g (.bool mv.neg) (.slice mv.A mv.n mv.c) := hg.below hb1 hlt
  have HR := Lib.hid hr
  have sz := hb1.size
  have HV := Lib.hid (rep_vldB HR.out HN.out)
  have t0 := G1.c0
  have t1 := G1.c1
  have lt1 := G1.lt
  clear hr HN
  go_wp2_with fail
  obtain ⟨V, hV⟩ : ∃ V : World, V = w1.alloc (.cells #[.int .i64 0, .int .i64 0] 26) := ⟨_, rfl⟩
  have bV : Below w1.heap.size w1 V := by rw [hV]; exact bl1 _ _
  rw [← hV]
  clear hV
  refine (divmod_ok V w1.heap.size R mv.A l mv.n r mv.c zs mv.xs (hl.below bV (Nat.le_refl _)) ((LRd.below (LRd.below HM hb1 hB) bV (by omega)).more (by omega)) bV.size HV.out (IV.vld om).1).mono ?_
  rintro e w2 hgb
  have hml := HM.len.out
  obtain ⟨Q, l1, r1, qs, D2, l2, r2, rs, rfl, hq1, hq2, hr1, hr2, hb2⟩ := hgb.elim (fun h => absurd h.1 (by omega)) (fun h => h.2)
  clear hgb
  rw [HR.out.val] at hr2
  have HT := Lib.hid hr2
  have sz2 := hb2.size
  have szV := bV.size
  clear hr2 hq2
  have hr1c := hr1.cap
  have hq1c := hq1.cap
  go_wp2_with fail
  go_ret
  exact ⟨D2, l2, r2, rs, rfl, (hr1.alloc (Nat.le_refl _) _).more (by simp), HT.out, ((hb1.trans (bV.mono sz)).trans (hb2.mono (by omega))).alloc (by omega) _⟩
end Go.Proofs.Ytpidkionieaffaa
