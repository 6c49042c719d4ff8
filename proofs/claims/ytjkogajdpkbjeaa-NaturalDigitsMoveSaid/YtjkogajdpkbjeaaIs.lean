/- The law's comparison of a result. -/
import Derived.Test.YtjkogajdpkbjeaaExp3
import Derived.Test.YtjkogajdpkbjeaaRefCmp
import Derived.Test.YtjkogajdpkbjeaaOf
import Derived.Deep.QuietTactic
import Derived.BigQuiet
namespace Go.Proofs.Ytjkogajdpkbjeaa
open Go.RowKit
set_option maxHeartbeats 400000
set_option maxRecDepth 100000
set_option linter.unusedSimpArgs false
set_option linter.unusedVariables false

theorem big65 {m : Nat} (h : m = 1200) : Big = 65536 ^ m := by
  subst h
  obtain ⟨t, ht⟩ : ∃ t, t = 600 := ⟨_, rfl⟩
  rw [big_pow ht, show 1200 = 2 * t by omega, Nat.pow_mul]
theorem bigD_len {zs : List Nat} {v k : Nat} (h : Rep 65536 zs v) (hl : zs.length = k) (hk : Big ≤ v) : 1200 < k := by
  rcases Nat.lt_or_ge 1200 k with e | e
  · exact e
  · exfalso
    obtain ⟨t, ht⟩ : ∃ t, t = 1200 := ⟨_, rfl⟩
    have h1 := h.lt_pow (by decide)
    have h2 : 65536 ^ zs.length ≤ 65536 ^ t := Nat.pow_le_pow_right (by decide) (by omega)
    rw [big65 ht] at hk
    omega
theorem fitD_len {zs : List Nat} {v k : Nat} (h : Rep 65536 zs v) (hl : zs.length = k) (hk : v < Big) : k ≤ 1200 := by
  obtain ⟨t, ht⟩ : ∃ t, t = 1200 := ⟨_, rfl⟩
  rw [big65 ht] at hk
  have := h.length_le (by decide) hk
  omega
theorem sameB_refl (xs : List Nat) : sameB xs xs = true := by unfold sameB; simp

set_option maxHeartbeats 1000000 in
theorem is_fit (w : World) (B : Nat) (A D : Option Addr) (n m c d p : Nat) (xs ws : List Nat) (h : LRd w B A n c xs) (k : DRd w B D m d ws) (hB : B ≤ w.heap.size) (hx : Rep 4294967296 xs p) (hw : Rep 65536 ws p) (hp : p < Big) :
    Calls Try.prog 19 #[.slice A n c, flt 0 0, .slice D m d, flt 0 0] w fun e w' => e = .returned (.bool true) ∧ Below w.heap.size w w' := by
  have hm := fitD_len hw k.len.out hp
  have hcap := k.cap
  have hcap2 := h.cap
  have hc := fun (o o' : Obj) => (k.alloc hB o).alloc (by simp; omega) o'
  have ha := fun (o o' : Obj) => (h.alloc hB o).alloc (by simp; omega) o'
  go_enter Try.func19, Try.ntmps19
  go_wp2_with fail
  refine (limbs_any _ B D m d p ws (hc _ _) (by simp; omega) (by omega) hw).mono ?_
  rintro e w1 ⟨A1, k1, c1, zs, rfl, hz, hzr, hb⟩
  have ha1 := (ha _ _).below hb (by simp; omega)
  go_wp2_with fail
  refine (sameLimbs_any w1 _ A A1 n k1 c c1 xs zs (ha1.more (by have := hb.size; simp at this; omega)) hz).mono ?_
  rintro e w2 ⟨rfl, q, rfl⟩
  obtain rfl : xs = zs := hx.unique (by decide) hzr
  have hsb := sameB_refl xs
  go_wp2_with fail
  go_ret
  exact ⟨retb_of rfl, below_drewN (((bl1 w _).alloc (by simp) _).trans (hb.mono (by simp; omega))) q⟩

set_option maxHeartbeats 1000000 in
theorem is_big (w : World) (B : Nat) (A D : Option Addr) (m c d p : Nat) (ws : List Nat) (k : DRd w B D m d ws) (hB : B ≤ w.heap.size) (hw : Rep 65536 ws p) (hp : Big ≤ p) :
    Calls Try.prog 19 #[.slice A 0 c, flt 14 (-1), .slice D m d, flt 0 0] w fun e w' => e = .returned (.bool true) ∧ Below w.heap.size w w' := by
  have hm := bigD_len hw k.len.out hp
  have hcap := k.cap
  go_enter Try.func19, Try.ntmps19
  go_wp2_with fail
  refine (at_any _ _ _).mono ?_
  rintro e w1 ⟨rfl, hb⟩
  obtain ⟨hc, hf⟩ := bcell hb
  have hz : w.heap.size + 1 < w1.heap.size := by have := hb.size; simp at this; omega
  have hz' : w.heap.size < w1.heap.size := by omega
  go_wp2_with fail
  go_ret
  refine ⟨retb_of rfl, ?_⟩
  (repeat (first | exact Below.refl _ _ | exact hb | refine Below.setCell ?_ (by simp; done) _ | refine Below.alloc ?_ (by first | omega | (simp; done) | (simp; omega)) _ | refine Below.drew ?_ | refine below_drewN ?_ _ | refine Below.trans ?_ (Below.mono hb (by first | omega | (simp; done) | (simp; omega)))))

set_option maxHeartbeats 1000000 in
theorem is_err (w : World) (A D : Option Addr) (m c d : Nat) (w1 w2 : Int) (h0 : w1 ≠ 0) :
    Calls Try.prog 19 #[.slice A 0 c, flt w1 w2, .slice D m d, flt w1 w2] w fun e w' => e = .returned (.bool true) ∧ Below w.heap.size w w' := by
  have hf0 : (w1 == 0) = false := beq_eq_false_iff_ne.2 h0
  have hf1 : (w1 != 0) = true := bne_iff_ne.2 h0
  go_enter Try.func19, Try.ntmps19
  go_wp2_with fail
  go_ret
  refine ⟨retb_of (by simp), ?_⟩
  (repeat (first | exact Below.refl _ _ | refine Below.setCell ?_ (by simp; done) _ | refine Below.alloc ?_ (by first | omega | (simp; done) | (simp; omega)) _ | refine Below.drew ?_ | refine below_drewN ?_ _))
end Go.Proofs.Ytjkogajdpkbjeaa
