/- Package integer: Of. The reference's integers: NoInt, SameInts, Fits, Minus, Times. The reference's IntOf, SameInt. The reference's SameInt. The reference's Number. -/
import Derived.Test.YtfgkhdpdjclmkaaGreatBf
import Derived.Test.YtfgkhdpdjclmkaaGreatBe
import Derived.IntWalk
import Derived.Test.YtfgkhdpdjclmkaaGreatBd
import Derived.Deep.RegionWith
import Derived.Deep.RegionHeld3
namespace Go.Proofs.YtfgkhdpdjclmkaaGreat
open Go.RowKit
set_option maxHeartbeats 400000
set_option maxRecDepth 100000
set_option linter.unusedSimpArgs false
set_option linter.unusedVariables false

abbrev lims (xs : List Nat) : List Value := xs.map fun (x : Nat) => Value.int .u32 (x : Int)
theorem io_lrd {w : World} {base n c : Nat} {A : Option Addr} {zs : List Nat} (h : w.ownsRow base 95 1 (.slice A n c) n (lims zs)) (hd : Lim zs) : LRd w w.heap.size A n c zs := by
  obtain ⟨h1, h2, h3, h4⟩ := own_rd h
  have hl : zs.length = n := by simpa using h3
  refine ⟨hl, ⟨h1, h2⟩, hd, h4.congr fun j hj => ?_⟩
  unfold nth
  simp [show j < zs.length by omega]
theorem lims_snoc (zs : List Nat) {v : Int} (hv : 0 ≤ v) : lims (zs ++ [v.toNat]) = lims zs ++ [.int .u32 v] := by
  obtain ⟨v, rfl⟩ := Int.eq_ofNat_of_zero_le hv
  simp
theorem Lim.snocI {cs : List Nat} (h : Lim cs) {x : Nat} (hx : x < 4294967296) : Lim (cs ++ [x]) := by
  intro y hy
  rcases List.mem_append.1 hy with h1 | h1
  · exact h y h1
  · rw [List.mem_singleton] at h1; omega
theorem io_nat {b v P d m m' N : Nat} (h : v + P * m = N) (e : d + b * m' = m) : v + P * d + P * b * m' = N := by subst e; rw [← h]; grind
theorem io_step {b N m : Nat} {zs : List Nat} (h : vb b zs + b ^ zs.length * m = N) : vb b (zs ++ [((m : Int) % b).toNat]) + b ^ (zs ++ [((m : Int) % b).toNat]).length * (m / b) = N := by
  rw [vb_snoc, List.length_append, List.length_singleton, Nat.pow_succ]
  refine io_nat h ?_
  have e : ((m : Int) % b).toNat = m % b := by rw [← Int.natCast_emod, Int.toNat_natCast]
  rw [e]; exact Nat.mod_add_div m b
theorem io_top {b m : Nat} {zs : List Nat} (hm : 0 < m) (h : m / b = 0) : Top (zs ++ [((m : Int) % b).toNat]) := by
  intro i hi
  rw [List.length_append, List.length_singleton] at hi
  obtain rfl : i = zs.length := by omega
  rw [getD_append, if_neg (by omega), Nat.sub_self]
  show ((m : Int) % b).toNat ≠ 0
  have e : ((m : Int) % b).toNat = m % b := by rw [← Int.natCast_emod, Int.toNat_natCast]
  rw [e]
  have := Nat.mod_add_div m b
  rw [h] at this
  omega
/-- Block g: two cells. -/
structure Bk2 (w : World) (g : Nat) (u v : Value) : Prop where
  c0 : w.cell? ⟨g, 0, none⟩ = some u
  c1 : w.cell? ⟨g, 1, none⟩ = some v
  z0 : w.frozen? ⟨g, 0, none⟩ = false
  z1 : w.frozen? ⟨g, 1, none⟩ = false
  lt : g < w.heap.size
theorem Bk2.new (w : World) (u v : Value) (t : TypeId) : Bk2 (w.alloc (.cells #[u, v] t)) w.heap.size u v := ⟨by simp [go_sem], by simp [go_sem], by simp [go_sem], by simp [go_sem], by simp⟩
theorem Bk2.below {w w' : World} {g B : Nat} {u v : Value} (h : Bk2 w g u v) (hb : Below B w w') (hg : g < B) : Bk2 w' g u v := by
  obtain ⟨hc, hf⟩ := bcell hb
  exact ⟨(hc _ _ hg).trans h.c0, (hc _ _ hg).trans h.c1, (hf _ _ hg).trans h.z0, (hf _ _ hg).trans h.z1, by have := hb.size; have := h.lt; omega⟩
theorem Bk2.alloc {w : World} {g : Nat} {u v : Value} (h : Bk2 w g u v) (o : Obj) : Bk2 (w.alloc o) g u v := h.below (bl1 w o) h.lt
theorem Bk2.drew {w : World} {g : Nat} {u v : Value} (h : Bk2 w g u v) : Bk2 w.drew g u v := ⟨h.c0, h.c1, h.z0, h.z1, h.lt⟩
theorem Bk2.drewN {w : World} {g : Nat} {u v : Value} (h : Bk2 w g u v) (n : Nat) : Bk2 (w.drewN n) g u v := ⟨h.c0, h.c1, h.z0, h.z1, h.lt⟩
theorem Bk2.far {w : World} {g : Nat} {u v : Value} (h : Bk2 w g u v) {p : Addr} (hp : p.block ≠ g) (x : Value) : Bk2 (w.setCell p x) g u v :=
  ⟨(World.cell?_setCell_other _ _ _ _ (fun e => hp (by rw [e]))).trans h.c0, (World.cell?_setCell_other _ _ _ _ (fun e => hp (by rw [e]))).trans h.c1, (World.frozen?_setCell _ _ _ _).trans h.z0, (World.frozen?_setCell _ _ _ _).trans h.z1, by have := h.lt; simpa using this⟩
theorem Bk2.set {w : World} {g : Nat} {u v : Value} (h : Bk2 w g u v) (x y : Value) : Bk2 ((w.setCell ⟨g, 0, none⟩ x).setCell ⟨g, 1, none⟩ y) g x y := by
  have e0 : (w.setCell ⟨g, 0, none⟩ x).cell? ⟨g, 0, none⟩ = some x := World.cell?_setCell_same w _ _ h.c0
  have e1 : (w.setCell ⟨g, 0, none⟩ x).cell? ⟨g, 1, none⟩ = some v := (World.cell?_setCell_other w ⟨g, 0, none⟩ ⟨g, 1, none⟩ _ (by simp)).trans h.c1
  exact ⟨(World.cell?_setCell_other _ ⟨g, 1, none⟩ ⟨g, 0, none⟩ _ (by simp)).trans e0, World.cell?_setCell_same _ _ _ e1, ((World.frozen?_setCell _ _ _ _).trans (World.frozen?_setCell _ _ _ _)).trans h.z0, ((World.frozen?_setCell _ _ _ _).trans (World.frozen?_setCell _ _ _ _)).trans h.z1, by have := h.lt; simpa using this⟩
theorem own_nextW {W wr w1 : World} {b : Nat} {v v' : Value} {zs : List Nat} {x : Int} {o : Obj} (hx : 0 ≤ x) (hb : Below b W wr) (hs : b ≤ wr.heap.size) (hown : wr.ownsRow b 95 1 v zs.length (lims zs))
    (hown' : w1.ownsRow b 95 1 v' (zs.length + 1) (lims zs ++ [.int .u32 x])) (hg : (wr.alloc o).grownBy w1 v.ownBlock) :
    w1.ownsRow b 95 1 v' (zs ++ [x.toNat]).length (lims (zs ++ [x.toNat])) ∧ Below b W w1 := by
  refine ⟨by rw [lims_snoc zs hx, List.length_append]; exact hown', ?_⟩
  exact (hb.alloc hs o).grown hg (by simp; omega) (fun k hk => (hown.lt k hk).1)
theorem io_len {N m l v : Nat} (h : v + 4294967296 ^ l * m = N) (hm : 0 < m) (hN : N ≤ 9223372036854775808) : l < 4 := by
  rcases Nat.lt_or_ge l 4 with e | e
  · exact e
  · exfalso
    have h1 : 4294967296 ^ 4 ≤ 4294967296 ^ l := Nat.pow_le_pow_right (by decide) e
    have h2 : 4294967296 ^ l * 1 ≤ 4294967296 ^ l * m := Nat.mul_le_mul_left _ hm
    have h3 : (4294967296 : Nat) ^ 4 = 340282366920938463463374607431768211456 := by decide
    omega
theorem wrap_neg {z : Int} (h : z < 0) (h2 : -9223372036854775808 ≤ z) : IntKind.u64.wrap (-IntKind.u64.wrap z) = (z.natAbs : Int) := by
  simp only [IntKind.wrap, IntKind.bits, IntKind.signed]
  simp
  omega
def IoRel (N b : Nat) (W : World) (n out : Value) (wr : World) : Prop :=
  ∃ (m : Nat) (zs : List Nat), n = .int .u64 (m : Int) ∧ m ≤ 18446744073709551615 ∧ wr.ownsRow b 95 1 out zs.length (lims zs) ∧ zs.length ≤ 4 ∧ Lim zs ∧ Below b W wr ∧ Hid (vb 4294967296 zs + 4294967296 ^ zs.length * m = N) ∧ Hid (m = 0 → Top zs)
set_option maxHeartbeats 1000000 in
theorem iof_pos (w : World) (z : Int) (hn : 0 ≤ z) (hz : z ≤ 9223372036854775807) :
    Calls Tryz.prog 63 #[.int .i64 z] w (GivesV w z) := by
  obtain ⟨i0, hi, hz0, hz1, hz2⟩ := info_parts info32
  have hN : z.natAbs ≤ 9223372036854775808 := by omega
  go_enter Tryz.func63, Tryz.ntmps63
  go_wp2_with fail
  go_loopw [3, 4] (IoRel z.natAbs (w.heap.size + 1) (w.alloc (.cells #[.bool false, .slice none 0 0] 24))) (fun n _ _ => (intOf n).toNat)
  case atStart => exact ⟨z.natAbs, [], by rw [show (z.natAbs : Int) = z by omega], by omega, World.ownsRow_nil _ _ _ _, by simp, (by intro x hx; cases hx), Below.refl _ _, (by show _ = _; simp [vb_nil]), fun _ => Top.nil⟩
  case round =>
    obtain ⟨m, zs, rfl, hm, hown, hzl, hzd, hbw, HS, HT⟩ := hrel
    have hsz : w.heap.size + 1 ≤ wr.heap.size := by have := hbw.size; simpa using this
    have P0 := (Bk2.new w (.bool false) (.slice none 0 0) 24).below hbw (by omega)
    obtain ⟨c0, c1, z0, z1, _⟩ := P0
    by_cases h0 : m = 0
    · subst h0
      obtain ⟨A', c', rfl, hc1, hc2⟩ := own_shape hown
      have hdr := io_lrd hown hzd
      have HR := Lib.hid (show Rep 4294967296 zs z.natAbs from ⟨hzd, by have := HS.out; simpa using this, HT.out rfl⟩)
      clear hN
      go_wp2_with fail
      have hl := (hdr.setN (fun x => by rw [c0]; simp) (.bool (decide (z < 0)))).setN (p := ⟨w.heap.size, 1, none⟩) (fun x => by rw [World.cell?_setCell_other _ _ _ _ (by simp), c1]; simp) (.slice A' zs.length c')
      refine bodyPost_ret (v := intv (decide (z < 0)) A' zs.length c') (by simp [results, Tryz.results63, go_sem, c0, c1]) rfl ⟨decide (z < 0), A', zs.length, c', zs, rfl, LRd.more hl (by simp), ⟨HR.out, by first | (simp; done) | (simp; omega)⟩, ?_⟩
      exact (((bl1 w _).trans (hbw.mono (by simp))).setCell (by simp) _).setCell (by simp) _
    · have hl := io_len HS.out (by omega) hN
      have ST := Lib.hid (io_step HS.out)
      have TT := Lib.hid (fun e => io_top (b := 4294967296) (zs := zs) (show 0 < m by omega) e)
      have hm0 : 0 < (m : Int) := by omega
      clear h0 hN c0 c1 z0 z1
      go_wp2_with (at_builtin; refine wpList_append_own _ rfl _ _ 22 rfl (w.heap.size + 1) 95 i0 (.int .u32 0) 1 4 Tryz.underlying22 hi hz0 hz1 hz2 rfl (by decide) _ _ _ rfl (hown.alloc _) ⟨wr.heap.size, 0, none⟩ 1 1 [.int .u32 ((m : Int) % 4294967296)] rfl rfl (cell_one_new _ _ _) (fun u hu => by simp at hu; subst hu; rfl) (by unfold maxLen; omega) (by omega) (by first | (simp; omega) | omega) ?_; intro v' w1 hown' hgrow _)
      obtain ⟨ho, hb1⟩ := own_nextW (Int.emod_nonneg _ (by decide)) hbw hsz hown hown' hgrow
      clear hown hown' hgrow
      go_wp2_with fail
      go_roundw
      case rel => exact ⟨m / 4294967296, _, by go_num, by omega, ho, by simp; omega, hzd.snocI (by omega), hb1, ST.out, TT.out⟩
      case measure => simp [intOf]; omega
set_option maxHeartbeats 1000000 in
theorem iof_neg (w : World) (z : Int) (hn : z < 0) (hz : -9223372036854775808 ≤ z) :
    Calls Tryz.prog 63 #[.int .i64 z] w (GivesV w z) := by
  obtain ⟨i0, hi, hz0, hz1, hz2⟩ := info_parts info32
  have hN : z.natAbs ≤ 9223372036854775808 := by omega
  go_enter Tryz.func63, Tryz.ntmps63
  go_wp2_with fail
  go_loopw [3, 4] (IoRel z.natAbs (w.heap.size + 1) (w.alloc (.cells #[.bool false, .slice none 0 0] 24))) (fun n _ _ => (intOf n).toNat)
  case atStart => exact ⟨z.natAbs, [], by rw [wrap_neg hn hz], by omega, World.ownsRow_nil _ _ _ _, by simp, (by intro x hx; cases hx), Below.refl _ _, (by show _ = _; simp [vb_nil]), fun _ => Top.nil⟩
  case round =>
    obtain ⟨m, zs, rfl, hm, hown, hzl, hzd, hbw, HS, HT⟩ := hrel
    have hsz : w.heap.size + 1 ≤ wr.heap.size := by have := hbw.size; simpa using this
    have P0 := (Bk2.new w (.bool false) (.slice none 0 0) 24).below hbw (by omega)
    obtain ⟨c0, c1, z0, z1, _⟩ := P0
    by_cases h0 : m = 0
    · subst h0
      obtain ⟨A', c', rfl, hc1, hc2⟩ := own_shape hown
      have hdr := io_lrd hown hzd
      have HR := Lib.hid (show Rep 4294967296 zs z.natAbs from ⟨hzd, by have := HS.out; simpa using this, HT.out rfl⟩)
      clear hN
      go_wp2_with fail
      have hl := (hdr.setN (fun x => by rw [c0]; simp) (.bool true)).setN (p := ⟨w.heap.size, 1, none⟩) (fun x => by rw [World.cell?_setCell_other _ _ _ _ (by simp), c1]; simp) (.slice A' zs.length c')
      refine bodyPost_ret (v := intv true A' zs.length c') (by simp [results, Tryz.results63, go_sem, c0, c1]) rfl ⟨true, A', zs.length, c', zs, rfl, LRd.more hl (by simp), ⟨HR.out, by first | (simp; done) | (simp; omega)⟩, ?_⟩
      exact (((bl1 w _).trans (hbw.mono (by simp))).setCell (by simp) _).setCell (by simp) _
    · have hl := io_len HS.out (by omega) hN
      have ST := Lib.hid (io_step HS.out)
      have TT := Lib.hid (fun e => io_top (b := 4294967296) (zs := zs) (show 0 < m by omega) e)
      have hm0 : 0 < (m : Int) := by omega
      clear h0 hN c0 c1 z0 z1
      go_wp2_with (at_builtin; refine wpList_append_own _ rfl _ _ 22 rfl (w.heap.size + 1) 95 i0 (.int .u32 0) 1 4 Tryz.underlying22 hi hz0 hz1 hz2 rfl (by decide) _ _ _ rfl (hown.alloc _) ⟨wr.heap.size, 0, none⟩ 1 1 [.int .u32 ((m : Int) % 4294967296)] rfl rfl (cell_one_new _ _ _) (fun u hu => by simp at hu; subst hu; rfl) (by unfold maxLen; omega) (by omega) (by first | (simp; omega) | omega) ?_; intro v' w1 hown' hgrow _)
      obtain ⟨ho, hb1⟩ := own_nextW (Int.emod_nonneg _ (by decide)) hbw hsz hown hown' hgrow
      clear hown hown' hgrow
      go_wp2_with fail
      go_roundw
      case rel => exact ⟨m / 4294967296, _, by go_num, by omega, ho, by simp; omega, hzd.snocI (by omega), hb1, ST.out, TT.out⟩
      case measure => simp [intOf]; omega
theorem iof_any (w : World) (z : Int) (h1 : -9223372036854775808 ≤ z) (h2 : z ≤ 9223372036854775807) :
    Calls Tryz.prog 63 #[.int .i64 z] w (GivesV w z) := by
  rcases (show z < 0 ∨ 0 ≤ z by omega) with e | e
  · exact iof_neg w z e h1
  · exact iof_pos w z e h2
theorem noInt_any (w : World) (neg : Bool) (A : Option Addr) (n c : Nat) (hn : n ≤ 9223372036854775807) :
    Calls Tryz.prog 23 #[intv neg A n c] w fun e w' => e = .returned (.bool (!neg && decide (n = 0))) ∧ Below w.heap.size w w' := by
  cases neg
  · by_cases h0 : n = 0
    · subst h0
      go_enter Tryz.func23, Tryz.ntmps23
      go_wp2_with fail
      go_ret
      exact ⟨by first | rfl | (simp; done), bl1 _ _⟩
    · have hf0 : ((n : Int) == 0) = false := beq_eq_false_iff_ne.2 (by omega)
      go_enter Tryz.func23, Tryz.ntmps23
      go_wp2_with fail
      go_ret
      exact ⟨by first | rfl | (simp [h0]; done), bl1 _ _⟩
  · go_enter Tryz.func23, Tryz.ntmps23
    go_wp2_with fail
    go_ret
    exact ⟨by first | rfl | (simp; done), bl1 _ _⟩
theorem fits_any (w : World) (neg : Bool) (A : Option Addr) (n c : Nat) (hn : n ≤ 9223372036854775807) :
    Calls Tryz.prog 55 #[intv neg A n c, .int .i64 128] w fun e w' => e = .returned (.bool (decide (n ≤ 256))) ∧ Below w.heap.size w w' := by
  by_cases h0 : n ≤ 256
  · go_enter Tryz.func55, Tryz.ntmps55
    go_wp2_with fail
    go_ret
    exact ⟨by first | rfl | (simp [h0]; done) | (simp; omega), bl1 _ _⟩
  · go_enter Tryz.func55, Tryz.ntmps55
    go_wp2_with fail
    go_ret
    exact ⟨by first | rfl | (simp [h0]; done) | (simp; omega), bl1 _ _⟩
/-- What a function gives that makes an integer of the reference. -/
def GivesR (w : World) (z : Int) (e : Ending) (w' : World) : Prop :=
  ∃ neg A k c zs v, e = .returned (intv neg A k c) ∧ DRd w' w'.heap.size A k c zs ∧ Rep 65536 zs v ∧ sval neg v = z ∧ Below w.heap.size w w'
theorem rminus_any (w : World) (B : Nat) (neg : Bool) (A : Option Addr) (n c v : Nat) (xs : List Nat) (h : DRd w B A n c xs) (hr : Rep 65536 xs v) (hB : B ≤ w.heap.size) :
    Calls Tryz.prog 69 #[intv neg A n c] w (GivesR w (-sval neg v)) := by
  have hcap := h.cap
  have HR := Lib.hid hr
  by_cases h0 : n = 0
  · have HZ := Lib.hid (show v = 0 by rw [← hr.val, List.eq_nil_of_length_eq_zero (h.len.out.trans h0), vb_nil])
    subst h0
    cases neg
    all_goals
      go_enter Tryz.func69, Tryz.ntmps69
      go_wp2_with fail
      refine bodyPost_ret (v := intv false A 0 c) (by simp [results, Tryz.results69, go_sem]) rfl ⟨false, A, 0, c, xs, v, rfl, ?_, HR.out, by rw [HZ.out]; rfl, ?_⟩
      · first
          | exact ((h.alloc hB _).alloc (by simp; omega) _).more (by simp; omega)
          | (refine DRd.more (DRd.keep h (fun p hp => ?_)) (by simp; omega)
             simp [go_sem]; done)
      · (repeat (first | exact Below.refl _ _ | refine Below.setCell ?_ (by first | (simp; done) | (simp; omega)) _ | refine Below.alloc ?_ (by first | omega | (simp; done) | (simp; omega)) _))
  · have hn0 : 0 < (n : Int) := by omega
    clear h0
    cases neg
    all_goals
      go_enter Tryz.func69, Tryz.ntmps69
      go_wp2_with fail
    · refine bodyPost_ret (v := intv true A n c) (by simp [results, Tryz.results69, go_sem] <;> omega) rfl ⟨true, A, n, c, xs, v, rfl, ?_, HR.out, by simp [sval], ?_⟩
      · exact ((h.alloc hB _).alloc (by simp; omega) _).more (by simp; omega)
      · (repeat (first | exact Below.refl _ _ | refine Below.setCell ?_ (by first | (simp; done) | (simp; omega)) _ | refine Below.alloc ?_ (by first | omega | (simp; done) | (simp; omega)) _))
    · refine bodyPost_ret (v := intv false A n c) (by simp [results, Tryz.results69, go_sem]) rfl ⟨false, A, n, c, xs, v, rfl, ?_, HR.out, by simp [sval], ?_⟩
      · exact ((h.alloc hB _).alloc (by simp; omega) _).more (by simp; omega)
      · (repeat (first | exact Below.refl _ _ | refine Below.setCell ?_ (by first | (simp; done) | (simp; omega)) _ | refine Below.alloc ?_ (by first | omega | (simp; done) | (simp; omega)) _))
theorem sval_mulR (m n : Bool) (p q : Nat) : sval (m != n) (p * q) = sval m p * sval n q := by
  unfold sval
  cases m <;> cases n <;> simp [Int.neg_mul, Int.mul_neg]
set_option maxHeartbeats 1000000 in
theorem rtimes_any (w : World) (B : Nat) (m n : Bool) (A D : Option Addr) (k l c d p q : Nat) (xs ys : List Nat) (h : DRd w B A k c xs) (h2 : DRd w B D l d ys) (hB : B ≤ w.heap.size) (hx : Rep 65536 xs p) (hy : Rep 65536 ys q) (hk : k ≤ 100000) (hl : l ≤ 100000) :
    Calls Tryz.prog 67 #[intv m A k c, intv n D l d] w (GivesR w (sval m p * sval n q)) := by
  have HX := Lib.hid hx
  have HY := Lib.hid hy
  have H := ((h.alloc hB (.cells #[.bool m, .slice A k c] 40)).alloc (by simp; omega) (.cells #[.bool n, .slice D l d] 40)).alloc (by simp; omega) (.cells #[.bool false, .slice none 0 0] 40)
  have K := ((h2.alloc hB (.cells #[.bool m, .slice A k c] 40)).alloc (by simp; omega) (.cells #[.bool n, .slice D l d] 40)).alloc (by simp; omega) (.cells #[.bool false, .slice none 0 0] 40)
  have HT := Lib.hid (times_any _ B A D k l c d xs ys H K (by simp; omega) (by omega) (by omega))
  clear hx hy H K
  go_enter Tryz.func67, Tryz.ntmps67
  go_wp2_with fail
  refine HT.out.mono ?_
  rintro e w5 ⟨A5, k5, c5, zs, rfl, hZ, hZr, hb5⟩
  rw [HX.out.val, HY.out.val] at hZr
  have HZ := Lib.hid hZr
  obtain ⟨hc, hf⟩ := bcell hb5
  have hz5 : w.heap.size + 2 < w5.heap.size := by have := hb5.size; simp at this; omega
  have hcz := hZ.cap
  have a0 : w5.cell? ⟨w.heap.size, 0, none⟩ = some (.bool m) := by rw [hc _ _ (by first | (simp; done) | (simp; omega))]; simp [go_sem]
  have a1 : w5.cell? ⟨w.heap.size + 1, 0, none⟩ = some (.bool n) := by rw [hc _ _ (by first | (simp; done) | (simp; omega))]; simp [go_sem]
  have r0 : w5.cell? ⟨w.heap.size + 2, 0, none⟩ = some (.bool false) := by rw [hc _ _ (by simp)]; simp [go_sem]
  have r1 : w5.cell? ⟨w.heap.size + 2, 1, none⟩ = some (.slice none 0 0) := by rw [hc _ _ (by simp)]; simp [go_sem]
  have f0 : w5.frozen? ⟨w.heap.size + 2, 0, none⟩ = false := by rw [hf _ _ (by simp)]; simp [go_sem]
  have f1 : w5.frozen? ⟨w.heap.size + 2, 1, none⟩ = false := by rw [hf _ _ (by simp)]; simp [go_sem]
  have hkeep : ∀ u : Bool, DRd ((w5.setCell ⟨w.heap.size + 2, 0, none⟩ (.bool u)).setCell ⟨w.heap.size + 2, 1, none⟩ (.slice A5 k5 c5)) w5.heap.size A5 k5 c5 zs := fun _ => ⟨hZ.len, hZ.cap, hZ.lim, fun hn => by
    obtain ⟨b, off, e, hb, hcell⟩ := hZ.rd hn
    refine ⟨b, off, e, hb, fun j hj => ?_⟩
    have h1 := hcell j hj
    rw [World.cell?_setCell_other _ _ _ _ (fun e => by rw [← e] at h1; rw [r1] at h1; simp at h1), World.cell?_setCell_other _ _ _ _ (fun e => by rw [← e] at h1; rw [r0] at h1; simp at h1)]
    exact h1⟩
  have HK := Lib.hid hkeep
  clear hc hf hkeep hZr HT
  have HV := Lib.hid (sval_mulR m n p q)
  by_cases hk0 : k5 = 0
  · have HP := Lib.hid (show p * q = 0 by have := HZ.out.val; rw [← this, List.eq_nil_of_length_eq_zero (hZ.len.out.trans hk0), vb_nil])
    subst hk0
    cases m <;> cases n
    all_goals
      go_wp2_with fail
      refine bodyPost_ret (v := intv false A5 0 c5) (by simp [results, Tryz.results67, go_sem, r0, r1]) rfl ⟨false, A5, 0, c5, zs, p * q, rfl, DRd.more (HK.out false) (by simp), HZ.out, ?_, ?_⟩
      · rw [← HV.out, HP.out]; rfl
      · (repeat (first | exact Below.refl _ _ | refine Below.setCell ?_ (by first | (simp; done) | (simp; omega)) _ | refine Below.trans ?_ (Below.mono hb5 (by first | omega | (simp; done) | (simp; omega))) | refine Below.alloc ?_ (by first | omega | (simp; done) | (simp; omega)) _))
  · have hk1 : 0 < k5 := by omega
    clear hk0
    cases m <;> cases n
    · go_wp2_with fail
      refine bodyPost_ret (v := intv false A5 k5 c5) (by simp [results, Tryz.results67, go_sem, r0, r1] <;> omega) rfl ⟨false, A5, k5, c5, zs, p * q, rfl, ?_, HZ.out, HV.out, ?_⟩
      · first
          | exact DRd.more (HK.out false) (by simp)
          | (have := HK.out false; refine DRd.more ?_ (by simp); simpa [hk1] using this)
      · (repeat (first | exact Below.refl _ _ | refine Below.setCell ?_ (by first | (simp; done) | (simp; omega)) _ | refine Below.trans ?_ (Below.mono hb5 (by first | omega | (simp; done) | (simp; omega))) | refine Below.alloc ?_ (by first | omega | (simp; done) | (simp; omega)) _))
    · go_wp2_with fail
      refine bodyPost_ret (v := intv true A5 k5 c5) (by simp [results, Tryz.results67, go_sem, r0, r1] <;> omega) rfl ⟨true, A5, k5, c5, zs, p * q, rfl, ?_, HZ.out, HV.out, ?_⟩
      · first
          | exact DRd.more (HK.out true) (by simp)
          | (have := HK.out true; refine DRd.more ?_ (by simp); simpa [hk1] using this)
      · (repeat (first | exact Below.refl _ _ | refine Below.setCell ?_ (by first | (simp; done) | (simp; omega)) _ | refine Below.trans ?_ (Below.mono hb5 (by first | omega | (simp; done) | (simp; omega))) | refine Below.alloc ?_ (by first | omega | (simp; done) | (simp; omega)) _))
    · go_wp2_with fail
      refine bodyPost_ret (v := intv true A5 k5 c5) (by simp [results, Tryz.results67, go_sem, r0, r1] <;> omega) rfl ⟨true, A5, k5, c5, zs, p * q, rfl, ?_, HZ.out, HV.out, ?_⟩
      · first
          | exact DRd.more (HK.out true) (by simp)
          | (have := HK.out true; refine DRd.more ?_ (by simp); simpa [hk1] using this)
      · (repeat (first | exact Below.refl _ _ | refine Below.setCell ?_ (by first | (simp; done) | (simp; omega)) _ | refine Below.trans ?_ (Below.mono hb5 (by first | omega | (simp; done) | (simp; omega))) | refine Below.alloc ?_ (by first | omega | (simp; done) | (simp; omega)) _))
    · go_wp2_with fail
      refine bodyPost_ret (v := intv false A5 k5 c5) (by simp [results, Tryz.results67, go_sem, r0, r1] <;> omega) rfl ⟨false, A5, k5, c5, zs, p * q, rfl, ?_, HZ.out, HV.out, ?_⟩
      · first
          | exact DRd.more (HK.out false) (by simp)
          | (have := HK.out false; refine DRd.more ?_ (by simp); simpa [hk1] using this)
      · (repeat (first | exact Below.refl _ _ | refine Below.setCell ?_ (by first | (simp; done) | (simp; omega)) _ | refine Below.trans ?_ (Below.mono hb5 (by first | omega | (simp; done) | (simp; omega))) | refine Below.alloc ?_ (by first | omega | (simp; done) | (simp; omega)) _))
theorem le_at2' {W v : World} {B : Nat} (hz : B ≤ W.heap.size) (h : Below W.heap.size W v) : B ≤ v.heap.size := by have := h.size; omega
/-- Two blocks of two cells: (bool, slice) each; the second may be written. -/
structure RB (w : World) (s : Nat) (m : Bool) (A : Option Addr) (n c : Nat) (m' : Bool) (A' : Option Addr) (n' c' : Nat) : Prop where
  a0 : w.cell? ⟨s, 0, none⟩ = some (.bool m)
  a1 : w.cell? ⟨s, 1, none⟩ = some (.slice A n c)
  r0 : w.cell? ⟨s + 1, 0, none⟩ = some (.bool m')
  r1 : w.cell? ⟨s + 1, 1, none⟩ = some (.slice A' n' c')
  f0 : w.frozen? ⟨s + 1, 0, none⟩ = false
  f1 : w.frozen? ⟨s + 1, 1, none⟩ = false
  lt : s + 2 ≤ w.heap.size
section
variable {w w' : World} {s B n c n' c' : Nat} {m m' : Bool} {A A' : Option Addr}
theorem RB.below (h : RB w s m A n c m' A' n' c') (hb : Below B w w') (hB : s + 2 ≤ B) : RB w' s m A n c m' A' n' c' := by
  obtain ⟨hc, hf⟩ := bcell hb
  exact ⟨(hc _ _ (by omega)).trans h.a0, (hc _ _ (by omega)).trans h.a1, (hc _ _ (by omega)).trans h.r0, (hc _ _ (by omega)).trans h.r1, (hf _ _ (by omega)).trans h.f0, (hf _ _ (by omega)).trans h.f1, by have := hb.size; have := h.lt; omega⟩
theorem RB.new (w : World) (m m' : Bool) (A A' : Option Addr) (n c n' c' : Nat) (t t' : TypeId) : RB ((w.alloc (.cells #[.bool m, .slice A n c] t)).alloc (.cells #[.bool m', .slice A' n' c'] t')) w.heap.size m A n c m' A' n' c' :=
  ⟨by simp [go_sem], by simp [go_sem], by simp [go_sem], by simp [go_sem], by simp [go_sem], by simp [go_sem], by simp⟩
end
theorem DRd.setO {w : World} {B n c : Nat} {A : Option Addr} {xs : List Nat} (h : DRd w B A n c xs) {p : Addr} (hp : ∀ x, w.cell? p ≠ some (.int .i64 x)) (u : Value) : DRd (w.setCell p u) B A n c xs :=
  ⟨h.len, h.cap, h.lim, fun hn => by
    obtain ⟨b, off, e, hb, hc⟩ := h.rd hn
    refine ⟨b, off, e, hb, fun j hj => ?_⟩
    by_cases hq : (⟨b, off + j, none⟩ : Addr) = p
    · subst hq; exact absurd (hc j hj) (hp _)
    · rw [World.cell?_setCell_other _ _ _ _ (fun e => hq e.symm)]; exact hc j hj⟩
theorem DRd.setRB {w : World} {s B n c n1 c1 n2 c2 : Nat} {m m' : Bool} {A A1 A2 : Option Addr} {xs : List Nat} (h : DRd w B A n c xs) (r : RB w s m A1 n1 c1 m' A2 n2 c2) (u0 u1 : Value) :
    DRd ((w.setCell ⟨s + 1, 0, none⟩ u0).setCell ⟨s + 1, 1, none⟩ u1) B A n c xs :=
  (h.setO (fun x => by rw [r.r0]; simp) u0).setO (fun x => by rw [World.cell?_setCell_other _ _ _ _ (by simp), r.r1]; simp) u1
set_option maxHeartbeats 2000000 in
theorem intOf_any (w : World) (B : Nat) (m : Bool) (A : Option Addr) (n c : Nat) (xs : List Nat) (h : LRd w B A n c xs) (hB : B ≤ w.heap.size) (hn : n ≤ 100000) :
    Calls Tryz.prog 29 #[intv m A n c] w (GivesR w (sval m (vb 4294967296 xs))) := by
  have R2 := RB.new w m false A none n c 0 0 24 40
  obtain ⟨W, hW⟩ : ∃ W : World, W = (w.alloc (.cells #[.bool m, .slice A n c] 24)).alloc (.cells #[.bool false, .slice none 0 0] 40) := ⟨_, rfl⟩
  have H2 : LRd W B A n c xs := by rw [hW]; exact (h.alloc hB _).alloc (by simp; omega) _
  have B2 : Below w.heap.size w W := by rw [hW]; exact (bl1 w _).alloc (by simp) _
  have sW : W.heap.size = w.heap.size + 2 := by rw [hW]; simp
  rw [← hW] at R2
  have G0 : Below W.heap.size W W.drew := Below.drew (Below.refl _ _)
  have TT := fun (v : World) (hv : Below W.heap.size W v) => of_any v B A n c xs (H2.below hv (by omega)) (le_at2' (by omega : B ≤ W.heap.size) hv) (by omega)
  obtain ⟨a0, a1, r0, r1, f0, f1, _⟩ := id (R2.below G0 R2.lt)
  go_enter Tryz.func29, Tryz.ntmps29
  go_wp2_with fail
  rw [← hW]
  clear hW
  go_region_with (go_at_call 30; go_loud (refine (TT _ (by first | exact G0 | exact Below.drew G0 | exact Below.drew (Below.drew G0))).mono ?_; rintro e w5 ⟨A5, k5, c5, zs, rfl, hZ, hZr, hb5⟩; obtain ⟨p0, p1, p2, p3, p4, p5, _⟩ := id ((R2.below G0 R2.lt).below hb5 (by simp; omega))))
  all_goals (go_wp2_with fail)
  all_goals
    have R5 := (R2.below G0 R2.lt).below hb5 (by simp; omega)
    have hS := hZ.setRB R5 (.bool m) (.slice A5 k5 c5)
    have hz5 := hb5.size
    first
      | refine bodyPost_ret (v := intv m A5 k5 c5) (by simp [results, Tryz.results29, go_sem, p2, p3]) rfl ⟨m, A5, k5, c5, zs, _, rfl, DRd.more hS (by simp), hZr, rfl, ?_⟩
      | refine bodyPost_ret (v := intv m A5 k5 c5) (by simp [results, Tryz.results29, go_sem, p2, p3]) rfl ⟨m, A5, k5, c5, zs, _, rfl, DRd.keep (DRd.more hS (by simp)) (fun _ _ => rfl), hZr, rfl, ?_⟩
    (repeat (first | exact Below.refl _ _ | exact B2 | refine Below.drew ?_ | refine below_drewN ?_ _ | refine Below.setCell ?_ (by first | (simp; done) | (simp; omega)) _ | refine Below.trans ?_ (Below.mono hb5 (by first | omega | (simp; done) | (simp; omega)))))
theorem rb4_at {W v : World} {s n c n' c' : Nat} {m m' : Bool} {A A' : Option Addr} (R : RB W s m A n c m' A' n' c') (h : Below W.heap.size W v) :
    Below W.heap.size W v ∧ v.cell? ⟨s, 0, none⟩ = some (.bool m) ∧ v.cell? ⟨s, 1, none⟩ = some (.slice A n c) ∧ v.cell? ⟨s + 1, 0, none⟩ = some (.bool m') ∧ v.cell? ⟨s + 1, 1, none⟩ = some (.slice A' n' c') :=
  ⟨h, (R.below h R.lt).a0, (R.below h R.lt).a1, (R.below h R.lt).r0, (R.below h R.lt).r1⟩
theorem rb4_next {W v v' : World} {s n c n' c' : Nat} {m m' : Bool} {A A' : Option Addr} (R : RB W s m A n c m' A' n' c') (h : Below W.heap.size W v) (hb : Below v.heap.size v v') :
    Below W.heap.size W v' ∧ v'.cell? ⟨s, 0, none⟩ = some (.bool m) ∧ v'.cell? ⟨s, 1, none⟩ = some (.slice A n c) ∧ v'.cell? ⟨s + 1, 0, none⟩ = some (.bool m') ∧ v'.cell? ⟨s + 1, 1, none⟩ = some (.slice A' n' c') :=
  rb4_at R (h.trans (hb.mono h.size))
theorem same_sgn {m m' : Bool} {z : Int} {v k : Nat} (h1 : m = decide (z < 0)) (h2 : sval m' v = z) (hk : k = 0 ↔ v = 0) : (m = true ∧ m' = true ∧ 0 < k) ∨ (m = false ∧ m' = false) ∨ (m = false ∧ m' = true ∧ k = 0) := by
  unfold sval at h2
  cases m' <;> simp at h2
  · right; left; refine ⟨?_, rfl⟩; rw [h1]; simp; omega
  · rcases Nat.eq_zero_or_pos k with e | e
    · right; right; refine ⟨?_, rfl, e⟩; rw [h1]; have := hk.1 e; simp; omega
    · left; refine ⟨?_, rfl, e⟩; rw [h1]; have : v ≠ 0 := fun e2 => by have := hk.2 e2; omega
      simp; omega
theorem rep_iff {zs : List Nat} {v k : Nat} (h : Rep 65536 zs v) (hl : zs.length = k) : k = 0 ↔ v = 0 := by
  constructor
  · intro e
    have := h.val
    rw [← this, List.eq_nil_of_length_eq_zero (hl.trans e), vb_nil]
  · intro e
    subst e
    have := h.length_le (m := 0) (by decide) (by decide)
    omega
theorem abs_sval {m : Bool} {v : Nat} {z : Int} (h : sval m v = z) : z.natAbs = v := by rw [← h, sval_abs]
set_option maxHeartbeats 2000000 in
theorem sameInt_any (w : World) (B : Nat) (m m' : Bool) (A D : Option Addr) (n k c d v : Nat) (z : Int) (xs zs : List Nat) (h : LRd w B A n c xs) (h2 : DRd w B D k d zs) (hB : B ≤ w.heap.size) (hx : IRep m xs z) (hz : Rep 65536 zs v) (hv : sval m' v = z) (hk : k ≤ 100000) :
    Calls Tryz.prog 42 #[intv m A n c, intv m' D k d] w fun e w' => e = .returned (.bool true) ∧ Below w.heap.size w w' := by
  have R2 := RB.new w m m' A D n c k d 24 40
  obtain ⟨W, hW⟩ : ∃ W : World, W = (w.alloc (.cells #[.bool m, .slice A n c] 24)).alloc (.cells #[.bool m', .slice D k d] 40) := ⟨_, rfl⟩
  have H2 : LRd W B A n c xs := by rw [hW]; exact (h.alloc hB _).alloc (by simp; omega) _
  have K2 : DRd W B D k d zs := by rw [hW]; exact (h2.alloc hB _).alloc (by simp; omega) _
  have B2 : Below w.heap.size w W := by rw [hW]; exact (bl1 w _).alloc (by simp) _
  have sW : W.heap.size = w.heap.size + 2 := by rw [hW]; simp
  rw [← hW] at R2
  have G0 : Below W.heap.size W W.drew := Below.drew (Below.refl _ _)
  have hcapd := h2.cap
  have hcapx := h.cap
  have hrx : Rep 4294967296 xs v := by have := hx.rep; rwa [abs_sval hv] at this
  have TT := fun (u : World) (hu : Below W.heap.size W u) => limbs_any u B D k d v zs (K2.below hu (by omega)) (le_at2' (by omega : B ≤ W.heap.size) hu) (by omega) hz
  have UU := fun (u : World) (hu : Below W.heap.size W u) (Al : Option Addr) (kl cl : Nat) (ls : List Nat) (hl : LRd u u.heap.size Al kl cl ls) => sameLimbs_any u u.heap.size A Al n kl c cl xs ls ((H2.below hu (by omega)).more (le_at2' (by omega : B ≤ W.heap.size) hu)) hl
  obtain ⟨a0, a1, r0, r1, _, _, _⟩ := id R2
  have HS := same_sgn hx.sgn hv (rep_iff hz h2.len.out)
  rcases HS with ⟨rfl, rfl, hk0⟩ | ⟨rfl, rfl⟩ | ⟨rfl, rfl, rfl⟩
  · go_enter Tryz.func42, Tryz.ntmps42
    go_wp2_with fail
    rw [← hW]
    clear hW
    go_region_held3 (fun u => Below W.heap.size W u ∧ u.cell? ⟨w.heap.size, 0, none⟩ = some (.bool true) ∧ u.cell? ⟨w.heap.size, 1, none⟩ = some (.slice A n c) ∧ u.cell? ⟨w.heap.size + 1, 0, none⟩ = some (.bool true) ∧ u.cell? ⟨w.heap.size + 1, 1, none⟩ = some (.slice D k d))
      (first | exact rb4_at R2 G0 | (go_split_ands; exact rb4_next R2 (by assumption) hb22) | (refine rb4_next R2 (by assumption) hb22))
      (first
        | (go_at_call 88; try go_split_ands; refine (TT _ (by assumption)).mono ?_; rintro e wl ⟨Al, kl, cl, ls, rfl, hl, hlr, hb22⟩; obtain rfl := hrx.unique (by decide) hlr)
        | (go_at_call 87; try go_split_ands; refine (UU _ (by assumption) Al kl cl xs hl).mono ?_; rintro e wi ⟨rfl, q, rfl⟩; have hb22 : Below wl.heap.size wl (wl.drewN q) := below_drewN (Below.refl _ _) q))
    all_goals (go_wp2_with fail)
    all_goals (try go_split_ands)
    all_goals go_ret
    all_goals (exact ⟨by first | rfl | (simp [sameB_refl]; done), B2.trans (Below.mono (by assumption) B2.size)⟩)
  · go_enter Tryz.func42, Tryz.ntmps42
    go_wp2_with fail
    rw [← hW]
    clear hW
    refine wp_region_held_drew (S := (fun u => Below W.heap.size W u ∧ u.cell? ⟨w.heap.size, 0, none⟩ = some (.bool false) ∧ u.cell? ⟨w.heap.size, 1, none⟩ = some (.slice A n c) ∧ u.cell? ⟨w.heap.size + 1, 0, none⟩ = some (.bool false) ∧ u.cell? ⟨w.heap.size + 1, 1, none⟩ = some (.slice D k d))) (by kernel_rfl) (rb4_at R2 G0) (fun hHeld => ?_)
    refine wpAnyH_take (i := 0) (v := ?_) rfl (by kernel_rfl) (by kernel_rfl) (by kernel_rfl) (fun _ _ _ h => h) (Or.inl ⟨by rfl, ?_⟩) (by assumption) ?_
    rotate_left 1
    · (intro w9 hSw; (try dsimp only at hSw); go_simp); (first | done | with_reducible rfl)
    try simp only [Act.put, List.setIfInBounds_toArray, List.set_cons_zero, List.set_cons_succ]
    refine wpAnyH_take (i := 1) (v := ?_) rfl (by kernel_rfl) (by kernel_rfl) (by kernel_rfl) (fun _ _ _ h => h) (Or.inl ⟨by rfl, ?_⟩) (by assumption) ?_
    rotate_left 1
    · (intro w9 hSw; (try dsimp only at hSw); go_simp); (first | done | with_reducible rfl)
    try simp only [Act.put, List.setIfInBounds_toArray, List.set_cons_zero, List.set_cons_succ]
    refine wpAnyH_take (i := 2) (v := ?_) rfl (by kernel_rfl) (by kernel_rfl) (by kernel_rfl) (fun _ _ _ h => h) (Or.inl ⟨by rfl, ?_⟩) (by assumption) ?_
    rotate_left 1
    · (intro w9 hSw; (try dsimp only at hSw); go_simp); (first | done | with_reducible rfl)
    try simp only [Act.put, List.setIfInBounds_toArray, List.set_cons_zero, List.set_cons_succ]
    refine wpAnyH_take (i := 3) (v := ?_) rfl (by kernel_rfl) (by kernel_rfl) (by kernel_rfl) (fun _ _ _ h => h) (Or.inl ⟨by rfl, ?_⟩) (by assumption) ?_
    rotate_left 1
    · (intro w9 hSw; (try dsimp only at hSw); go_simp); (first | done | with_reducible rfl)
    try simp only [Act.put, List.setIfInBounds_toArray, List.set_cons_zero, List.set_cons_succ]
    refine wpAnyH_take (i := 4) (v := ?_) rfl (by kernel_rfl) (by kernel_rfl) (by kernel_rfl) (fun _ _ _ h => h) (Or.inl ⟨by rfl, ?_⟩) (by assumption) ?_
    rotate_left 1
    · (intro w9 hSw; (try dsimp only at hSw); go_simp); (first | done | with_reducible rfl)
    try simp only [Act.put, List.setIfInBounds_toArray, List.set_cons_zero, List.set_cons_succ]
    refine wpAnyH_ready (rs := [5]) (by kernel_rfl) (by simp) ?_
    refine AllReadyH.cons rfl (fun K hK => ?_) AllReadyH.nil
    go_simp
    refine hK.out _ _ (by assumption) (fun _ => ?_)
    clear hK K
    try simp only [Act.put, List.setIfInBounds_toArray, List.set_cons_zero, List.set_cons_succ]
    refine wpAnyH_ready (rs := [6]) (by kernel_rfl) (by simp) ?_
    refine AllReadyH.cons rfl (fun K hK => ?_) AllReadyH.nil
    go_simp
    refine hK.out _ _ (by assumption) (fun _ => ?_)
    clear hK K
    try simp only [Act.put, List.setIfInBounds_toArray, List.set_cons_zero, List.set_cons_succ]
    refine wpAnyH_ready (rs := [7]) (by kernel_rfl) (by simp) ?_
    refine AllReadyH.cons rfl (fun K hK => ?_) AllReadyH.nil
    go_simp
    refine hK.out _ _ (by assumption) (fun _ => ?_)
    clear hK K
    try simp only [Act.put, List.setIfInBounds_toArray, List.set_cons_zero, List.set_cons_succ]
    refine wpAnyH_ready (rs := [8]) (by kernel_rfl) (by simp) ?_
    refine AllReadyH.cons rfl (fun K hK => ?_) AllReadyH.nil
    go_simp
    refine hK.out _ _ (by assumption) (fun _ => ?_)
    clear hK K
    try simp only [Act.put, List.setIfInBounds_toArray, List.set_cons_zero, List.set_cons_succ]
    refine wpAnyH_take (i := 9) (v := ?_) rfl (by kernel_rfl) (by kernel_rfl) (by kernel_rfl) (fun _ _ _ h => h) (Or.inl ⟨by rfl, ?_⟩) (by assumption) ?_
    rotate_left 1
    · (intro w9 hSw; (try dsimp only at hSw); go_simp); (first | done | with_reducible rfl)
    try simp only [Act.put, List.setIfInBounds_toArray, List.set_cons_zero, List.set_cons_succ]
    refine wpAnyH_take (i := 10) (v := ?_) rfl (by kernel_rfl) (by kernel_rfl) (by kernel_rfl) (fun _ _ _ h => h) (Or.inl ⟨by rfl, ?_⟩) (by assumption) ?_
    rotate_left 1
    · (intro w9 hSw; (try dsimp only at hSw); go_simp); (first | done | with_reducible rfl)
    try simp only [Act.put, List.setIfInBounds_toArray, List.set_cons_zero, List.set_cons_succ]
    refine wpAnyH_take (i := 11) (v := ?_) rfl (by kernel_rfl) (by kernel_rfl) (by kernel_rfl) (fun _ _ _ h => h) (Or.inl ⟨by rfl, ?_⟩) (by assumption) ?_
    rotate_left 1
    · (intro w9 hSw; (try dsimp only at hSw); go_simp); (first | done | with_reducible rfl)
    try simp only [Act.put, List.setIfInBounds_toArray, List.set_cons_zero, List.set_cons_succ]
    refine wpAnyH_take (i := 12) (v := ?_) rfl (by kernel_rfl) (by kernel_rfl) (by kernel_rfl) (fun _ _ _ h => h) (Or.inl ⟨by rfl, ?_⟩) (by assumption) ?_
    rotate_left 1
    · (intro w9 hSw; (try dsimp only at hSw); go_simp); (first | done | with_reducible rfl)
    try simp only [Act.put, List.setIfInBounds_toArray, List.set_cons_zero, List.set_cons_succ]
    refine wpAnyH_take (i := 13) (v := ?_) rfl (by kernel_rfl) (by kernel_rfl) (by kernel_rfl) (fun _ _ _ h => h) (Or.inl ⟨by rfl, ?_⟩) (by assumption) ?_
    rotate_left 1
    · (intro w9 hSw; (try dsimp only at hSw); go_simp); (first | done | with_reducible rfl)
    try simp only [Act.put, List.setIfInBounds_toArray, List.set_cons_zero, List.set_cons_succ]
    refine wpAnyH_take (i := 14) (v := ?_) rfl (by kernel_rfl) (by kernel_rfl) (by kernel_rfl) (fun _ _ _ h => h) (Or.inl ⟨by rfl, ?_⟩) (by assumption) ?_
    rotate_left 1
    · (intro w9 hSw; (try dsimp only at hSw); go_simp); (first | done | with_reducible rfl)
    try simp only [Act.put, List.setIfInBounds_toArray, List.set_cons_zero, List.set_cons_succ]
    refine wpAnyH_take (i := 15) (v := ?_) rfl (by kernel_rfl) (by kernel_rfl) (by kernel_rfl) (fun _ _ _ h => h) (Or.inl ⟨by rfl, ?_⟩) (by assumption) ?_
    rotate_left 1
    · (intro w9 hSw; (try dsimp only at hSw); go_simp); (first | done | with_reducible rfl)
    try simp only [Act.put, List.setIfInBounds_toArray, List.set_cons_zero, List.set_cons_succ]
    refine wpAnyH_ready (rs := [16]) (by kernel_rfl) (by simp) ?_
    refine AllReadyH.cons rfl (fun K hK => ?_) AllReadyH.nil
    go_simp
    (go_at_call 88; try go_split_ands; refine (TT _ (by assumption)).mono ?_; rintro e wl ⟨Al, kl, cl, ls, rfl, hl, hlr, hb22⟩; obtain rfl := hrx.unique (by decide) hlr)
    go_wp2_with fail
    refine hK.out _ _ ?_ (fun hHeld2 => ?_)
    · go_split_ands
      exact rb4_next R2 (by assumption) hb22
    clear hK K
    try simp only [Act.put, List.setIfInBounds_toArray, List.set_cons_zero, List.set_cons_succ]
    refine wpAnyH_ready (rs := [17]) (by kernel_rfl) (by simp) ?_
    refine AllReadyH.cons rfl (fun K hK => ?_) AllReadyH.nil
    go_simp
    (go_at_call 87; try go_split_ands; refine (UU _ (by assumption) Al kl cl xs hl).mono ?_; rintro e wi ⟨rfl, q, rfl⟩; have hb22 : Below wl.heap.size wl (wl.drewN q) := below_drewN (Below.refl _ _) q)
    go_wp2_with fail
    refine hK.out _ _ ?_ (fun hHeld3 => ?_)
    · go_split_ands
      exact rb4_next R2 (by assumption) hb22
    clear hK K
    try simp only [Act.put, List.setIfInBounds_toArray, List.set_cons_zero, List.set_cons_succ]
    refine wpAnyH_ready (rs := [18]) (by kernel_rfl) (by simp) ?_
    refine AllReadyH.cons rfl (fun K hK => ?_) AllReadyH.nil
    go_simp
    refine hK.out _ _ (by assumption) (fun _ => ?_)
    clear hK K
    try simp only [Act.put, List.setIfInBounds_toArray, List.set_cons_zero, List.set_cons_succ]
    refine wpAnyH_ready (rs := [19]) (by kernel_rfl) (by simp) ?_
    refine AllReadyH.cons rfl (fun K hK => ?_) AllReadyH.nil
    go_simp
    refine hK.out _ _ (by assumption) (fun _ => ?_)
    clear hK K
    try simp only [Act.put, List.setIfInBounds_toArray, List.set_cons_zero, List.set_cons_succ]
    refine wpAnyH_done (by kernel_rfl) ?_ _
    all_goals (go_wp2_with fail)
    all_goals (try go_split_ands)
    all_goals go_ret
    all_goals (exact ⟨by first | rfl | (simp [sameB_refl]; done), B2.trans (Below.mono (by assumption) B2.size)⟩)
  · go_enter Tryz.func42, Tryz.ntmps42
    go_wp2_with fail
    rw [← hW]
    clear hW
    go_region_held3 (fun u => Below W.heap.size W u ∧ u.cell? ⟨w.heap.size, 0, none⟩ = some (.bool false) ∧ u.cell? ⟨w.heap.size, 1, none⟩ = some (.slice A n c) ∧ u.cell? ⟨w.heap.size + 1, 0, none⟩ = some (.bool true) ∧ u.cell? ⟨w.heap.size + 1, 1, none⟩ = some (.slice D 0 d))
      (first | exact rb4_at R2 G0 | (go_split_ands; exact rb4_next R2 (by assumption) hb22) | (refine rb4_next R2 (by assumption) hb22))
      (first
        | (go_at_call 88; try go_split_ands; refine (TT _ (by assumption)).mono ?_; rintro e wl ⟨Al, kl, cl, ls, rfl, hl, hlr, hb22⟩; obtain rfl := hrx.unique (by decide) hlr)
        | (go_at_call 87; try go_split_ands; refine (UU _ (by assumption) Al kl cl xs hl).mono ?_; rintro e wi ⟨rfl, q, rfl⟩; have hb22 : Below wl.heap.size wl (wl.drewN q) := below_drewN (Below.refl _ _) q))
    all_goals (go_wp2_with fail)
    all_goals (try go_split_ands)
    all_goals go_ret
    all_goals (exact ⟨by first | rfl | (simp [sameB_refl]; done), B2.trans (Below.mono (by assumption) B2.size)⟩)
def NbRel (s : Int) (N b : Nat) (W : World) (n out : Value) (wr : World) : Prop :=
  ∃ (m : Nat) (zs : List Nat), n = .int .i64 (s * (m : Int)) ∧ m ≤ 9223372036854775808 ∧ wr.ownsRow b 4 1 out zs.length (bools zs) ∧ zs.length ≤ 64 ∧ Dig 2 zs ∧ Below b W wr ∧ Hid (vb 2 zs + 2 ^ zs.length * m = N) ∧ Hid (m = 0 → Top zs)
theorem nb_len {N m l v : Nat} (h : v + 2 ^ l * m = N) (hm : 0 < m) (hN : N ≤ 9223372036854775808) : l < 64 := by
  rcases Nat.lt_or_ge l 64 with e | e
  · exact e
  · exfalso
    have h1 : 2 ^ 64 ≤ 2 ^ l := Nat.pow_le_pow_right (by decide) e
    have h2 : 2 ^ l * 1 ≤ 2 ^ l * m := Nat.mul_le_mul_left _ hm
    have h3 : (2 : Nat) ^ 64 = 18446744073709551616 := by decide
    omega
theorem own_nextBW {W wr w1 : World} {b : Nat} {v v' : Value} {zs : List Nat} {x : Int} {t : Bool} {o : Obj} (hx : 0 ≤ x) (ht : t = (x == 1)) (hb : Below b W wr) (hs : b ≤ wr.heap.size) (hown : wr.ownsRow b 4 1 v zs.length (bools zs))
    (hown' : w1.ownsRow b 4 1 v' (zs.length + 1) (bools zs ++ [.bool t])) (hg : (wr.alloc o).grownBy w1 v.ownBlock) :
    w1.ownsRow b 4 1 v' (zs ++ [x.toNat]).length (bools (zs ++ [x.toNat])) ∧ Below b W w1 := by
  subst ht
  refine ⟨by rw [bools_snoc zs hx, List.length_append]; exact hown', ?_⟩
  exact (hb.alloc hs o).grown hg (by simp; omega) (fun k hk => (hown.lt k hk).1)
theorem nb_bit (m : Nat) : (((m : Int) % 2 != 0)) = (((m : Int) % 2) == 1) := by
  rcases (show (m : Int) % 2 = 0 ∨ (m : Int) % 2 = 1 by omega) with e | e <;> rw [e] <;> rfl
theorem nb_bit' (m : Nat) : ((-((m : Int) % 2) != 0)) = (((m : Int) % 2) == 1) := by
  rcases (show (m : Int) % 2 = 0 ∨ (m : Int) % 2 = 1 by omega) with e | e <;> rw [e] <;> rfl
set_option maxHeartbeats 1000000 in
theorem number_pos (w : World) (z : Int) (hn : 0 ≤ z) (hz : z ≤ 9223372036854775807) :
    Calls Tryz.prog 39 #[.int .i64 z] w (GivesR w z) := by
  obtain ⟨i0, hi, hz0, hz1, hz2⟩ := info_parts infoB
  have hN : z.natAbs ≤ 9223372036854775808 := by omega
  go_enter Tryz.func39, Tryz.ntmps39
  go_wp2_with fail
  go_loopw [0, 3] (NbRel 1 z.natAbs (w.heap.size + 1) (w.alloc (.cells #[.bool false, .slice none 0 0] 40))) (fun n _ _ => (intOf n).natAbs)
  case atStart => exact ⟨z.natAbs, [], (by first | rfl | (show Value.int _ _ = Value.int _ _; congr 1; omega)), by omega, World.ownsRow_nil _ _ _ _, by simp, (by intro x hx; cases hx), Below.refl _ _, (by show _ = _; simp [vb_nil]), fun _ => Top.nil⟩
  case round =>
    obtain ⟨m, zs, rfl, hm, hown, hzl, hzd, hbw, HS, HT⟩ := hrel
    have hsz : w.heap.size + 1 ≤ wr.heap.size := by have := hbw.size; simpa using this
    by_cases h0 : m = 0
    · have P0 := (Bk2.new w (.bool false) (.slice none 0 0) 40).below hbw (by omega)
      subst h0
      obtain ⟨A', c', rfl, hc1, hc2⟩ := own_shape hown
      have hor := own_ord hown hzd
      have HR := Lib.hid (show vb 2 zs = z.natAbs by have := HS.out; simpa using this)
      clear hN
      go_wp2_with fail
      refine (binary_any wr wr.heap.size A' zs.length c' zs hor (Nat.le_refl _) (by omega)).mono ?_
      rintro e w5 ⟨A5, k5, c5, ys, rfl, hZ, hZr, hb5⟩
      rw [HR.out] at hZr
      have HZ := Lib.hid hZr
      clear hZr
      obtain ⟨c0, c1, z0, z1, _⟩ := P0.below hb5 (by omega)
      go_wp2_with fail
      have hl := (hZ.setO (fun x => by rw [c0]; simp) (.bool (decide (z < 0)))).setO (p := ⟨w.heap.size, 1, none⟩) (fun x => by rw [World.cell?_setCell_other _ _ _ _ (by simp), c1]; simp) (.slice A5 k5 c5)
      refine bodyPost_ret (v := intv (decide (z < 0)) A5 k5 c5) (by simp [results, Tryz.results39, go_sem, c0, c1]) rfl ⟨(decide (z < 0)), A5, k5, c5, ys, z.natAbs, rfl, DRd.more hl (by simp), HZ.out, (by first | (simp [sval]; omega) | (have e : ¬ z < 0 := by omega; simp [sval, e]; omega)), ?_⟩
      exact ((((bl1 w _).trans (hbw.mono (by simp))).trans (hb5.mono (by omega))).setCell (by simp) _).setCell (by simp) _
    · have hl := nb_len HS.out (by omega) hN
      have ST := Lib.hid (io_step (b := 2) HS.out)
      have TT := Lib.hid (fun e => io_top (b := 2) (zs := zs) (show 0 < m by omega) e)
      have hm0 : 0 < (m : Int) := by omega
      have hne : ((m : Int) != 0) = true := bne_iff_ne.2 (by omega)
      have hne' : (-(m : Int) != 0) = true := bne_iff_ne.2 (by omega)
      clear h0 hN
      go_wp2_with (at_builtin; refine wpList_append_own _ rfl _ _ 109 rfl (w.heap.size + 1) 4 i0 (.bool false) 1 1 Tryz.underlying109 hi hz0 hz1 hz2 rfl (by decide) _ _ _ rfl (hown.alloc _) ⟨wr.heap.size, 0, none⟩ 1 1 [.bool ((m : Int) % 2 != 0)] rfl rfl (cell_one_new _ _ _) (fun u hu => by simp at hu; subst hu; rfl) (by unfold maxLen; omega) (by omega) (by first | (simp; omega) | omega) ?_; intro v' w1 hown' hgrow _)
      obtain ⟨ho, hb1⟩ := own_nextBW (x := (m : Int) % 2) (Int.emod_nonneg _ (by decide)) (nb_bit m) hbw hsz hown hown' hgrow
      clear hown hown' hgrow hne hne'
      go_wp2_with fail
      go_roundw
      case rel => exact ⟨m / 2, _, (by first | go_num | (show Value.int _ _ = Value.int _ _; congr 1; omega)), by omega, ho, by simp; omega, hzd.snoc2 (by omega), hb1, ST.out, TT.out⟩
      case measure => first | (simp [intOf]; done) | (simp [intOf]; omega)
set_option maxHeartbeats 1000000 in
theorem number_neg (w : World) (z : Int) (hn : z < 0) (hz : -9223372036854775808 ≤ z) :
    Calls Tryz.prog 39 #[.int .i64 z] w (GivesR w z) := by
  obtain ⟨i0, hi, hz0, hz1, hz2⟩ := info_parts infoB
  have hN : z.natAbs ≤ 9223372036854775808 := by omega
  go_enter Tryz.func39, Tryz.ntmps39
  go_wp2_with fail
  go_loopw [0, 3] (NbRel (-1) z.natAbs (w.heap.size + 1) (w.alloc (.cells #[.bool false, .slice none 0 0] 40))) (fun n _ _ => (intOf n).natAbs)
  case atStart => exact ⟨z.natAbs, [], (by first | rfl | (show Value.int _ _ = Value.int _ _; congr 1; omega)), by omega, World.ownsRow_nil _ _ _ _, by simp, (by intro x hx; cases hx), Below.refl _ _, (by show _ = _; simp [vb_nil]), fun _ => Top.nil⟩
  case round =>
    obtain ⟨m, zs, rfl, hm, hown, hzl, hzd, hbw, HS, HT⟩ := hrel
    have hsz : w.heap.size + 1 ≤ wr.heap.size := by have := hbw.size; simpa using this
    by_cases h0 : m = 0
    · have P0 := (Bk2.new w (.bool false) (.slice none 0 0) 40).below hbw (by omega)
      subst h0
      obtain ⟨A', c', rfl, hc1, hc2⟩ := own_shape hown
      have hor := own_ord hown hzd
      have HR := Lib.hid (show vb 2 zs = z.natAbs by have := HS.out; simpa using this)
      clear hN
      go_wp2_with fail
      refine (binary_any wr wr.heap.size A' zs.length c' zs hor (Nat.le_refl _) (by omega)).mono ?_
      rintro e w5 ⟨A5, k5, c5, ys, rfl, hZ, hZr, hb5⟩
      rw [HR.out] at hZr
      have HZ := Lib.hid hZr
      clear hZr
      obtain ⟨c0, c1, z0, z1, _⟩ := P0.below hb5 (by omega)
      go_wp2_with fail
      have hl := (hZ.setO (fun x => by rw [c0]; simp) (.bool true)).setO (p := ⟨w.heap.size, 1, none⟩) (fun x => by rw [World.cell?_setCell_other _ _ _ _ (by simp), c1]; simp) (.slice A5 k5 c5)
      refine bodyPost_ret (v := intv true A5 k5 c5) (by simp [results, Tryz.results39, go_sem, c0, c1]) rfl ⟨true, A5, k5, c5, ys, z.natAbs, rfl, DRd.more hl (by simp), HZ.out, (by first | (simp [sval]; omega) | (have e : ¬ z < 0 := by omega; simp [sval, e]; omega)), ?_⟩
      exact ((((bl1 w _).trans (hbw.mono (by simp))).trans (hb5.mono (by omega))).setCell (by simp) _).setCell (by simp) _
    · have hl := nb_len HS.out (by omega) hN
      have ST := Lib.hid (io_step (b := 2) HS.out)
      have TT := Lib.hid (fun e => io_top (b := 2) (zs := zs) (show 0 < m by omega) e)
      have hm0 : 0 < (m : Int) := by omega
      have hne : ((m : Int) != 0) = true := bne_iff_ne.2 (by omega)
      have hne' : (-(m : Int) != 0) = true := bne_iff_ne.2 (by omega)
      clear h0 hN
      go_wp2_with (at_builtin; refine wpList_append_own _ rfl _ _ 109 rfl (w.heap.size + 1) 4 i0 (.bool false) 1 1 Tryz.underlying109 hi hz0 hz1 hz2 rfl (by decide) _ _ _ rfl (hown.alloc _) ⟨wr.heap.size, 0, none⟩ 1 1 [.bool (-((m : Int) % 2) != 0)] rfl rfl (cell_one_new _ _ _) (fun u hu => by simp at hu; subst hu; rfl) (by unfold maxLen; omega) (by omega) (by first | (simp; omega) | omega) ?_; intro v' w1 hown' hgrow _)
      obtain ⟨ho, hb1⟩ := own_nextBW (x := (m : Int) % 2) (Int.emod_nonneg _ (by decide)) (nb_bit' m) hbw hsz hown hown' hgrow
      clear hown hown' hgrow hne hne'
      go_wp2_with fail
      go_roundw
      case rel => exact ⟨m / 2, _, (by first | go_num | (show Value.int _ _ = Value.int _ _; congr 1; omega)), by omega, ho, by simp; omega, hzd.snoc2 (by omega), hb1, ST.out, TT.out⟩
      case measure => first | (simp [intOf]; done) | (simp [intOf]; omega)
theorem number_any (w : World) (z : Int) (h1 : -9223372036854775808 ≤ z) (h2 : z ≤ 9223372036854775807) :
    Calls Tryz.prog 39 #[.int .i64 z] w (GivesR w z) := by
  rcases (show z < 0 ∨ 0 ≤ z by omega) with e | e
  · exact number_neg w z e h1
  · exact number_pos w z e h2
end Go.Proofs.YtfgkhdpdjclmkaaGreat
