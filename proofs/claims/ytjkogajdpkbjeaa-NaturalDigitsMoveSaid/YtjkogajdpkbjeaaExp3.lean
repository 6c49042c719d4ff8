/- Exported functions: DivMod, Sqrt. -/
import Derived.Test.YtjkogajdpkbjeaaExp2
import Derived.Test.YtjkogajdpkbjeaaRoot
namespace Go.Proofs.Ytjkogajdpkbjeaa
open Go.RowKit
set_option maxHeartbeats 400000
set_option maxRecDepth 100000
set_option linter.unusedSimpArgs false
set_option linter.unusedVariables false

def GivesQRF (w : World) (p q : Nat) (f1 f2 : Int) (e : Ending) (w' : World) : Prop :=
  ∃ A k c zs A2 k2 c2 zs2, e = .returned (.tuple #[.slice A k c, .slice A2 k2 c2, flt f1 f2]) ∧ LRd w' w'.heap.size A k c zs ∧ Rep 4294967296 zs p ∧ LRd w' w'.heap.size A2 k2 c2 zs2 ∧ Rep 4294967296 zs2 q ∧ Below w.heap.size w w'

theorem divmod_bad1 (w : World) (B : Nat) (A D : Option Addr) (n m c d : Nat) (xs ys : List Nat) (h : LRd w B A n c xs) (k : LRd w B D m d ys) (hB : B ≤ w.heap.size) (hx : vld xs = false) :
    Calls Try.prog 23 #[.slice A n c, .slice D m d] w (GivesQRF w 0 0 6 ((-1))) := by
  have h1 := fun (o : Obj) => h.below (bl1 w o) hB
  have k1 := fun (o : Obj) => k.below (bl1 w o) hB
  go_enter Try.func23, Try.ntmps23
  go_wp2_with fail
  refine (checkBoth_bad1 _ B A D n m c d xs (h1 _) (by simp; omega) hx).mono ?_
  rintro e w1 ⟨rfl, hb⟩
  obtain ⟨hc, hf⟩ := bcell hb
  have hz : w.heap.size < w1.heap.size := by have := hb.size; simp at this; omega
  go_wp2_with fail
  go_region
  go_wp2_with fail
  refine bodyPost_ret (v := .tuple #[.slice none 0 0, .slice none 0 0, flt 6 (-1)]) (by simp [results, Try.results23, go_sem, hc, hf, hz]) rfl ⟨none, 0, 0, [], none, 0, 0, [], rfl, nil_lrd _, nil_rep, nil_lrd _, nil_rep, ?_⟩
  (repeat (first | exact Below.refl _ _ | exact hb | refine Below.setCell ?_ (by simp; done) _ | refine Below.alloc ?_ (by first | omega | (simp; done) | (simp; omega)) _ | refine Below.drew ?_ | refine below_drewN ?_ _ | refine Below.trans ?_ (Below.mono hb (by first | omega | (simp; done) | (simp; omega)))))

theorem divmod_bad2 (w : World) (B : Nat) (A D : Option Addr) (n m c d : Nat) (xs ys : List Nat) (h : LRd w B A n c xs) (k : LRd w B D m d ys) (hB : B ≤ w.heap.size) (hx : vld xs = true) (hy : vld ys = false) :
    Calls Try.prog 23 #[.slice A n c, .slice D m d] w (GivesQRF w 0 0 6 ((-2))) := by
  have h1 := fun (o : Obj) => h.below (bl1 w o) hB
  have k1 := fun (o : Obj) => k.below (bl1 w o) hB
  go_enter Try.func23, Try.ntmps23
  go_wp2_with fail
  refine (checkBoth_bad2 _ B A D n m c d xs ys (h1 _) (k1 _) (by simp; omega) hx hy).mono ?_
  rintro e w1 ⟨rfl, hb⟩
  obtain ⟨hc, hf⟩ := bcell hb
  have hz : w.heap.size < w1.heap.size := by have := hb.size; simp at this; omega
  go_wp2_with fail
  go_region
  go_wp2_with fail
  refine bodyPost_ret (v := .tuple #[.slice none 0 0, .slice none 0 0, flt 6 (-2)]) (by simp [results, Try.results23, go_sem, hc, hf, hz]) rfl ⟨none, 0, 0, [], none, 0, 0, [], rfl, nil_lrd _, nil_rep, nil_lrd _, nil_rep, ?_⟩
  (repeat (first | exact Below.refl _ _ | exact hb | refine Below.setCell ?_ (by simp; done) _ | refine Below.alloc ?_ (by first | omega | (simp; done) | (simp; omega)) _ | refine Below.drew ?_ | refine below_drewN ?_ _ | refine Below.trans ?_ (Below.mono hb (by first | omega | (simp; done) | (simp; omega)))))

def DmPost (xs ys : List Nat) (w : World) (e : Ending) (w' : World) : Prop :=
  (ys.length = 0 ∧ GivesQRF w 0 0 22 (-2) e w') ∨ (ys.length ≠ 0 ∧ GivesQRF w (vb 4294967296 xs / vb 4294967296 ys) (vb 4294967296 xs % vb 4294967296 ys) 0 0 e w')
set_option maxHeartbeats 1000000 in
theorem divmod_ok (w : World) (B : Nat) (A D : Option Addr) (n m c d : Nat) (xs ys : List Nat) (h : LRd w B A n c xs) (k : LRd w B D m d ys) (hB : B ≤ w.heap.size) (hx : vld xs = true) (hy : vld ys = true) :
    Calls Try.prog 23 #[.slice A n c, .slice D m d] w (DmPost xs ys w) := by
  have h1 := fun (o : Obj) => h.below (bl1 w o) hB
  have k1 := fun (o : Obj) => k.below (bl1 w o) hB
  have hn : n ≤ 600 := by have := (vld_top hx).2; have := h.len.out; omega
  have hm : m ≤ 600 := by have := (vld_top hy).2; have := k.len.out; omega
  go_enter Try.func23, Try.ntmps23
  go_wp2_with fail
  refine (checkBoth_ok _ B A D n m c d xs ys (h1 _) (k1 _) (by simp; omega) hx hy).mono ?_
  rintro e w1 ⟨rfl, hb⟩
  obtain ⟨hc, hf⟩ := bcell hb
  have hz : w.heap.size < w1.heap.size := by have := hb.size; simp at this; omega
  have hb' : Below w.heap.size w w1 := (bl1 w _).trans (hb.mono (by simp))
  have h2 := fun (o : Obj) => (h.below hb' hB).alloc (by omega) o
  have k2 := fun (o : Obj) => (k.below hb' hB).alloc (by omega) o
  by_cases h0 : m = 0
  · subst h0
    go_wp2_with fail
    refine bodyPost_ret (v := .tuple #[.slice none 0 0, .slice none 0 0, flt 22 (-2)]) (by simp [results, Try.results23, go_sem, hc, hf, hz]) rfl (.inl ⟨k.len.out, none, 0, 0, [], none, 0, 0, [], rfl, nil_lrd _, nil_rep, nil_lrd _, nil_rep, ?_⟩)
    (repeat (first | exact Below.refl _ _ | exact hb | refine Below.setCell ?_ (by simp; done) _ | refine Below.alloc ?_ (by first | omega | (simp; done) | (simp; omega)) _ | refine Below.drew ?_ | refine below_drewN ?_ _ | refine Below.trans ?_ (Below.mono hb (by first | omega | (simp; done) | (simp; omega)))))
  · have hf0 : ((m : Int) == 0) = false := beq_eq_false_iff_ne.2 (by omega)
    have hm0 : 0 < m := by omega
    clear h0
    go_wp2_with fail
    refine (divide_any _ B A D n m c d xs ys (h2 _) (k2 _) (by first | omega | (simp; omega)) (by omega) (vld_top hx).1 (vld_top hy).1 hm0).mono ?_
    rintro e w2 ⟨A', k', c', zs, A2, k3, c3, zs2, rfl, hL, hR, hL2, hR2, hb2⟩
    have HR := Lib.hid hR
    have HR2 := Lib.hid hR2
    clear hR hR2
    obtain ⟨hc2, hf2⟩ := bcell hb2
    have hz2 : w1.heap.size < w2.heap.size := by have := hb2.size; simp at this; omega
    have c0 : w2.cell? ⟨w.heap.size, 0, none⟩ = some (.int .i64 0) := by rw [hc2 w.heap.size 0 (by first | omega | (simp; omega))]; simp [go_sem, hc, hz]
    have c1 : w2.cell? ⟨w.heap.size, 1, none⟩ = some (.int .i64 0) := by rw [hc2 w.heap.size 1 (by first | omega | (simp; omega))]; simp [go_sem, hc, hz]
    have f0 : w2.frozen? ⟨w.heap.size, 0, none⟩ = false := by rw [hf2 w.heap.size 0 (by first | omega | (simp; omega))]; simp [go_sem, hf, hz]
    have f1 : w2.frozen? ⟨w.heap.size, 1, none⟩ = false := by rw [hf2 w.heap.size 1 (by first | omega | (simp; omega))]; simp [go_sem, hf, hz]
    clear hc hf hc2 hf2
    go_wp2_with fail
    refine bodyPost_ret (v := .tuple #[.slice A' k' c', .slice A2 k3 c3, flt 0 0]) (by simp [results, Try.results23, go_sem, c0, c1]) rfl (.inr ⟨by have := k.len.out; omega, A', k', c', zs, A2, k3, c3, zs2, rfl, ?_, HR.out, ?_, HR2.out, ?_⟩)
    · exact ((hL.setI c0 _).setI (by rw [World.cell?_setCell_other _ _ _ _ (by simp)]; exact c1) _).more (by simp [World.setCell])
    · exact ((hL2.setI c0 _).setI (by rw [World.cell?_setCell_other _ _ _ _ (by simp)]; exact c1) _).more (by simp [World.setCell])
    · (repeat (first | exact Below.refl _ _ | exact hb2 | exact hb | refine Below.setCell ?_ (by simp; done) _ | refine Below.alloc ?_ (by first | omega | (simp; done) | (simp; omega)) _ | refine Below.drew ?_ | refine below_drewN ?_ _ | refine Below.trans ?_ (Below.mono hb2 (by first | omega | (simp; done) | (simp; omega))) | refine Below.trans ?_ (Below.mono hb (by first | omega | (simp; done) | (simp; omega)))))

theorem sqrt_bad (w : World) (B : Nat) (A : Option Addr) (n c : Nat) (xs : List Nat) (h : LRd w B A n c xs) (hB : B ≤ w.heap.size) (hx : vld xs = false) :
    Calls Try.prog 30 #[.slice A n c] w (GivesF w 0 6 (-1)) := by
  have h1 := fun (o : Obj) => h.below (bl1 w o) hB
  go_enter Try.func30, Try.ntmps30
  go_wp2_with fail
  refine (checkOne_bad _ B A n c xs (h1 _) (by simp; omega) hx).mono ?_
  rintro e w1 ⟨rfl, hb⟩
  obtain ⟨hc, hf⟩ := bcell hb
  have hz : w.heap.size < w1.heap.size := by have := hb.size; simp at this; omega
  go_wp2_with fail
  go_region
  go_wp2_with fail
  refine bodyPost_ret (v := .tuple #[.slice none 0 0, flt 6 (-1)]) (by simp [results, Try.results30, go_sem, hc, hf, hz]) rfl ⟨none, 0, 0, [], rfl, nil_lrd _, nil_rep, ?_⟩
  (repeat (first | exact Below.refl _ _ | exact hb | refine Below.setCell ?_ (by simp; done) _ | refine Below.alloc ?_ (by first | omega | (simp; done) | (simp; omega)) _ | refine Below.drew ?_ | refine below_drewN ?_ _ | refine Below.trans ?_ (Below.mono hb (by first | omega | (simp; done) | (simp; omega)))))
def SqPost (a : Nat) (w : World) (e : Ending) (w' : World) : Prop := ∃ s, s * s ≤ a ∧ a < (s + 1) * (s + 1) ∧ GivesF w s 0 0 e w'
set_option maxHeartbeats 1000000 in
theorem sqrt_ok (w : World) (B : Nat) (A : Option Addr) (n c : Nat) (xs : List Nat) (h : LRd w B A n c xs) (hB : B ≤ w.heap.size) (hx : vld xs = true) :
    Calls Try.prog 30 #[.slice A n c] w (SqPost (vb 4294967296 xs) w) := by
  have h1 := fun (o : Obj) => h.below (bl1 w o) hB
  have hn : n ≤ 600 := by have := (vld_top hx).2; have := h.len.out; omega
  go_enter Try.func30, Try.ntmps30
  go_wp2_with fail
  refine (checkOne_ok _ B A n c xs (h1 _) (by simp; omega) hx).mono ?_
  rintro e w1 ⟨rfl, hb⟩
  obtain ⟨hc, hf⟩ := bcell hb
  have hz : w.heap.size < w1.heap.size := by have := hb.size; simp at this; omega
  have hb' : Below w.heap.size w w1 := (bl1 w _).trans (hb.mono (by simp))
  have h2 := fun (o : Obj) => (h.below hb' hB).alloc (by omega) o
  by_cases h0 : n = 0
  · subst h0
    obtain rfl : xs = [] := List.eq_nil_of_length_eq_zero h.len.out
    go_wp2_with fail
    refine bodyPost_ret (v := .tuple #[.slice none 0 0, flt 0 0]) (by simp [results, Try.results30, go_sem, hc, hf, hz]) rfl ⟨0, by simp, by simp [vb_nil], none, 0, 0, [], rfl, nil_lrd _, nil_rep, ?_⟩
    (repeat (first | exact Below.refl _ _ | exact hb | refine Below.setCell ?_ (by simp; done) _ | refine Below.alloc ?_ (by first | omega | (simp; done) | (simp; omega)) _ | refine Below.drew ?_ | refine below_drewN ?_ _ | refine Below.trans ?_ (Below.mono hb (by first | omega | (simp; done) | (simp; omega)))))
  · have hf0 : ((n : Int) == 0) = false := beq_eq_false_iff_ne.2 (by omega)
    have hn0 : 0 < n := by omega
    clear h0
    go_wp2_with fail
    refine (root_any _ B A n c xs (h2 _) (by first | omega | (simp; omega)) (by omega) (vld_top hx).1 hn0).mono ?_
    rintro e w2 ⟨s, hs1, hs2, A', k', c', zs, rfl, hL, hR, hb2⟩
    have HR := Lib.hid hR
    have HS := Lib.hid (And.intro hs1 hs2)
    clear hR hs1 hs2
    obtain ⟨hc2, hf2⟩ := bcell hb2
    have hz2 : w1.heap.size < w2.heap.size := by have := hb2.size; simp at this; omega
    have c0 : w2.cell? ⟨w.heap.size, 0, none⟩ = some (.int .i64 0) := by rw [hc2 w.heap.size 0 (by first | omega | (simp; omega))]; simp [go_sem, hc, hz]
    have c1 : w2.cell? ⟨w.heap.size, 1, none⟩ = some (.int .i64 0) := by rw [hc2 w.heap.size 1 (by first | omega | (simp; omega))]; simp [go_sem, hc, hz]
    have f0 : w2.frozen? ⟨w.heap.size, 0, none⟩ = false := by rw [hf2 w.heap.size 0 (by first | omega | (simp; omega))]; simp [go_sem, hf, hz]
    have f1 : w2.frozen? ⟨w.heap.size, 1, none⟩ = false := by rw [hf2 w.heap.size 1 (by first | omega | (simp; omega))]; simp [go_sem, hf, hz]
    clear hc hf hc2 hf2
    go_wp2_with fail
    refine bodyPost_ret (v := .tuple #[.slice A' k' c', flt 0 0]) (by simp [results, Try.results30, go_sem, c0, c1]) rfl ⟨s, HS.out.1, HS.out.2, A', k', c', zs, rfl, ?_, HR.out, ?_⟩
    · exact ((hL.setI c0 _).setI (by rw [World.cell?_setCell_other _ _ _ _ (by simp)]; exact c1) _).more (by simp [World.setCell])
    · (repeat (first | exact Below.refl _ _ | exact hb2 | exact hb | refine Below.setCell ?_ (by simp; done) _ | refine Below.alloc ?_ (by first | omega | (simp; done) | (simp; omega)) _ | refine Below.drew ?_ | refine below_drewN ?_ _ | refine Below.trans ?_ (Below.mono hb2 (by first | omega | (simp; done) | (simp; omega))) | refine Below.trans ?_ (Below.mono hb (by first | omega | (simp; done) | (simp; omega)))))
end Go.Proofs.Ytjkogajdpkbjeaa
