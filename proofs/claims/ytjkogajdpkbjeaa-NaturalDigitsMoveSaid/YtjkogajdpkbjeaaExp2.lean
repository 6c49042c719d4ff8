/- Exported functions: Sub, Cmp. -/
import Derived.Test.YtjkogajdpkbjeaaExp1
namespace Go.Proofs.Ytjkogajdpkbjeaa
open Go.RowKit
set_option maxHeartbeats 400000
set_option maxRecDepth 100000
set_option linter.unusedSimpArgs false
set_option linter.unusedVariables false

def SubPost (p q : Nat) (w : World) (e : Ending) (w' : World) : Prop := (q ≤ p ∧ GivesF w (p - q) 0 0 e w') ∨ (p < q ∧ GivesF w 0 4 (-2) e w')
def CmpV (p q : Nat) (r : Int) : Prop := (r = -1 ∧ p < q) ∨ (r = 0 ∧ p = q) ∨ (r = 1 ∧ q < p)
def CmpFPost (p q : Nat) (w : World) (e : Ending) (w' : World) : Prop := ∃ r, CmpV p q r ∧ GivesI w r 0 0 e w'
set_option maxHeartbeats 1000000 in
theorem cmp_ok (w : World) (B : Nat) (A D : Option Addr) (n m c d : Nat) (xs ys : List Nat) (h : LRd w B A n c xs) (k : LRd w B D m d ys) (hB : B ≤ w.heap.size) (hx : vld xs = true) (hy : vld ys = true) :
    Calls Try.prog 12 #[.slice A n c, .slice D m d] w (CmpFPost (vb 4294967296 xs) (vb 4294967296 ys) w) := by
  have h1 := fun (o : Obj) => h.below (bl1 w o) hB
  have k1 := fun (o : Obj) => k.below (bl1 w o) hB
  have hn : n ≤ 600 := by have := (vld_top hx).2; have := h.len.out; omega
  have hm : m ≤ 600 := by have := (vld_top hy).2; have := k.len.out; omega
  go_enter Try.func12, Try.ntmps12
  go_wp2_with fail
  refine (checkBoth_ok _ B A D n m c d xs ys (h1 _) (k1 _) (by simp; omega) hx hy).mono ?_
  rintro e w1 ⟨rfl, hb⟩
  obtain ⟨hc, hf⟩ := bcell hb
  have hz : w.heap.size < w1.heap.size := by have := hb.size; simp at this; omega
  have hb' : Below w.heap.size w w1 := (bl1 w _).trans (hb.mono (by simp))
  have h2 := fun (o : Obj) => (h.below hb' hB).alloc (by omega) o
  have k2 := fun (o : Obj) => (k.below hb' hB).alloc (by omega) o
  go_wp2_with fail
  refine (compare_any _ B A D n m c d xs ys (h2 _) (k2 _)).mono ?_
  rintro e w2 ⟨r, rfl, hr, q, rfl⟩
  have HR := Lib.hid (cmp_val hr h.len.out k.len.out h.lim k.lim (vld_top hx).1 (vld_top hy).1)
  clear hr
  go_wp2_with fail
  refine bodyPost_ret (v := .tuple #[.int .i64 r, flt 0 0]) (by simp [results, Try.results12, go_sem, hc, hf, hz]) rfl ⟨r, HR.out, rfl, ?_⟩
  (repeat (first | exact Below.refl _ _ | exact hb | refine Below.setCell ?_ (by simp; done) _ | refine Below.alloc ?_ (by first | omega | (simp; done) | (simp; omega)) _ | refine Below.drew ?_ | refine below_drewN ?_ _ | refine Below.trans ?_ (Below.mono hb (by first | omega | (simp; done) | (simp; omega)))))

set_option maxHeartbeats 1000000 in
theorem sub_ok (w : World) (B : Nat) (A D : Option Addr) (n m c d : Nat) (xs ys : List Nat) (h : LRd w B A n c xs) (k : LRd w B D m d ys) (hB : B ≤ w.heap.size) (hx : vld xs = true) (hy : vld ys = true) :
    Calls Try.prog 10 #[.slice A n c, .slice D m d] w (SubPost (vb 4294967296 xs) (vb 4294967296 ys) w) := by
  have h1 := fun (o : Obj) => h.below (bl1 w o) hB
  have k1 := fun (o : Obj) => k.below (bl1 w o) hB
  have hn : n ≤ 600 := by have := (vld_top hx).2; have := h.len.out; omega
  have hm : m ≤ 600 := by have := (vld_top hy).2; have := k.len.out; omega
  go_enter Try.func10, Try.ntmps10
  go_wp2_with fail
  refine (checkBoth_ok _ B A D n m c d xs ys (h1 _) (k1 _) (by simp; omega) hx hy).mono ?_
  rintro e w1 ⟨rfl, hb⟩
  obtain ⟨hc, hf⟩ := bcell hb
  have hz : w.heap.size < w1.heap.size := by have := hb.size; simp at this; omega
  have hb' : Below w.heap.size w w1 := (bl1 w _).trans (hb.mono (by simp))
  have h2 := fun (o : Obj) => (h.below hb' hB).alloc (by omega) o
  have k2 := fun (o : Obj) => (k.below hb' hB).alloc (by omega) o
  go_wp2_with fail
  refine (compare_any _ B A D n m c d xs ys (h2 _) (k2 _)).mono ?_
  rintro e w2 ⟨r, rfl, hr, q, rfl⟩
  have HR := Lib.hid (cmp_val hr h.len.out k.len.out h.lim k.lim (vld_top hx).1 (vld_top hy).1)
  clear hr
  by_cases hlt : r < 0
  · go_wp2_with fail
    refine bodyPost_ret (v := .tuple #[.slice none 0 0, flt 4 (-2)]) (by simp [results, Try.results10, go_sem, hc, hf, hz]) rfl (.inr ⟨by have := HR.out; omega, none, 0, 0, [], rfl, nil_lrd _, nil_rep, ?_⟩)
    (repeat (first | exact Below.refl _ _ | exact hb | refine Below.setCell ?_ (by simp; done) _ | refine Below.alloc ?_ (by first | omega | (simp; done) | (simp; omega)) _ | refine Below.drew ?_ | refine below_drewN ?_ _ | refine Below.trans ?_ (Below.mono hb (by first | omega | (simp; done) | (simp; omega)))))
  · have hle : vb 4294967296 ys ≤ vb 4294967296 xs := by have := HR.out; omega
    have hmn := long_len hle (vld_top hy).1 k.len.out h.len.out h.lim
    go_wp2_with fail
    refine (diff_any _ B A D n m c d xs ys ((h2 _).drewN q) ((k2 _).drewN q) (by first | omega | (simp; omega)) (by omega) hmn hle).mono ?_
    rintro e w2 ⟨A', k', c', zs, rfl, hL, hR, hb2⟩
    have HR2 := Lib.hid hR
    have HLE := Lib.hid hle
    clear hR hle
    obtain ⟨hc2, hf2⟩ := bcell hb2
    have hz2 : w1.heap.size < w2.heap.size := by have := hb2.size; simp at this; omega
    have c0 : w2.cell? ⟨w.heap.size, 0, none⟩ = some (.int .i64 0) := by rw [hc2 w.heap.size 0 (by first | omega | (simp; omega))]; simp [go_sem, hc, hz]
    have c1 : w2.cell? ⟨w.heap.size, 1, none⟩ = some (.int .i64 0) := by rw [hc2 w.heap.size 1 (by first | omega | (simp; omega))]; simp [go_sem, hc, hz]
    have f0 : w2.frozen? ⟨w.heap.size, 0, none⟩ = false := by rw [hf2 w.heap.size 0 (by first | omega | (simp; omega))]; simp [go_sem, hf, hz]
    have f1 : w2.frozen? ⟨w.heap.size, 1, none⟩ = false := by rw [hf2 w.heap.size 1 (by first | omega | (simp; omega))]; simp [go_sem, hf, hz]
    clear hc hf hc2 hf2
    go_wp2_with fail
    refine bodyPost_ret (v := .tuple #[.slice A' k' c', flt 0 0]) (by simp [results, Try.results10, go_sem, c0, c1]) rfl (.inl ⟨HLE.out, A', k', c', zs, rfl, ?_, HR2.out, ?_⟩)
    · exact ((hL.setI c0 _).setI (by rw [World.cell?_setCell_other _ _ _ _ (by simp)]; exact c1) _).more (by simp [World.setCell])
    · (repeat (first | exact Below.refl _ _ | exact hb2 | exact hb | refine Below.setCell ?_ (by simp; done) _ | refine Below.alloc ?_ (by first | omega | (simp; done) | (simp; omega)) _ | refine Below.drew ?_ | refine below_drewN ?_ _ | refine Below.trans ?_ (Below.mono hb2 (by first | omega | (simp; done) | (simp; omega))) | refine Below.trans ?_ (Below.mono hb (by first | omega | (simp; done) | (simp; omega)))))

end Go.Proofs.Ytjkogajdpkbjeaa
