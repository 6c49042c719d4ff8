/- Exported functions: Add, Mul, Sub, Cmp. -/
import Derived.Test.YtjkogajdpkbjeaaExp0
namespace Go.Proofs.Ytjkogajdpkbjeaa
open Go.RowKit
set_option maxHeartbeats 400000
set_option maxRecDepth 100000
set_option linter.unusedSimpArgs false
set_option linter.unusedVariables false

theorem add_bad1 (w : World) (B : Nat) (A D : Option Addr) (n m c d : Nat) (xs ys : List Nat) (h : LRd w B A n c xs) (k : LRd w B D m d ys) (hB : B ≤ w.heap.size) (hx : vld xs = false) :
    Calls Try.prog 9 #[.slice A n c, .slice D m d] w (GivesF w 0 6 ((-1))) := by
  have h1 := fun (o : Obj) => h.below (bl1 w o) hB
  have k1 := fun (o : Obj) => k.below (bl1 w o) hB
  go_enter Try.func9, Try.ntmps9
  go_wp2_with fail
  refine (checkBoth_bad1 _ B A D n m c d xs (h1 _) (by simp; omega) hx).mono ?_
  rintro e w1 ⟨rfl, hb⟩
  obtain ⟨hc, hf⟩ := bcell hb
  have hz : w.heap.size < w1.heap.size := by have := hb.size; simp at this; omega
  go_wp2_with fail
  go_region
  go_wp2_with fail
  refine bodyPost_ret (v := .tuple #[.slice none 0 0, flt 6 (-1)]) (by simp [results, Try.results9, go_sem, hc, hf, hz]) rfl ⟨none, 0, 0, [], rfl, nil_lrd _, nil_rep, ?_⟩
  (repeat (first | exact Below.refl _ _ | exact hb | refine Below.setCell ?_ (by simp; done) _ | refine Below.alloc ?_ (by first | omega | (simp; done) | (simp; omega)) _ | refine Below.drew ?_ | refine below_drewN ?_ _ | refine Below.trans ?_ (Below.mono hb (by first | omega | (simp; done) | (simp; omega)))))

theorem add_bad2 (w : World) (B : Nat) (A D : Option Addr) (n m c d : Nat) (xs ys : List Nat) (h : LRd w B A n c xs) (k : LRd w B D m d ys) (hB : B ≤ w.heap.size) (hx : vld xs = true) (hy : vld ys = false) :
    Calls Try.prog 9 #[.slice A n c, .slice D m d] w (GivesF w 0 6 ((-2))) := by
  have h1 := fun (o : Obj) => h.below (bl1 w o) hB
  have k1 := fun (o : Obj) => k.below (bl1 w o) hB
  go_enter Try.func9, Try.ntmps9
  go_wp2_with fail
  refine (checkBoth_bad2 _ B A D n m c d xs ys (h1 _) (k1 _) (by simp; omega) hx hy).mono ?_
  rintro e w1 ⟨rfl, hb⟩
  obtain ⟨hc, hf⟩ := bcell hb
  have hz : w.heap.size < w1.heap.size := by have := hb.size; simp at this; omega
  go_wp2_with fail
  go_region
  go_wp2_with fail
  refine bodyPost_ret (v := .tuple #[.slice none 0 0, flt 6 (-2)]) (by simp [results, Try.results9, go_sem, hc, hf, hz]) rfl ⟨none, 0, 0, [], rfl, nil_lrd _, nil_rep, ?_⟩
  (repeat (first | exact Below.refl _ _ | exact hb | refine Below.setCell ?_ (by simp; done) _ | refine Below.alloc ?_ (by first | omega | (simp; done) | (simp; omega)) _ | refine Below.drew ?_ | refine below_drewN ?_ _ | refine Below.trans ?_ (Below.mono hb (by first | omega | (simp; done) | (simp; omega)))))

theorem mul_bad1 (w : World) (B : Nat) (A D : Option Addr) (n m c d : Nat) (xs ys : List Nat) (h : LRd w B A n c xs) (k : LRd w B D m d ys) (hB : B ≤ w.heap.size) (hx : vld xs = false) :
    Calls Try.prog 11 #[.slice A n c, .slice D m d] w (GivesF w 0 6 ((-1))) := by
  have h1 := fun (o : Obj) => h.below (bl1 w o) hB
  have k1 := fun (o : Obj) => k.below (bl1 w o) hB
  go_enter Try.func11, Try.ntmps11
  go_wp2_with fail
  refine (checkBoth_bad1 _ B A D n m c d xs (h1 _) (by simp; omega) hx).mono ?_
  rintro e w1 ⟨rfl, hb⟩
  obtain ⟨hc, hf⟩ := bcell hb
  have hz : w.heap.size < w1.heap.size := by have := hb.size; simp at this; omega
  go_wp2_with fail
  go_region
  go_wp2_with fail
  refine bodyPost_ret (v := .tuple #[.slice none 0 0, flt 6 (-1)]) (by simp [results, Try.results11, go_sem, hc, hf, hz]) rfl ⟨none, 0, 0, [], rfl, nil_lrd _, nil_rep, ?_⟩
  (repeat (first | exact Below.refl _ _ | exact hb | refine Below.setCell ?_ (by simp; done) _ | refine Below.alloc ?_ (by first | omega | (simp; done) | (simp; omega)) _ | refine Below.drew ?_ | refine below_drewN ?_ _ | refine Below.trans ?_ (Below.mono hb (by first | omega | (simp; done) | (simp; omega)))))

theorem mul_bad2 (w : World) (B : Nat) (A D : Option Addr) (n m c d : Nat) (xs ys : List Nat) (h : LRd w B A n c xs) (k : LRd w B D m d ys) (hB : B ≤ w.heap.size) (hx : vld xs = true) (hy : vld ys = false) :
    Calls Try.prog 11 #[.slice A n c, .slice D m d] w (GivesF w 0 6 ((-2))) := by
  have h1 := fun (o : Obj) => h.below (bl1 w o) hB
  have k1 := fun (o : Obj) => k.below (bl1 w o) hB
  go_enter Try.func11, Try.ntmps11
  go_wp2_with fail
  refine (checkBoth_bad2 _ B A D n m c d xs ys (h1 _) (k1 _) (by simp; omega) hx hy).mono ?_
  rintro e w1 ⟨rfl, hb⟩
  obtain ⟨hc, hf⟩ := bcell hb
  have hz : w.heap.size < w1.heap.size := by have := hb.size; simp at this; omega
  go_wp2_with fail
  go_region
  go_wp2_with fail
  refine bodyPost_ret (v := .tuple #[.slice none 0 0, flt 6 (-2)]) (by simp [results, Try.results11, go_sem, hc, hf, hz]) rfl ⟨none, 0, 0, [], rfl, nil_lrd _, nil_rep, ?_⟩
  (repeat (first | exact Below.refl _ _ | exact hb | refine Below.setCell ?_ (by simp; done) _ | refine Below.alloc ?_ (by first | omega | (simp; done) | (simp; omega)) _ | refine Below.drew ?_ | refine below_drewN ?_ _ | refine Below.trans ?_ (Below.mono hb (by first | omega | (simp; done) | (simp; omega)))))

theorem sub_bad1 (w : World) (B : Nat) (A D : Option Addr) (n m c d : Nat) (xs ys : List Nat) (h : LRd w B A n c xs) (k : LRd w B D m d ys) (hB : B ≤ w.heap.size) (hx : vld xs = false) :
    Calls Try.prog 10 #[.slice A n c, .slice D m d] w (GivesF w 0 6 ((-1))) := by
  have h1 := fun (o : Obj) => h.below (bl1 w o) hB
  have k1 := fun (o : Obj) => k.below (bl1 w o) hB
  go_enter Try.func10, Try.ntmps10
  go_wp2_with fail
  refine (checkBoth_bad1 _ B A D n m c d xs (h1 _) (by simp; omega) hx).mono ?_
  rintro e w1 ⟨rfl, hb⟩
  obtain ⟨hc, hf⟩ := bcell hb
  have hz : w.heap.size < w1.heap.size := by have := hb.size; simp at this; omega
  go_wp2_with fail
  go_region
  go_wp2_with fail
  refine bodyPost_ret (v := .tuple #[.slice none 0 0, flt 6 (-1)]) (by simp [results, Try.results10, go_sem, hc, hf, hz]) rfl ⟨none, 0, 0, [], rfl, nil_lrd _, nil_rep, ?_⟩
  (repeat (first | exact Below.refl _ _ | exact hb | refine Below.setCell ?_ (by simp; done) _ | refine Below.alloc ?_ (by first | omega | (simp; done) | (simp; omega)) _ | refine Below.drew ?_ | refine below_drewN ?_ _ | refine Below.trans ?_ (Below.mono hb (by first | omega | (simp; done) | (simp; omega)))))

theorem sub_bad2 (w : World) (B : Nat) (A D : Option Addr) (n m c d : Nat) (xs ys : List Nat) (h : LRd w B A n c xs) (k : LRd w B D m d ys) (hB : B ≤ w.heap.size) (hx : vld xs = true) (hy : vld ys = false) :
    Calls Try.prog 10 #[.slice A n c, .slice D m d] w (GivesF w 0 6 ((-2))) := by
  have h1 := fun (o : Obj) => h.below (bl1 w o) hB
  have k1 := fun (o : Obj) => k.below (bl1 w o) hB
  go_enter Try.func10, Try.ntmps10
  go_wp2_with fail
  refine (checkBoth_bad2 _ B A D n m c d xs ys (h1 _) (k1 _) (by simp; omega) hx hy).mono ?_
  rintro e w1 ⟨rfl, hb⟩
  obtain ⟨hc, hf⟩ := bcell hb
  have hz : w.heap.size < w1.heap.size := by have := hb.size; simp at this; omega
  go_wp2_with fail
  go_region
  go_wp2_with fail
  refine bodyPost_ret (v := .tuple #[.slice none 0 0, flt 6 (-2)]) (by simp [results, Try.results10, go_sem, hc, hf, hz]) rfl ⟨none, 0, 0, [], rfl, nil_lrd _, nil_rep, ?_⟩
  (repeat (first | exact Below.refl _ _ | exact hb | refine Below.setCell ?_ (by simp; done) _ | refine Below.alloc ?_ (by first | omega | (simp; done) | (simp; omega)) _ | refine Below.drew ?_ | refine below_drewN ?_ _ | refine Below.trans ?_ (Below.mono hb (by first | omega | (simp; done) | (simp; omega)))))

theorem cmp_bad1 (w : World) (B : Nat) (A D : Option Addr) (n m c d : Nat) (xs ys : List Nat) (h : LRd w B A n c xs) (k : LRd w B D m d ys) (hB : B ≤ w.heap.size) (hx : vld xs = false) :
    Calls Try.prog 12 #[.slice A n c, .slice D m d] w (GivesI w 0 6 ((-1))) := by
  have h1 := fun (o : Obj) => h.below (bl1 w o) hB
  have k1 := fun (o : Obj) => k.below (bl1 w o) hB
  go_enter Try.func12, Try.ntmps12
  go_wp2_with fail
  refine (checkBoth_bad1 _ B A D n m c d xs (h1 _) (by simp; omega) hx).mono ?_
  rintro e w1 ⟨rfl, hb⟩
  obtain ⟨hc, hf⟩ := bcell hb
  have hz : w.heap.size < w1.heap.size := by have := hb.size; simp at this; omega
  go_wp2_with fail
  go_region
  go_wp2_with fail
  refine bodyPost_ret (v := .tuple #[.int .i64 0, flt 6 (-1)]) (by simp [results, Try.results12, go_sem, hc, hf, hz]) rfl ⟨rfl, ?_⟩
  (repeat (first | exact Below.refl _ _ | exact hb | refine Below.setCell ?_ (by simp; done) _ | refine Below.alloc ?_ (by first | omega | (simp; done) | (simp; omega)) _ | refine Below.drew ?_ | refine below_drewN ?_ _ | refine Below.trans ?_ (Below.mono hb (by first | omega | (simp; done) | (simp; omega)))))

theorem cmp_bad2 (w : World) (B : Nat) (A D : Option Addr) (n m c d : Nat) (xs ys : List Nat) (h : LRd w B A n c xs) (k : LRd w B D m d ys) (hB : B ≤ w.heap.size) (hx : vld xs = true) (hy : vld ys = false) :
    Calls Try.prog 12 #[.slice A n c, .slice D m d] w (GivesI w 0 6 ((-2))) := by
  have h1 := fun (o : Obj) => h.below (bl1 w o) hB
  have k1 := fun (o : Obj) => k.below (bl1 w o) hB
  go_enter Try.func12, Try.ntmps12
  go_wp2_with fail
  refine (checkBoth_bad2 _ B A D n m c d xs ys (h1 _) (k1 _) (by simp; omega) hx hy).mono ?_
  rintro e w1 ⟨rfl, hb⟩
  obtain ⟨hc, hf⟩ := bcell hb
  have hz : w.heap.size < w1.heap.size := by have := hb.size; simp at this; omega
  go_wp2_with fail
  go_region
  go_wp2_with fail
  refine bodyPost_ret (v := .tuple #[.int .i64 0, flt 6 (-2)]) (by simp [results, Try.results12, go_sem, hc, hf, hz]) rfl ⟨rfl, ?_⟩
  (repeat (first | exact Below.refl _ _ | exact hb | refine Below.setCell ?_ (by simp; done) _ | refine Below.alloc ?_ (by first | omega | (simp; done) | (simp; omega)) _ | refine Below.drew ?_ | refine below_drewN ?_ _ | refine Below.trans ?_ (Below.mono hb (by first | omega | (simp; done) | (simp; omega)))))

set_option maxHeartbeats 1000000 in
theorem add_ok (w : World) (B : Nat) (A D : Option Addr) (n m c d : Nat) (xs ys : List Nat) (h : LRd w B A n c xs) (k : LRd w B D m d ys) (hB : B ≤ w.heap.size) (hx : vld xs = true) (hy : vld ys = true) :
    Calls Try.prog 9 #[.slice A n c, .slice D m d] w (GivesB w (vb 4294967296 xs + vb 4294967296 ys)) := by
  have h1 := fun (o : Obj) => h.below (bl1 w o) hB
  have k1 := fun (o : Obj) => k.below (bl1 w o) hB
  have hn : n ≤ 600 := by have := (vld_top hx).2; have := h.len.out; omega
  have hm : m ≤ 600 := by have := (vld_top hy).2; have := k.len.out; omega
  go_enter Try.func9, Try.ntmps9
  go_wp2_with fail
  refine (checkBoth_ok _ B A D n m c d xs ys (h1 _) (k1 _) (by simp; omega) hx hy).mono ?_
  rintro e w1 ⟨rfl, hb⟩
  obtain ⟨hc, hf⟩ := bcell hb
  have hz : w.heap.size < w1.heap.size := by have := hb.size; simp at this; omega
  have hb' : Below w.heap.size w w1 := (bl1 w _).trans (hb.mono (by simp))
  have h2 := fun (o : Obj) => (h.below hb' hB).alloc (by omega) o
  have k2 := fun (o : Obj) => (k.below hb' hB).alloc (by omega) o
  go_wp2_with fail
  refine (sum_any _ B A D n m c d xs ys (h2 _) (k2 _) (by simp; omega) (by omega) (by omega)).mono ?_
  rintro e w2 ⟨A', k', c', zs, rfl, hL, hR, hb2⟩
  have HR := Lib.hid hR
  clear hR
  obtain ⟨hc2, hf2⟩ := bcell hb2
  have hz2 : w1.heap.size < w2.heap.size := by have := hb2.size; simp at this; omega
  have hcap := hL.cap
  have hln := hL.len
  by_cases hk : k' ≤ 600
  · go_wp2_with fail
    refine (limited_ok w2 A' k' c' hk).mono ?_
    rintro e w3 ⟨rfl, hb3⟩
    obtain ⟨hc3, hf3⟩ := bcell hb3
    have hz3 := hb3.size
    have hL3 := (hL.below hb3 (Nat.le_refl _)).more hz3
    have c0 : w3.cell? ⟨w.heap.size, 0, none⟩ = some (.int .i64 0) := by rw [hc3 w.heap.size 0 (by omega), hc2 w.heap.size 0 (by first | omega | (simp; omega))]; simp [go_sem, hc, hz]
    have c1 : w3.cell? ⟨w.heap.size, 1, none⟩ = some (.int .i64 0) := by rw [hc3 w.heap.size 1 (by omega), hc2 w.heap.size 1 (by first | omega | (simp; omega))]; simp [go_sem, hc, hz]
    have f0 : w3.frozen? ⟨w.heap.size, 0, none⟩ = false := by rw [hf3 w.heap.size 0 (by omega), hf2 w.heap.size 0 (by first | omega | (simp; omega))]; simp [go_sem, hf, hz]
    have f1 : w3.frozen? ⟨w.heap.size, 1, none⟩ = false := by rw [hf3 w.heap.size 1 (by omega), hf2 w.heap.size 1 (by first | omega | (simp; omega))]; simp [go_sem, hf, hz]
    clear hc hf hc2 hf2 hc3 hf3
    go_wp2_with fail
    refine bodyPost_ret (v := .tuple #[.slice A' k' c', flt 0 0]) (by simp [results, Try.results9, go_sem, c0, c1]) rfl (.inl ⟨fit_len HR.out hln.out hk, A', k', c', zs, rfl, ?_, HR.out, ?_⟩)
    · exact ((hL3.setI c0 _).setI (by rw [World.cell?_setCell_other _ _ _ _ (by simp)]; exact c1) _).more (by simp [World.setCell])
    · (repeat (first | exact Below.refl _ _ | exact hb3 | exact hb2 | exact hb | refine Below.setCell ?_ (by simp; done) _ | refine Below.alloc ?_ (by first | omega | (simp; done) | (simp; omega)) _ | refine Below.drew ?_ | refine below_drewN ?_ _ | refine Below.trans ?_ (Below.mono hb3 (by first | omega | (simp; done) | (simp; omega))) | refine Below.trans ?_ (Below.mono hb2 (by first | omega | (simp; done) | (simp; omega))) | refine Below.trans ?_ (Below.mono hb (by first | omega | (simp; done) | (simp; omega)))))
  · go_wp2_with fail
    refine (limited_bad w2 A' k' c' (by omega) (by omega)).mono ?_
    rintro e w3 ⟨rfl, hb3⟩
    obtain ⟨hc3, hf3⟩ := bcell hb3
    have hz3 := hb3.size
    have c0 : w3.cell? ⟨w.heap.size, 0, none⟩ = some (.int .i64 0) := by rw [hc3 w.heap.size 0 (by omega), hc2 w.heap.size 0 (by first | omega | (simp; omega))]; simp [go_sem, hc, hz]
    have c1 : w3.cell? ⟨w.heap.size, 1, none⟩ = some (.int .i64 0) := by rw [hc3 w.heap.size 1 (by omega), hc2 w.heap.size 1 (by first | omega | (simp; omega))]; simp [go_sem, hc, hz]
    have f0 : w3.frozen? ⟨w.heap.size, 0, none⟩ = false := by rw [hf3 w.heap.size 0 (by omega), hf2 w.heap.size 0 (by first | omega | (simp; omega))]; simp [go_sem, hf, hz]
    have f1 : w3.frozen? ⟨w.heap.size, 1, none⟩ = false := by rw [hf3 w.heap.size 1 (by omega), hf2 w.heap.size 1 (by first | omega | (simp; omega))]; simp [go_sem, hf, hz]
    clear hc hf hc2 hf2 hc3 hf3
    go_wp2_with fail
    refine bodyPost_ret (v := .tuple #[.slice none 0 0, flt 14 (-1)]) (by simp [results, Try.results9, go_sem, c0, c1]) rfl (.inr ⟨big_len HR.out hln.out (by omega), none, 0, 0, [], rfl, nil_lrd _, nil_rep, ?_⟩)
    (repeat (first | exact Below.refl _ _ | exact hb3 | exact hb2 | exact hb | refine Below.setCell ?_ (by simp; done) _ | refine Below.alloc ?_ (by first | omega | (simp; done) | (simp; omega)) _ | refine Below.drew ?_ | refine below_drewN ?_ _ | refine Below.trans ?_ (Below.mono hb3 (by first | omega | (simp; done) | (simp; omega))) | refine Below.trans ?_ (Below.mono hb2 (by first | omega | (simp; done) | (simp; omega))) | refine Below.trans ?_ (Below.mono hb (by first | omega | (simp; done) | (simp; omega)))))

set_option maxHeartbeats 1000000 in
theorem mul_ok (w : World) (B : Nat) (A D : Option Addr) (n m c d : Nat) (xs ys : List Nat) (h : LRd w B A n c xs) (k : LRd w B D m d ys) (hB : B ≤ w.heap.size) (hx : vld xs = true) (hy : vld ys = true) :
    Calls Try.prog 11 #[.slice A n c, .slice D m d] w (GivesB w (vb 4294967296 xs * vb 4294967296 ys)) := by
  have h1 := fun (o : Obj) => h.below (bl1 w o) hB
  have k1 := fun (o : Obj) => k.below (bl1 w o) hB
  have hn : n ≤ 600 := by have := (vld_top hx).2; have := h.len.out; omega
  have hm : m ≤ 600 := by have := (vld_top hy).2; have := k.len.out; omega
  go_enter Try.func11, Try.ntmps11
  go_wp2_with fail
  refine (checkBoth_ok _ B A D n m c d xs ys (h1 _) (k1 _) (by simp; omega) hx hy).mono ?_
  rintro e w1 ⟨rfl, hb⟩
  obtain ⟨hc, hf⟩ := bcell hb
  have hz : w.heap.size < w1.heap.size := by have := hb.size; simp at this; omega
  have hb' : Below w.heap.size w w1 := (bl1 w _).trans (hb.mono (by simp))
  have h2 := fun (o : Obj) => (h.below hb' hB).alloc (by omega) o
  have k2 := fun (o : Obj) => (k.below hb' hB).alloc (by omega) o
  go_wp2_with fail
  refine (product_any _ B A D n m c d xs ys (h2 _) (k2 _) (by simp; omega) (by omega) (by omega)).mono ?_
  rintro e w2 ⟨A', k', c', zs, rfl, hL, hR, hb2⟩
  have HR := Lib.hid hR
  clear hR
  obtain ⟨hc2, hf2⟩ := bcell hb2
  have hz2 : w1.heap.size < w2.heap.size := by have := hb2.size; simp at this; omega
  have hcap := hL.cap
  have hln := hL.len
  by_cases hk : k' ≤ 600
  · go_wp2_with fail
    refine (limited_ok w2 A' k' c' hk).mono ?_
    rintro e w3 ⟨rfl, hb3⟩
    obtain ⟨hc3, hf3⟩ := bcell hb3
    have hz3 := hb3.size
    have hL3 := (hL.below hb3 (Nat.le_refl _)).more hz3
    have c0 : w3.cell? ⟨w.heap.size, 0, none⟩ = some (.int .i64 0) := by rw [hc3 w.heap.size 0 (by omega), hc2 w.heap.size 0 (by first | omega | (simp; omega))]; simp [go_sem, hc, hz]
    have c1 : w3.cell? ⟨w.heap.size, 1, none⟩ = some (.int .i64 0) := by rw [hc3 w.heap.size 1 (by omega), hc2 w.heap.size 1 (by first | omega | (simp; omega))]; simp [go_sem, hc, hz]
    have f0 : w3.frozen? ⟨w.heap.size, 0, none⟩ = false := by rw [hf3 w.heap.size 0 (by omega), hf2 w.heap.size 0 (by first | omega | (simp; omega))]; simp [go_sem, hf, hz]
    have f1 : w3.frozen? ⟨w.heap.size, 1, none⟩ = false := by rw [hf3 w.heap.size 1 (by omega), hf2 w.heap.size 1 (by first | omega | (simp; omega))]; simp [go_sem, hf, hz]
    clear hc hf hc2 hf2 hc3 hf3
    go_wp2_with fail
    refine bodyPost_ret (v := .tuple #[.slice A' k' c', flt 0 0]) (by simp [results, Try.results11, go_sem, c0, c1]) rfl (.inl ⟨fit_len HR.out hln.out hk, A', k', c', zs, rfl, ?_, HR.out, ?_⟩)
    · exact ((hL3.setI c0 _).setI (by rw [World.cell?_setCell_other _ _ _ _ (by simp)]; exact c1) _).more (by simp [World.setCell])
    · (repeat (first | exact Below.refl _ _ | exact hb3 | exact hb2 | exact hb | refine Below.setCell ?_ (by simp; done) _ | refine Below.alloc ?_ (by first | omega | (simp; done) | (simp; omega)) _ | refine Below.drew ?_ | refine below_drewN ?_ _ | refine Below.trans ?_ (Below.mono hb3 (by first | omega | (simp; done) | (simp; omega))) | refine Below.trans ?_ (Below.mono hb2 (by first | omega | (simp; done) | (simp; omega))) | refine Below.trans ?_ (Below.mono hb (by first | omega | (simp; done) | (simp; omega)))))
  · go_wp2_with fail
    refine (limited_bad w2 A' k' c' (by omega) (by omega)).mono ?_
    rintro e w3 ⟨rfl, hb3⟩
    obtain ⟨hc3, hf3⟩ := bcell hb3
    have hz3 := hb3.size
    have c0 : w3.cell? ⟨w.heap.size, 0, none⟩ = some (.int .i64 0) := by rw [hc3 w.heap.size 0 (by omega), hc2 w.heap.size 0 (by first | omega | (simp; omega))]; simp [go_sem, hc, hz]
    have c1 : w3.cell? ⟨w.heap.size, 1, none⟩ = some (.int .i64 0) := by rw [hc3 w.heap.size 1 (by omega), hc2 w.heap.size 1 (by first | omega | (simp; omega))]; simp [go_sem, hc, hz]
    have f0 : w3.frozen? ⟨w.heap.size, 0, none⟩ = false := by rw [hf3 w.heap.size 0 (by omega), hf2 w.heap.size 0 (by first | omega | (simp; omega))]; simp [go_sem, hf, hz]
    have f1 : w3.frozen? ⟨w.heap.size, 1, none⟩ = false := by rw [hf3 w.heap.size 1 (by omega), hf2 w.heap.size 1 (by first | omega | (simp; omega))]; simp [go_sem, hf, hz]
    clear hc hf hc2 hf2 hc3 hf3
    go_wp2_with fail
    refine bodyPost_ret (v := .tuple #[.slice none 0 0, flt 14 (-1)]) (by simp [results, Try.results11, go_sem, c0, c1]) rfl (.inr ⟨big_len HR.out hln.out (by omega), none, 0, 0, [], rfl, nil_lrd _, nil_rep, ?_⟩)
    (repeat (first | exact Below.refl _ _ | exact hb3 | exact hb2 | exact hb | refine Below.setCell ?_ (by simp; done) _ | refine Below.alloc ?_ (by first | omega | (simp; done) | (simp; omega)) _ | refine Below.drew ?_ | refine below_drewN ?_ _ | refine Below.trans ?_ (Below.mono hb3 (by first | omega | (simp; done) | (simp; omega))) | refine Below.trans ?_ (Below.mono hb2 (by first | omega | (simp; done) | (simp; omega))) | refine Below.trans ?_ (Below.mono hb (by first | omega | (simp; done) | (simp; omega)))))

end Go.Proofs.Ytjkogajdpkbjeaa
