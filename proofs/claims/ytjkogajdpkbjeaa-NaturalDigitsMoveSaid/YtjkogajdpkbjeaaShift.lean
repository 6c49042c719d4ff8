/- Exported functions: Bits, Shift. -/
import Derived.Test.YtjkogajdpkbjeaaExp3
import Derived.Deep.QuietTactic
import Derived.BigQuiet
namespace Go.Proofs.Ytjkogajdpkbjeaa
open Go.RowKit
set_option maxHeartbeats 400000
set_option maxRecDepth 100000
set_option linter.unusedSimpArgs false
set_option linter.unusedVariables false

theorem bits_bad (w : World) (B : Nat) (A : Option Addr) (n c : Nat) (xs : List Nat) (h : LRd w B A n c xs) (hB : B ≤ w.heap.size) (hx : vld xs = false) :
    Calls Try.prog 28 #[.slice A n c] w (GivesI w 0 6 (-1)) := by
  have h1 := fun (o : Obj) => h.below (bl1 w o) hB
  go_enter Try.func28, Try.ntmps28
  go_wp2_with fail
  refine (checkOne_bad _ B A n c xs (h1 _) (by simp; omega) hx).mono ?_
  rintro e w1 ⟨rfl, hb⟩
  obtain ⟨hc, hf⟩ := bcell hb
  have hz : w.heap.size < w1.heap.size := by have := hb.size; simp at this; omega
  go_wp2_with fail
  go_region
  go_wp2_with fail
  refine bodyPost_ret (v := .tuple #[.int .i64 0, flt 6 (-1)]) (by simp [results, Try.results28, go_sem, hc, hf, hz]) rfl ⟨rfl, ?_⟩
  (repeat (first | exact Below.refl _ _ | exact hb | refine Below.setCell ?_ (by simp; done) _ | refine Below.alloc ?_ (by first | omega | (simp; done) | (simp; omega)) _ | refine Below.drew ?_ | refine below_drewN ?_ _ | refine Below.trans ?_ (Below.mono hb (by first | omega | (simp; done) | (simp; omega)))))
theorem bits_ok (w : World) (B : Nat) (A : Option Addr) (n c : Nat) (xs : List Nat) (h : LRd w B A n c xs) (hB : B ≤ w.heap.size) (hx : vld xs = true) :
    Calls Try.prog 28 #[.slice A n c] w (GivesI w (nbits xs) 0 0) := by
  have h1 := fun (o : Obj) => h.below (bl1 w o) hB
  have hn : n ≤ 600 := by have := (vld_top hx).2; have := h.len.out; omega
  go_enter Try.func28, Try.ntmps28
  go_wp2_with fail
  refine (checkOne_ok _ B A n c xs (h1 _) (by simp; omega) hx).mono ?_
  rintro e w1 ⟨rfl, hb⟩
  obtain ⟨hc, hf⟩ := bcell hb
  have hz : w.heap.size < w1.heap.size := by have := hb.size; simp at this; omega
  have hb' : Below w.heap.size w w1 := (bl1 w _).trans (hb.mono (by simp))
  have h2 := fun (o : Obj) => (h.below hb' hB).alloc (by omega) o
  go_wp2_with fail
  refine (countBits_any _ B A n c xs (h2 _) (by omega)).mono ?_
  rintro e w' ⟨rfl, rfl⟩
  go_wp2_with fail
  refine bodyPost_ret (v := .tuple #[.int .i64 (nbits xs), flt 0 0]) (by simp [results, Try.results28, go_sem, hc, hf, hz]) rfl ⟨rfl, ?_⟩
  (repeat (first | exact Below.refl _ _ | exact hb | refine Below.setCell ?_ (by simp; done) _ | refine Below.alloc ?_ (by first | omega | (simp; done) | (simp; omega)) _ | refine Below.drew ?_ | refine below_drewN ?_ _ | refine Below.trans ?_ (Below.mono hb (by first | omega | (simp; done) | (simp; omega)))))

theorem shift_bad (w : World) (B : Nat) (A : Option Addr) (n c : Nat) (s : Int) (xs : List Nat) (h : LRd w B A n c xs) (hB : B ≤ w.heap.size) (hx : vld xs = false) :
    Calls Try.prog 29 #[.slice A n c, .int .i64 s] w (GivesF w 0 6 (-1)) := by
  have h1 := fun (o : Obj) => h.below (bl1 w o) hB
  go_enter Try.func29, Try.ntmps29
  go_wp2_with fail
  refine (checkOne_bad _ B A n c xs (h1 _) (by simp; omega) hx).mono ?_
  rintro e w1 ⟨rfl, hb⟩
  obtain ⟨hc, hf⟩ := bcell hb
  have hz : w.heap.size < w1.heap.size := by have := hb.size; simp at this; omega
  go_wp2_with fail
  go_region
  go_wp2_with fail
  refine bodyPost_ret (v := .tuple #[.slice none 0 0, flt 6 (-1)]) (by simp [results, Try.results29, go_sem, hc, hf, hz]) rfl ⟨none, 0, 0, [], rfl, nil_lrd _, nil_rep, ?_⟩
  (repeat (first | exact Below.refl _ _ | exact hb | refine Below.setCell ?_ (by simp; done) _ | refine Below.alloc ?_ (by first | omega | (simp; done) | (simp; omega)) _ | refine Below.drew ?_ | refine below_drewN ?_ _ | refine Below.trans ?_ (Below.mono hb (by first | omega | (simp; done) | (simp; omega)))))
/-- What Shift gives of a valid number p with l binary digits. -/
def ShiftV (p l : Nat) (s : Int) (v : Nat) (u1 u2 : Int) : Prop :=
  ((l = 0 ∨ s ≤ -(l : Int)) ∧ v = 0 ∧ u1 = 0 ∧ u2 = 0) ∨
  (¬ (l = 0 ∨ s ≤ -(l : Int)) ∧ 19200 - (l : Int) < s ∧ v = 0 ∧ u1 = 14 ∧ u2 = -1) ∨
  (¬ (l = 0 ∨ s ≤ -(l : Int)) ∧ s ≤ 19200 - (l : Int) ∧ s < 0 ∧ v = p / 2 ^ (-s).toNat ∧ u1 = 0 ∧ u2 = 0) ∨
  (¬ (l = 0 ∨ s ≤ -(l : Int)) ∧ s ≤ 19200 - (l : Int) ∧ 0 ≤ s ∧ v = p * 2 ^ s.toNat ∧ u1 = 0 ∧ u2 = 0)
def ShiftPost (p l : Nat) (s : Int) (w : World) (e : Ending) (w' : World) : Prop := ∃ v u1 u2, ShiftV p l s v u1 u2 ∧ GivesF w v u1 u2 e w'
theorem shl_pow (v N : Nat) : v * (2 ^ (N % 32) * 4294967296 ^ (N / 32)) = v * 2 ^ N := by
  rw [pow32, ← Nat.pow_add, show N % 32 + 32 * (N / 32) = N by omega]
theorem shr_pow (v N : Nat) : v / (2 ^ (N % 32) * 4294967296 ^ (N / 32)) = v / 2 ^ N := by
  rw [pow32, ← Nat.pow_add, show N % 32 + 32 * (N / 32) = N by omega]
theorem shrq_any (w : World) (B : Nat) (A : Option Addr) (n c W p : Nat) (q : Int) (xs : List Nat) (h : LRd w B A n c xs) (hB : B ≤ w.heap.size) (hn : n ≤ 1000000000) (hW : W ≤ n) (hp : p < 32) (hq : q = 32 * (W : Int) + p) :
    Calls Try.prog 53 #[.slice A n c, .int .i64 q] w (ShrPost n W p xs w) := by
  subst hq
  exact shiftRight_any w B A n c W p xs h hB hn hW hp
set_option maxHeartbeats 4000000 in
theorem shift_ok (w : World) (B : Nat) (A : Option Addr) (n c : Nat) (s : Int) (xs : List Nat) (h : LRd w B A n c xs) (hB : B ≤ w.heap.size) (hx : vld xs = true) (hs : -9223372036854775808 ≤ s ∧ s ≤ 9223372036854775807) :
    Calls Try.prog 29 #[.slice A n c, .int .i64 s] w (ShiftPost (vb 4294967296 xs) (nbits xs) s w) := by
  have h1 := fun (o : Obj) => h.below (bl1 w o) hB
  have hn : n ≤ 600 := by have := (vld_top hx).2; have := h.len.out; omega
  have hnb := nbits_le h.lim
  have hnl := h.len.out
  have hnb2 : nbits xs ≤ 32 * n := by omega
  clear hnb hnl
  obtain ⟨l, hl⟩ : ∃ l, l = nbits xs := ⟨_, rfl⟩
  have HL := Lib.hid hl
  rw [← hl] at hnb2 ⊢
  clear hl
  go_enter Try.func29, Try.ntmps29
  go_wp2_with fail
  refine (checkOne_ok _ B A n c xs (h1 _) (by simp; omega) hx).mono ?_
  rintro e w1 ⟨rfl, hb⟩
  obtain ⟨hc, hf⟩ := bcell hb
  have hz : w.heap.size < w1.heap.size := by have := hb.size; simp at this; omega
  have hb' : Below w.heap.size w w1 := (bl1 w _).trans (hb.mono (by simp))
  have h2 := fun (o : Obj) => (h.below hb' hB).alloc (by omega) o
  go_wp2_with fail
  refine (countBits_any _ B A n c xs (h2 _) (by omega)).mono ?_
  rintro e w' ⟨rfl, rfl⟩
  rw [← HL.out]
  by_cases c1 : l = 0 ∨ s ≤ -(l : Int)
  · have HC := Lib.hid c1
    rcases (show l = 0 ∨ (0 < l ∧ s ≤ -(l : Int)) by omega) with rfl | ⟨l0, l1⟩
    all_goals
      clear c1
      go_wp2_with fail
      refine bodyPost_ret (v := .tuple #[.slice none 0 0, flt 0 0]) (by simp [results, Try.results29, go_sem, hc, hf, hz]) rfl ⟨0, 0, 0, .inl ⟨(by first | exact .inl rfl | exact .inr l1), rfl, rfl, rfl⟩, none, 0, 0, [], rfl, nil_lrd _, nil_rep, ?_⟩
      (repeat (first | exact Below.refl _ _ | exact hb | refine Below.setCell ?_ (by simp; done) _ | refine Below.alloc ?_ (by first | omega | (simp; done) | (simp; omega)) _ | refine Below.drew ?_ | refine below_drewN ?_ _ | refine Below.trans ?_ (Below.mono hb (by first | omega | (simp; done) | (simp; omega)))))
  · have HC := Lib.hid c1
    have l0 : 0 < l := by omega
    have l1 : -(l : Int) < s := by omega
    have lf : ((l : Int) == 0) = false := beq_eq_false_iff_ne.2 (by omega)
    clear c1
    by_cases c2 : 19200 - (l : Int) < s
    · have HC2 := Lib.hid c2
      go_wp2_with fail
      refine bodyPost_ret (v := .tuple #[.slice none 0 0, flt 14 (-1)]) (by simp [results, Try.results29, go_sem, hc, hf, hz]) rfl ⟨0, 14, -1, .inr (.inl ⟨HC.out, HC2.out, rfl, rfl, rfl⟩), none, 0, 0, [], rfl, nil_lrd _, nil_rep, ?_⟩
      (repeat (first | exact Below.refl _ _ | exact hb | refine Below.setCell ?_ (by simp; done) _ | refine Below.alloc ?_ (by first | omega | (simp; done) | (simp; omega)) _ | refine Below.drew ?_ | refine below_drewN ?_ _ | refine Below.trans ?_ (Below.mono hb (by first | omega | (simp; done) | (simp; omega)))))
    · have c3 : s ≤ 19200 - (l : Int) := by omega
      have HC3 := Lib.hid c3
      clear c2
      by_cases c4 : s < 0
      · obtain ⟨N, hN⟩ : ∃ N : Nat, (N : Int) = -s := ⟨(-s).toNat, by omega⟩
        have hNn : N < 32 * n := by omega
        have hNs : (-s).toNat = N := by omega
        have HNS := Lib.hid hNs
        have hsh := shrq_any (w1.alloc (.cells #[.int .i64 0, .int .i64 0] 24)) B A n c (N / 32) (N % 32) (-s) xs (h2 _) (by simp; omega) (by omega) (by omega) (by omega) (by omega)
        have HSH := Lib.hid hsh
        clear hsh hNs hNn
        go_wp2_with fail
        refine HSH.out.mono ?_
        rintro e w2 ⟨rs, rfl, hR, hrl, hrL, hb1, hv1⟩
        have hsz : (w1.alloc (.cells #[.int .i64 0, .int .i64 0] 24)).heap.size = w1.heap.size + 1 := by simp
        rw [hsz] at hR
        rw [hsz]
        have hz1 := hR.lt
        have HV1 := Lib.hid hv1
        clear hv1 HSH
        go_wp2_with fail
        refine (trim_any _ _ _ _ _ _ (hR.lrdAll hrL hz1 hrl (by omega))).mono ?_
        rintro e w' ⟨t, rfl, ht1, rfl⟩
        have HR1 := Lib.hid (trimmed ht1 hrl.out hrL)
        have hln := hrl.out
        have hlt := ht1.le
        have HL1 := Lib.hid (hR.lrd0 hrL (n := t) (c := n - N / 32) hz1 (by omega) (by omega))
        clear ht1 hR hrL hln
        obtain ⟨hc2, hf2⟩ := bcell hb1
        have hz2 : w1.heap.size < w2.heap.size := by have := hb1.size; simp at this; omega
        have d0 : w2.cell? ⟨w.heap.size, 0, none⟩ = some (.int .i64 0) := by rw [hc2 w.heap.size 0 (by first | omega | (simp; omega))]; simp [go_sem, hc, hz]
        have d1 : w2.cell? ⟨w.heap.size, 1, none⟩ = some (.int .i64 0) := by rw [hc2 w.heap.size 1 (by first | omega | (simp; omega))]; simp [go_sem, hc, hz]
        have f0 : w2.frozen? ⟨w.heap.size, 0, none⟩ = false := by rw [hf2 w.heap.size 0 (by first | omega | (simp; omega))]; simp [go_sem, hf, hz]
        have f1 : w2.frozen? ⟨w.heap.size, 1, none⟩ = false := by rw [hf2 w.heap.size 1 (by first | omega | (simp; omega))]; simp [go_sem, hf, hz]
        clear hc hf hc2 hf2
        go_wp2_with fail
        refine bodyPost_ret (v := .tuple #[.slice (some ⟨w1.heap.size + 1, 0, none⟩) t (n - N / 32), flt 0 0]) (by simp [results, Try.results29, go_sem, d0, d1]) rfl ⟨_, 0, 0, .inr (.inr (.inl ⟨HC.out, HC3.out, c4, rfl, rfl, rfl⟩)), _, _, _, rs.take t, rfl, ?_, ?_, ?_⟩
        · exact ((HL1.out.setI d0 _).setI (by rw [World.cell?_setCell_other _ _ _ _ (by simp)]; exact d1) _).more (by simp [World.setCell])
        · have := HR1.out; rw [HV1.out, shr_pow] at this; rw [HNS.out]; exact this
        · (repeat (first | exact Below.refl _ _ | exact hb1 | exact hb | refine Below.setCell ?_ (by simp; done) _ | refine Below.alloc ?_ (by first | omega | (simp; done) | (simp; omega)) _ | refine Below.drew ?_ | refine below_drewN ?_ _ | refine Below.trans ?_ (Below.mono hb1 (by first | omega | (simp; done) | (simp; omega))) | refine Below.trans ?_ (Below.mono hb (by first | omega | (simp; done) | (simp; omega)))))
      · obtain ⟨N, hN⟩ : ∃ N : Nat, (N : Int) = s := ⟨s.toNat, by omega⟩
        have hNs : s.toNat = N := by omega
        have HNS := Lib.hid hNs
        have hsh := shlq_any (w1.alloc (.cells #[.int .i64 0, .int .i64 0] 24)) B A n c (N / 32) (N % 32) s xs (h2 _) (by simp; omega) (by omega) (by omega) (by omega) (by omega) (n + N / 32 + 1) rfl
        have HSH := Lib.hid hsh
        clear hsh hNs
        go_wp2_with fail
        refine HSH.out.mono ?_
        rintro e w2 ⟨rs, rfl, hR, hrl, hrL, hb1, hv1⟩
        have hsz : (w1.alloc (.cells #[.int .i64 0, .int .i64 0] 24)).heap.size = w1.heap.size + 1 := by simp
        rw [hsz] at hR
        rw [hsz]
        have hz1 := hR.lt
        have HV1 := Lib.hid hv1
        clear hv1 HSH
        go_wp2_with fail
        refine (trim_any _ _ _ _ _ _ (hR.lrdAll hrL hz1 hrl (by omega))).mono ?_
        rintro e w' ⟨t, rfl, ht1, rfl⟩
        have HR1 := Lib.hid (trimmed ht1 hrl.out hrL)
        have hln := hrl.out
        have hlt := ht1.le
        have HL1 := Lib.hid (hR.lrd0 hrL (n := t) (c := n + N / 32 + 1) hz1 (by omega) (by omega))
        clear ht1 hR hrL hln
        obtain ⟨hc2, hf2⟩ := bcell hb1
        have hz2 : w1.heap.size < w2.heap.size := by have := hb1.size; simp at this; omega
        have d0 : w2.cell? ⟨w.heap.size, 0, none⟩ = some (.int .i64 0) := by rw [hc2 w.heap.size 0 (by first | omega | (simp; omega))]; simp [go_sem, hc, hz]
        have d1 : w2.cell? ⟨w.heap.size, 1, none⟩ = some (.int .i64 0) := by rw [hc2 w.heap.size 1 (by first | omega | (simp; omega))]; simp [go_sem, hc, hz]
        have f0 : w2.frozen? ⟨w.heap.size, 0, none⟩ = false := by rw [hf2 w.heap.size 0 (by first | omega | (simp; omega))]; simp [go_sem, hf, hz]
        have f1 : w2.frozen? ⟨w.heap.size, 1, none⟩ = false := by rw [hf2 w.heap.size 1 (by first | omega | (simp; omega))]; simp [go_sem, hf, hz]
        clear hc hf hc2 hf2
        go_wp2_with fail
        refine bodyPost_ret (v := .tuple #[.slice (some ⟨w1.heap.size + 1, 0, none⟩) t (n + N / 32 + 1), flt 0 0]) (by simp [results, Try.results29, go_sem, d0, d1]) rfl ⟨_, 0, 0, .inr (.inr (.inr ⟨HC.out, HC3.out, by omega, rfl, rfl, rfl⟩)), _, _, _, rs.take t, rfl, ?_, ?_, ?_⟩
        · exact ((HL1.out.setI d0 _).setI (by rw [World.cell?_setCell_other _ _ _ _ (by simp)]; exact d1) _).more (by simp [World.setCell])
        · have := HR1.out; rw [HV1.out, shl_pow] at this; rw [HNS.out]; exact this
        · (repeat (first | exact Below.refl _ _ | exact hb1 | exact hb | refine Below.setCell ?_ (by simp; done) _ | refine Below.alloc ?_ (by first | omega | (simp; done) | (simp; omega)) _ | refine Below.drew ?_ | refine below_drewN ?_ _ | refine Below.trans ?_ (Below.mono hb1 (by first | omega | (simp; done) | (simp; omega))) | refine Below.trans ?_ (Below.mono hb (by first | omega | (simp; done) | (simp; omega)))))
end Go.Proofs.Ytjkogajdpkbjeaa
