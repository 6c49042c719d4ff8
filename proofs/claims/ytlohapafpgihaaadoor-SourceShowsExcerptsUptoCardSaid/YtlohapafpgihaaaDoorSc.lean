/- Package source: replaces, Check, size. -/
import Derived.Test.YtlohapafpgihaaaDoorSl
import Derived.Deep.DeepCutAuto
namespace Go.Proofs.YtlohapafpgihaaaDoor
open Go.RowKit
set_option maxHeartbeats 400000
set_option maxRecDepth 100000
set_option linter.unusedSimpArgs false
set_option linter.unusedVariables false

theorem hp3_eq (t : ByteArray) (h : 3 ≤ t.size) : ((t.extract 0 3).toList == [239, 191, 189]) = repB t 0 := by
  have g0 := get_list (s := t) (i := 0) (by omega)
  have g1 := get_list (s := t) (i := 1) (by omega)
  have g2 := get_list (s := t) (i := 2) (by omega)
  have e : (t.extract 0 3).toList = [t.get! 0, t.get! 1, t.get! 2] := by
    rw [Lib.extract_toList]
    match hl : t.data.toList with
    | [] => rw [hl] at g0; cases g0
    | [_] => rw [hl] at g1; cases g1
    | [_, _] => rw [hl] at g2; cases g2
    | x :: y :: z :: l =>
      rw [hl] at g0 g1 g2
      have a0 : x = t.get! 0 := by injection g0
      have a1 : y = t.get! 1 := by injection g1
      have a2 : z = t.get! 2 := by injection g2
      rw [← a0, ← a1, ← a2]; rfl
  rw [e]
  unfold repB by_
  rw [show decide (0 + 3 ≤ t.size) = true from decide_eq_true h, Bool.true_and]
  have k : ∀ (a b : UInt8), (a == b) = (a.toNat == b.toNat) := fun a b => by
    rw [Bool.eq_iff_iff, beq_iff_eq, beq_iff_eq]; exact ⟨fun h => by rw [h], fun h => UInt8.toNat_inj.1 h⟩
  show (t.get! 0 == 239 && (t.get! 1 == 191 && (t.get! 2 == 189 && true))) = _
  rw [k, k, k, Bool.and_true, Bool.and_assoc]
  rfl
theorem shp_any (t : ByteArray) (w : World) :
    Calls Tryd.prog 49 #[.string t, .string ⟨#[239, 191, 189]⟩] w fun e w' => e = .returned (.bool (repB t 0)) ∧ w' = w := by
  by_cases h : 3 ≤ t.size
  · have h1 := Lib.hid (hp3_eq t h)
    have hd : decide ((3 : Int) ≤ (t.size : Int)) = true := decide_eq_true (by omega)
    have c2 : (3 : Int) ≤ (t.size : Int) := by omega
    go_enter Tryd.func49, Tryd.ntmps49
    go_wp2
    all_goals go_ret
    all_goals refine ⟨?_, rfl⟩
    all_goals
      rw [← h1.out]
      rfl
  · have hd : decide ((3 : Int) ≤ (t.size : Int)) = false := decide_eq_false (by omega)
    have h1 := Lib.hid (show repB t 0 = false by unfold repB; rw [show decide (0 + 3 ≤ t.size) = false from decide_eq_false (by omega)]; rfl)
    go_enter Tryd.func49, Tryd.ntmps49
    go_wp2
    go_ret
    exact ⟨by rw [h1.out]; rfl, rfl⟩
theorem hp_any (t : ByteArray) (w : World) :
    Calls Tryd.prog 38 #[.string t, .string ⟨#[239, 191, 189]⟩] w fun e w' => e = .returned (.bool (repB t 0)) ∧ w' = w := by
  go_enter Tryd.func38, Tryd.ntmps38
  go_wp2_with (go_at_call 49; refine (shp_any _ _).mono ?_; rintro e w' ⟨rfl, rfl⟩)
  go_ret
  exact ⟨rfl, rfl⟩
theorem rep_any (t : ByteArray) (w : World) :
    Calls Tryd.prog 23 #[.string t] w fun e w' => e = .returned (.bool (repB t 0)) ∧ w' = w := by
  go_enter Tryd.func23, Tryd.ntmps23
  go_wp2_with (go_at_call 38; refine (hp_any _ _).mono ?_; rintro e w' ⟨rfl, rfl⟩)
  go_ret
  exact ⟨rfl, rfl⟩
theorem repB_ext {s : ByteArray} {p : Nat} (h : p ≤ s.size) : repB (s.extract p s.size) 0 = repB s p := by
  have hs : (s.extract p s.size).size = s.size - p := by rw [ByteArray.size_extract]; omega
  unfold repB
  rw [hs]
  by_cases h3 : p + 3 ≤ s.size
  · have e0 := by_ext (s := s) (a := p) (e := s.size) (j := 0) (by omega) (Nat.le_refl _)
    have e1 := by_ext (s := s) (a := p) (e := s.size) (j := 1) (by omega) (Nat.le_refl _)
    have e2 := by_ext (s := s) (a := p) (e := s.size) (j := 2) (by omega) (Nat.le_refl _)
    rw [show decide (0 + 3 ≤ s.size - p) = true from decide_eq_true (by omega), show decide (p + 3 ≤ s.size) = true from decide_eq_true h3, e0, Nat.zero_add, Nat.zero_add, e1, e2]
    rfl
  · rw [show decide (0 + 3 ≤ s.size - p) = false from decide_eq_false (by omega), show decide (p + 3 ≤ s.size) = false from decide_eq_false h3]
    rfl
/-- What Check answers. -/
def CkPost (s : ByteArray) (w : World) (e : Ending) (w' : World) : Prop :=
  ∃ c i : Int, e = .returned (flt c i) ∧ ((c = 0 ∧ i = 0 ∧ s.size ≤ 16000 ∧ chkFrom s s.size 0 = none) ∨ (∃ p : Nat, c = 1 ∧ i = p ∧ s.size ≤ 16000 ∧ chkFrom s s.size 0 = some p) ∨ (c = 3 ∧ i = -1 ∧ 16000 < s.size)) ∧ Below w.heap.size w w'
theorem ck_some {s : ByteArray} {w w' : World} {p : Nat} (h : s.size ≤ 16000) (hc : chkFrom s s.size 0 = some p) (hb : Below w.heap.size w w') : CkPost s w (.returned (flt 1 p)) w' := ⟨1, p, rfl, .inr (.inl ⟨p, rfl, rfl, h, hc⟩), hb⟩
theorem ck_none {s : ByteArray} {w w' : World} (h : s.size ≤ 16000) (hc : chkFrom s s.size 0 = none) (hb : Below w.heap.size w w') : CkPost s w (.returned (flt 0 0)) w' := ⟨0, 0, rfl, .inl ⟨rfl, rfl, h, hc⟩, hb⟩
theorem ck_long {s : ByteArray} {w w' : World} (h : 16000 < s.size) (hb : Below w.heap.size w w') : CkPost s w (.returned (flt 3 (-1))) w' := ⟨3, -1, rfl, .inr (.inr ⟨rfl, rfl, h⟩), hb⟩
theorem bad_t {s : ByteArray} {p c : Nat} (hc : c = (Utf8.decode s p).1) (h : (c < 32 ∧ c ≠ 10) ∨ (c = 65533 ∧ repB s p = false)) : badB s p = true := by
  unfold badB
  rw [← hc]
  rcases h with ⟨h1, h2⟩ | ⟨h1, h2⟩
  · rw [decide_eq_true h1, show (c == 10) = false from beq_eq_false_iff_ne.2 h2]; rfl
  · rw [h1, h2]; simp
theorem bad_f {s : ByteArray} {p c : Nat} (hc : c = (Utf8.decode s p).1) (h1 : 32 ≤ c ∨ c = 10) (h2 : c ≠ 65533 ∨ repB s p = true) : badB s p = false := by
  unfold badB
  rw [← hc]
  have e1 : (decide (c < 32) && !(c == 10)) = false := by
    rcases h1 with h1 | h1
    · rw [decide_eq_false (by omega)]; rfl
    · rw [h1]; rfl
  have e2 : (c == 65533 && !repB s p) = false := by
    rcases h2 with h2 | h2
    · rw [show (c == 65533) = false from beq_eq_false_iff_ne.2 h2]; rfl
    · rw [h2]; simp
  rw [e1, e2]; rfl
theorem chk_bad {s : ByteArray} {b p : Nat} (h : p < s.size) (hb : badB s p = true) : chkFrom s (b + 1) p = some p := by
  unfold chkFrom; rw [if_pos h, if_pos hb]
theorem chk_next {s : ByteArray} {b p : Nat} (h : p < s.size) (hb : badB s p = false) : chkFrom s (b + 1) p = chkFrom s b (p + (Utf8.decode s p).2) := by
  conv => lhs; unfold chkFrom
  rw [if_pos h, hb, if_neg (by decide)]
theorem chk_end {s : ByteArray} {b p : Nat} (h : ¬ p < s.size) : chkFrom s b p = none := by
  cases b with
  | zero => rfl
  | succ b => unfold chkFrom; rw [if_neg h]
set_option maxHeartbeats 4000000 in
theorem check_any (s : ByteArray) (w : World) (hz : s.size ≤ 9223372036854775807) :
    Calls Tryd.prog 10 #[.string s] w (CkPost s w) := by
  by_cases hs : 16000 < s.size
  · have hd : decide ((16000 : Int) < (s.size : Int)) = true := decide_eq_true (by omega)
    go_enter Tryd.func10, Tryd.ntmps10
    go_wp2
    refine bodyPost_ret (v := flt 3 (-1)) (by simp [results, Tryd.results10, go_sem]) rfl ?_
    exact ck_long hs ((Below.refl _ _).alloc (Nat.le_refl _) _)
  · replace hs : s.size ≤ 16000 := by omega
    have hd : decide ((16000 : Int) < (s.size : Int)) = false := decide_eq_false (by omega)
    have PC : ∀ q, Bk2 ((w.alloc (.cells #[.int .i64 0, .int .i64 0] 24)).iter s q) w.heap.size (.int .i64 0) (.int .i64 0) := fun q => (Bk2.newAt w _ rfl _ _ _).alloc _
    have HPC := Lib.hid PC
    clear PC
    go_enter Tryd.func10, Tryd.ntmps10
    go_wp2
    go_loopw [] (fun w' => ∃ (pos b : Nat), w' = (w.alloc (.cells #[.int .i64 0, .int .i64 0] 24)).iter s pos ∧ s.size ≤ pos + b ∧ Hid (chkFrom s b pos = chkFrom s s.size 0)) (fun w' => s.size - w'.iterPos (w.alloc (.cells #[.int .i64 0, .int .i64 0] 24)).heap.size)
    case atStart => exact ⟨0, s.size, rfl, by omega, Lib.hid rfl⟩
    case round =>
      obtain ⟨pos, b, rfl, hb, HC⟩ := hrel
      by_cases hp : pos < s.size
      · obtain ⟨c, hc⟩ : ∃ c, c = (Utf8.decode s pos).1 := ⟨_, rfl⟩
        obtain ⟨n, hn⟩ : ∃ n, n = (Utf8.decode s pos).2 := ⟨_, rfl⟩
        have hnx : ∀ ty, (Instr.next (.pointer (some ⟨w.heap.size + 1, 0, none⟩)) true ty).run Tryd.prog ((w.alloc (.cells #[.int .i64 0, .int .i64 0] 24)).iter s pos) = .ok (.tuple #[.bool true, .int .i64 pos, .int .i32 c]) ((w.alloc (.cells #[.int .i64 0, .int .i64 0] 24)).iter s (pos + n)) := fun ty => by
          have h9 := run_next_any (P := Tryd.prog) (w.alloc (.cells #[.int .i64 0, .int .i64 0] 24)) s pos ty hp
          rw [← hc, ← hn] at h9
          rw [show w.heap.size + 1 = (w.alloc (.cells #[.int .i64 0, .int .i64 0] 24)).heap.size by simp]
          exact h9
        have hwd := Lib.decode_width_pos s pos hp
        rw [← hn] at hwd
        have hcl := decode_le s pos
        rw [← hc] at hcl
        have HCC := Lib.hid hc
        have HNN := Lib.hid hn
        clear hc hn
        have c1 : (0 : Int) ≤ (pos : Int) := by omega
        have c2 : (pos : Int) ≤ (s.size : Int) := by omega
        obtain ⟨b, rfl⟩ : ∃ k, b = k + 1 := ⟨b - 1, by omega⟩
        by_cases a1 : c < 32 ∧ c ≠ 10
        · have HB := Lib.hid (show chkFrom s s.size 0 = some pos by rw [← HC.out]; exact chk_bad hp (bad_t HCC.out (.inl a1)))
          have f1 : decide ((c : Int) < 32) = true := decide_eq_true (by omega)
          have f2 : ((c : Int) != 10) = true := by rw [bne_iff_ne]; omega
          clear a1
          skip
          obtain ⟨k0, k1, k2, k3, _⟩ := HPC.out (pos + n)
          go_wp2_with (go_at_call 23; refine (rep_any _ _).mono ?_; rintro e w' ⟨rfl, rfl⟩; rw [repB_ext (by omega)])
          refine bodyPost_ret (v := flt 1 pos) (by simp [results, Tryd.results10, go_sem, k0, k1]) rfl ?_
          exact ck_some hs HB.out (Below.setCell (Below.setCell (((Below.refl _ _).alloc (Nat.le_refl _) _).alloc (by simp) _) (by simp) _) (by simp) _)
        · have a2 : 32 ≤ c ∨ c = 10 := by omega
          clear a1
          by_cases a3 : c = 65533
          · have f1 : decide ((c : Int) < 32) = false := decide_eq_false (by omega)
            have f3 : ((c : Int) == 65533) = true := beq_iff_eq.2 (by omega)
            cases hr : repB s pos
            · have HB := Lib.hid (show chkFrom s s.size 0 = some pos by rw [← HC.out]; exact chk_bad hp (bad_t HCC.out (.inr ⟨a3, hr⟩)))
              clear a2 a3
              skip -- hr
              obtain ⟨k0, k1, k2, k3, _⟩ := HPC.out (pos + n)
              go_wp2_with (go_at_call 23; refine (rep_any _ _).mono ?_; rintro e w' ⟨rfl, rfl⟩; rw [repB_ext (by omega)]; rw [hr])
              refine bodyPost_ret (v := flt 1 pos) (by simp [results, Tryd.results10, go_sem, k0, k1]) rfl ?_
              exact ck_some hs HB.out (Below.setCell (Below.setCell (((Below.refl _ _).alloc (Nat.le_refl _) _).alloc (by simp) _) (by simp) _) (by simp) _)
            · have HB := Lib.hid (show chkFrom s b (pos + n) = chkFrom s s.size 0 by rw [← HC.out, chk_next hp (bad_f HCC.out a2 (.inr hr)), HNN.out])
              clear a2 a3
              skip -- hr
              go_wp2_with (go_at_call 23; refine (rep_any _ _).mono ?_; rintro e w' ⟨rfl, rfl⟩; rw [repB_ext (by omega)]; rw [hr])
              go_roundw
              case rel => exact ⟨pos + n, b, rfl, by omega, HB⟩
              case measure => simp only [World.iterPos_iter]; omega
          · have f3 : ((c : Int) == 65533) = false := beq_eq_false_iff_ne.2 (by omega)
            have HB := Lib.hid (show chkFrom s b (pos + n) = chkFrom s s.size 0 by rw [← HC.out, chk_next hp (bad_f HCC.out a2 (.inl a3)), HNN.out])
            by_cases a4 : c < 32
            · have f1 : decide ((c : Int) < 32) = true := decide_eq_true (by omega)
              have f2 : ((c : Int) != 10) = false := by rw [bne_eq_false_iff_eq]; omega
              clear a2 a3 a4
              skip
              go_wp2_with (go_at_call 23; refine (rep_any _ _).mono ?_; rintro e w' ⟨rfl, rfl⟩; rw [repB_ext (by omega)])
              go_roundw
              case rel => exact ⟨pos + n, b, rfl, by omega, HB⟩
              case measure => simp only [World.iterPos_iter]; omega
            · have f1 : decide ((c : Int) < 32) = false := decide_eq_false (by omega)
              clear a2 a3 a4
              skip
              go_wp2_with (go_at_call 23; refine (rep_any _ _).mono ?_; rintro e w' ⟨rfl, rfl⟩; rw [repB_ext (by omega)])
              go_roundw
              case rel => exact ⟨pos + n, b, rfl, by omega, HB⟩
              case measure => simp only [World.iterPos_iter]; omega
      · have hnx : ∀ ty, (Instr.next (.pointer (some ⟨w.heap.size + 1, 0, none⟩)) true ty).run Tryd.prog ((w.alloc (.cells #[.int .i64 0, .int .i64 0] 24)).iter s pos) = .ok (.tuple #[.bool false]) ((w.alloc (.cells #[.int .i64 0, .int .i64 0] 24)).iter s pos) := fun ty => by
          have h9 := run_next_end (P := Tryd.prog) (w.alloc (.cells #[.int .i64 0, .int .i64 0] 24)) s pos ty hp
          rw [show w.heap.size + 1 = (w.alloc (.cells #[.int .i64 0, .int .i64 0] 24)).heap.size by simp]
          exact h9
        have HB := Lib.hid (show chkFrom s s.size 0 = none by rw [← HC.out]; exact chk_end hp)
        clear hp
        obtain ⟨k0, k1, k2, k3, _⟩ := HPC.out pos
        go_wp2
        refine bodyPost_ret (v := flt 0 0) (by simp [results, Tryd.results10, go_sem, k0, k1]) rfl ?_
        exact ck_none hs HB.out (Below.setCell (Below.setCell (((Below.refl _ _).alloc (Nat.le_refl _) _).alloc (by simp) _) (by simp) _) (by simp) _)
theorem sz_at {s : ByteArray} {b p : Nat} (h : p < s.size) : szFrom s (b + 1) p 0 = p := by unfold szFrom; rw [if_pos h, if_pos rfl]
theorem sz_go {s : ByteArray} {b p k : Nat} (h : p < s.size) (hk : k ≠ 0) : szFrom s (b + 1) p k = szFrom s b (p + (Utf8.decode s p).2) (k - 1) := by
  conv => lhs; unfold szFrom
  rw [if_pos h, if_neg hk]
theorem sz_end {s : ByteArray} {b p k : Nat} (h : ¬ p < s.size) : szFrom s b p k = s.size := by
  cases b with
  | zero => rfl
  | succ b => unfold szFrom; rw [if_neg h]
set_option maxHeartbeats 4000000 in
theorem size_any (s : ByteArray) (k : Nat) (w : World) (hz : s.size ≤ 9223372036854775807) (hk : k ≤ 9223372036854775807) :
    Calls Tryd.prog 28 #[.string s, .int .i64 (k : Int)] w fun e w' => e = .returned (.int .i64 (szFrom s s.size 0 k : Nat)) ∧ Below w.heap.size w w' := by
  go_enter Tryd.func28, Tryd.ntmps28
  go_wp2
  go_loopw [1] (fun s1 w' => ∃ (pos b j : Nat), w' = w.iter s pos ∧ s1 = .int .i64 (j : Int) ∧ s.size ≤ pos + b ∧ j ≤ k ∧ Hid (szFrom s b pos j = szFrom s s.size 0 k)) (fun _ w' => s.size - w'.iterPos w.heap.size)
  case atStart => exact ⟨0, s.size, k, rfl, rfl, by omega, Nat.le_refl _, Lib.hid rfl⟩
  case round =>
    obtain ⟨pos, b, j, rfl, rfl, hb, hj, HC⟩ := hrel
    by_cases hp : pos < s.size
    · have hnx : ∀ ty, (Instr.next (.pointer (some ⟨w.heap.size, 0, none⟩)) true ty).run Tryd.prog (w.iter s pos) = _ := fun ty => run_next_any w s pos ty hp
      have hwd := Lib.decode_width_pos s pos hp
      obtain ⟨b, rfl⟩ : ∃ k, b = k + 1 := ⟨b - 1, by omega⟩
      by_cases h0 : j = 0
      · have HB := Lib.hid (show szFrom s s.size 0 k = pos by rw [← HC.out, h0]; exact sz_at hp)
        have f1 : ((j : Int) == 0) = true := beq_iff_eq.2 (by omega)
        clear h0
        go_wp2
        go_ret
        exact ⟨by rw [HB.out]; rfl, (Below.refl _ _).alloc (Nat.le_refl _) _⟩
      · have HB := Lib.hid (show szFrom s b (pos + (Utf8.decode s pos).2) (j - 1) = szFrom s s.size 0 k by rw [← HC.out]; exact (sz_go hp h0).symm)
        have f1 : ((j : Int) == 0) = false := beq_eq_false_iff_ne.2 (by omega)
        have f2 : (1 : Int) ≤ (j : Int) := by omega
        clear h0
        go_wp2
        go_roundw
        case rel => exact ⟨pos + (Utf8.decode s pos).2, b, j - 1, rfl, by congr 1; omega, by omega, by omega, HB⟩
        case measure => simp only [World.iterPos_iter]; omega
    · have hnx : ∀ ty, (Instr.next (.pointer (some ⟨w.heap.size, 0, none⟩)) true ty).run Tryd.prog (w.iter s pos) = _ := fun ty => run_next_end w s pos ty hp
      have HB := Lib.hid (show szFrom s s.size 0 k = s.size by rw [← HC.out]; exact sz_end hp)
      clear hp
      go_wp2
      go_ret
      exact ⟨by rw [HB.out]; rfl, (Below.refl _ _).alloc (Nat.le_refl _) _⟩
end Go.Proofs.YtlohapafpgihaaaDoor
