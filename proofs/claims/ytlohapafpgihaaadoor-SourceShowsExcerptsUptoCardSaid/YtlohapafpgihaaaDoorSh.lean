/- The reference: the widths of a text's characters, its fault. -/
import Derived.Test.YtlohapafpgihaaaDoorSg
import Derived.Deep.DeepCutAuto
import Derived.Test.YtlohapafpgihaaaDoorLay
import Derived.Shelf.Unicode.DecodeAny
import Derived.Laws.MakeOwn
import Derived.Laws.OwnMore
import Derived.OwnWalk
namespace Go.Proofs.YtlohapafpgihaaaDoor
open Go.RowKit
set_option maxHeartbeats 400000
set_option maxRecDepth 100000
set_option linter.unusedSimpArgs false
set_option linter.unusedVariables false

/-- A suffix is decoded as the text is at its place. -/
theorem ext_dec {s : ByteArray} {i : Nat} (h : i < s.size) : Utf8.decode (s.extract i s.size) 0 = Utf8.decode s i := by
  have hs : (s.extract i s.size).size = s.size - i := by rw [ByteArray.size_extract]; omega
  have e : ∀ j, i + j < s.size → by_ (s.extract i s.size) j = by_ s (i + j) := fun j hj => by_ext hj (Nat.le_refl _)
  have e0 := e 0 (by omega)
  rw [Nat.add_zero] at e0
  rcases dec_parts s i h with ⟨h0, hd⟩ | ⟨h0, hd⟩ | ⟨n, n1, n2, h3, hd, h4, h5, h6, same⟩
  · rcases dec_parts (s.extract i s.size) 0 (by omega) with ⟨k0, kd⟩ | ⟨k0, _⟩ | ⟨_, _, _, k0, _⟩
    · rw [kd, hd, e0]
    · omega
    · omega
  · rcases dec_parts (s.extract i s.size) 0 (by omega) with ⟨k0, kd⟩ | ⟨k0, kd⟩ | ⟨n, n1, n2, _, _, _, k5, _, same⟩
    · omega
    · rw [kd, hd]
    · exact (same s i (by omega) (fun j hj => by rw [Nat.zero_add]; exact (e j (by omega)).symm)).symm
  · exact same _ 0 (by omega) (fun j hj => by rw [Nat.zero_add]; exact e j (by omega))
abbrev Tabs (w : World) : Prop := Lib.Utf8Tabs (Tryd.lays197_ren.g 3) (Tryd.lays197_ren.g 4) w
theorem cell_lt {w : World} {g c : Nat} {v : Value} (h : w.cell? ⟨g, c, none⟩ = some v) : g < w.heap.size := by
  rcases Nat.lt_or_ge g w.heap.size with h1 | h1
  · exact h1
  · exfalso
    simp [World.cell?, Array.getElem?_eq_none h1] at h
theorem Tabs.below {w w' : World} {B : Nat} (h : Tabs w) (hb : Below B w w') (hB : w.heap.size ≤ B) : Tabs w' := by
  obtain ⟨h1, h2⟩ := h
  have b1 := cell_lt (h1 0 (by decide))
  have b2 := cell_lt (h2 0 (by decide)).1
  refine ⟨fun c hc => ?_, fun i hi => ⟨?_, ?_⟩⟩
  · rw [hb.cell (p := ⟨Tryd.lays197_ren.g 3, c, none⟩) (Nat.lt_of_lt_of_le b1 hB)]; exact h1 c hc
  · rw [hb.cell (p := ⟨Tryd.lays197_ren.g 4, 2 * i, none⟩) (Nat.lt_of_lt_of_le b2 hB)]; exact (h2 i hi).1
  · rw [hb.cell (p := ⟨Tryd.lays197_ren.g 4, 2 * i + 1, none⟩) (Nat.lt_of_lt_of_le b2 hB)]; exact (h2 i hi).2
theorem dr_any (s : ByteArray) (i r n : Nat) (w : World) (hi : i < s.size) (hd : Hid (Utf8.decode s i = (r, n))) (hT : Tabs w) :
    Calls Tryd.prog 33 #[.string (s.extract i s.size)] w fun e w' => e = .returned (.tuple #[.int .i32 (r : Int), .int .i64 (n : Int)]) ∧ Below w.heap.size w w' := by
  have hs : (s.extract i s.size).size ≠ 0 := by rw [ByteArray.size_extract]; omega
  have hg : Lib.decodeGo (s.extract i s.size) = (r, n) := by unfold Lib.decodeGo; rw [if_neg hs, ext_dec hi]; exact hd.out
  refine (Any.utf8_DecodeRuneInString Tryd.lays197 (s.extract i s.size) w hT).mono fun e w' ⟨h1, h2⟩ => ⟨?_, h2⟩
  rw [h1, hg]
/-- Block g begins with the ints ys. -/
def RI (w : World) (g : Nat) (ys : List Int) : Prop := ∃ more : List Value, Row w g 3 ((ys.map fun (x : Int) => Value.int .i64 x) ++ more)
section
variable {w w' : World} {g : Nat} {ys : List Int}
theorem RI.lt (h : RI w g ys) : g < w.heap.size := Row.lt h.choose_spec
theorem RI.cell (h : RI w g ys) {j : Nat} (hj : j < ys.length) : w.cell? ⟨g, j, none⟩ = some (.int .i64 (ys.getD j 0)) := by
  obtain ⟨more, h⟩ := h
  rw [Row.cell h, List.getElem?_append_left (by simpa using hj)]
  simp [hj]
theorem RI.frozen (h : RI w g ys) (j : Nat) : w.frozen? ⟨g, j, none⟩ = false := Row.frozen h.choose_spec j
theorem RI.new (w : World) (n : Nat) : RI (w.alloc (.cells (List.replicate n (Value.int .i64 0)).toArray 3)) w.heap.size (List.replicate n 0) := by
  refine ⟨[], ?_⟩
  rw [List.map_replicate, List.append_nil]
  exact Row.new w 3 _
theorem RI.put (h : RI w g ys) (j : Nat) (v : Int) : RI (w.setCell ⟨g, j, none⟩ (.int .i64 v)) g (ys.set j v) := by
  obtain ⟨more, h⟩ := h
  have h2 := Row.set_ h j (.int .i64 v)
  rw [List.set_append] at h2
  split at h2
  · refine ⟨more, ?_⟩
    rw [List.map_set]
    exact h2
  · rename_i hj
    rw [List.set_eq_of_length_le (by simpa using hj)]
    exact ⟨_, h2⟩
theorem RI.below {B : Nat} (h : RI w g ys) (hb : Below B w w') (hg : g < B) : RI w' g ys := ⟨_, Row.below h.choose_spec hb hg⟩
theorem RI.drew (h : RI w g ys) : RI w.drew g ys := h
theorem RI.drewN (h : RI w g ys) (n : Nat) : RI (w.drewN n) g ys := h
end
theorem infoI : (Tryd.prog.info? 3).map (fun i => (i.zero, i.size, i.bytes)) = some (some (.int .i64 0), 1, 8) := by kernel_rfl
theorem mkI (n : Nat) (hn : n ≤ 16000) (w : World) :
    (Instr.makeSlice 41 (.int .i64 (n : Int)) (.int .i64 (n : Int))).run Tryd.prog w = .ok (.slice (some ⟨w.heap.size, 0, none⟩) n n) (w.alloc (.cells (List.replicate n (Value.int .i64 0)).toArray 3)) := by
  obtain ⟨i, hi, hz, hs, hb⟩ := info_parts infoI
  have hr := run_make (P := Tryd.prog) w 41 3 i (.int .i64 0) Tryd.underlying41 hi hz .i64 .i64 (n : Int) (n : Int) (by omega) (by omega) (by rw [hb]; omega) (by omega)
  rw [hr, hs]
  simp only [Int.toNat_natCast, Nat.mul_one]
  congr 3
  have := toList_madeCells_one (Value.int .i64 0) n
  rw [← this]
  simp [Value.cells]
/-- A row of ints as a function. -/
def wv (ys : List Int) : Nat → Int := fun j => ys.getD j 0
theorem wv_set {ys : List Int} {i : Nat} {x : Int} (h : i < ys.length) : wv (ys.set i x) = up (wv ys) i x := by
  funext j
  show (ys.set i x).getD j 0 = if j = i then x else ys.getD j 0
  rw [List.getD_eq_getElem?_getD, List.getD_eq_getElem?_getD, List.getElem?_set]
  by_cases e : i = j
  · subst e; rw [if_pos rfl, if_pos h, if_pos rfl]; rfl
  · rw [if_neg e, if_neg (by omega)]
theorem wv_zero (n : Nat) : wv (List.replicate n 0) = fun _ => 0 := by
  funext j
  show (List.replicate n (0 : Int)).getD j 0 = 0
  rw [List.getD_eq_getElem?_getD, List.getElem?_replicate]
  split <;> rfl
/-- What Widths answers. -/
def WdPost (s : ByteArray) (w : World) (e : Ending) (w' : World) : Prop :=
  ∃ g ys, e = .returned (.slice (some ⟨g, 0, none⟩) s.size s.size) ∧ RI w' g ys ∧ Hid (ys.length = s.size) ∧ Hid (WdOk s (wv ys)) ∧ w.heap.size ≤ g ∧ Below w.heap.size w w'
def WdRel (s : ByteArray) (w : World) (v : Value) (w' : World) : Prop :=
  ∃ (i : Nat) (ys : List Int), v = .int .i64 (i : Int) ∧ i ≤ s.size ∧ RI w' w.heap.size ys ∧ Hid (ys.length = s.size) ∧ Hid (WI s i (wv ys)) ∧ Below w.heap.size w w'
theorem wd_bad {s : ByteArray} {w w2 : World} {i : Nat} {ys : List Int} {v : Value} (hv : v = .int .i64 ((i : Int) + 1)) (hi : i < s.size) (hR : RI w2 w.heap.size ys) (HL : Hid (ys.length = s.size)) (HW : Hid (WI s i (wv ys))) (hB : Hid (badB s i = true)) (hb : Below w.heap.size w w2) :
    WdRel s w v (w2.setCell ⟨w.heap.size, i, none⟩ (.int .i64 (-1))) :=
  ⟨i + 1, ys.set i (-1), hv, hi, hR.put i _, Lib.hid (by rw [List.length_set]; exact HL.out), Lib.hid (by rw [wv_set (by rw [HL.out]; exact hi)]; exact wi_bad HW.out hi hB.out), hb.setCell (Nat.le_refl _) _⟩
theorem wd_good {s : ByteArray} {w w2 : World} {i n r : Nat} {ys : List Int} {v : Value} (hv : v = .int .i64 ((i : Int) + (n : Int))) (hi : i < s.size) (hd : Hid (Utf8.decode s i = (r, n))) (hR : RI w2 w.heap.size ys) (HL : Hid (ys.length = s.size)) (HW : Hid (WI s i (wv ys))) (hB : Hid (badB s i = false)) (hb : Below w.heap.size w w2) :
    WdRel s w v (w2.setCell ⟨w.heap.size, i, none⟩ (.int .i64 (n : Int))) := by
  have k := wi_good HW.out hi hB.out
  have k2 := dec_fit hi
  rw [hd.out] at k k2
  exact ⟨i + n, ys.set i (n : Int), hv, k2.2.2, hR.put i _, Lib.hid (by rw [List.length_set]; exact HL.out), Lib.hid (by rw [wv_set (by rw [HL.out]; exact hi)]; exact k), hb.setCell (Nat.le_refl _) _⟩
set_option maxHeartbeats 4000000 in
theorem widths_any (s : ByteArray) (w : World) (hs : s.size ≤ 16000) (hT : Tabs w) :
    Calls Tryd.prog 19 #[.string s] w (WdPost s w) := by
  have hmk := mkI s.size hs w
  go_enter Tryd.func19, Tryd.ntmps19
  go_wp2_with fail
  obtain ⟨V, hV⟩ : ∃ V, V = w.alloc (.cells (Array.replicate s.size (Value.int .i64 0)) 3) := ⟨_, rfl⟩
  have R0 : RI V w.heap.size (List.replicate s.size 0) := by rw [hV, ← List.toArray_replicate]; exact RI.new w s.size
  have EV : Below w.heap.size w V := by rw [hV]; exact (Below.refl _ _).alloc (Nat.le_refl _) _
  rw [← hV]
  clear hV hmk
  go_loopw [4] (fun s4 w' => WdRel s w s4 w') (fun s4 _ => s.size - (intOf s4).toNat)
  case atStart => exact ⟨0, _, rfl, by omega, R0, Lib.hid (by simp), Lib.hid (by rw [wv_zero]; exact wi_init s), EV⟩
  case round =>
    obtain ⟨i, ys, rfl, hi, hR, HL, HW, hbw⟩ := hrel
    by_cases hp : i < s.size
    · have c1 : (0 : Int) ≤ (i : Int) := by omega
      have c2 : (i : Int) ≤ (s.size : Int) := by omega
      have c3 : (i : Int) < (s.size : Int) := by omega
      have hTr := hT.below hbw (Nat.le_refl _)
      obtain ⟨r, n, hd⟩ : ∃ r n, Utf8.decode s i = (r, n) := ⟨_, _, rfl⟩
      have hfit := dec_fit hp
      have hle := decode_le s i
      rw [hd] at hfit hle
      simp only at hfit hle
      have HD := Lib.hid hd
      have HC := Lib.hid hd
      clear hd
      by_cases a1 : r = 65533
      · have f3 : ((r : Int) == 65533) = true := beq_iff_eq.2 (by omega)
        have f1 : decide ((r : Int) < 32) = false := decide_eq_false (by omega)
        by_cases a2 : n ≤ 1
        · have f4 : decide ((n : Int) ≤ 1) = true := decide_eq_true (by omega)
          have HB := Lib.hid (show badB s i = true by rw [bad_ref hp, HD.out]; simp; omega)
          clear a1
          clear HC
          go_wp2_with (go_at_call 33; refine (dr_any s i r n _ hp HD hTr).mono ?_; rintro e w2 ⟨rfl, hb2⟩; have R2 := hR.below hb2 hR.lt; have q0 := R2.cell (j := i) (by rw [HL.out]; exact hp); have q1 := R2.frozen i; have E2 : Below w.heap.size w w2 := hbw.trans (hb2.mono hbw.size))
          go_roundw
          case rel => exact wd_bad rfl hp R2 HL HW HB E2
          case measure => simp [intOf]; omega
        · have f4 : decide ((n : Int) ≤ 1) = false := decide_eq_false (by omega)
          have HB := Lib.hid (show badB s i = false by rw [bad_ref hp, HD.out]; simp; omega)
          clear a1
          clear HC
          go_wp2_with (go_at_call 33; refine (dr_any s i r n _ hp HD hTr).mono ?_; rintro e w2 ⟨rfl, hb2⟩; have R2 := hR.below hb2 hR.lt; have q0 := R2.cell (j := i) (by rw [HL.out]; exact hp); have q1 := R2.frozen i; have E2 : Below w.heap.size w w2 := hbw.trans (hb2.mono hbw.size))
          go_roundw
          case rel => exact wd_good rfl hp HD R2 HL HW HB E2
          case measure => simp [intOf]; omega
      · have f3 : ((r : Int) == 65533) = false := beq_eq_false_iff_ne.2 (by omega)
        by_cases a2 : r < 32
        · have f1 : decide ((r : Int) < 32) = true := decide_eq_true (by omega)
          by_cases a3 : r = 10
          · have f2 : ((r : Int) != 10) = false := by rw [bne_eq_false_iff_eq]; omega
            have HB := Lib.hid (show badB s i = false by rw [bad_ref hp, HD.out]; simp; omega)
            clear a1 a2 a3
            clear HC
            go_wp2_with (go_at_call 33; refine (dr_any s i r n _ hp HD hTr).mono ?_; rintro e w2 ⟨rfl, hb2⟩; have R2 := hR.below hb2 hR.lt; have q0 := R2.cell (j := i) (by rw [HL.out]; exact hp); have q1 := R2.frozen i; have E2 : Below w.heap.size w w2 := hbw.trans (hb2.mono hbw.size))
            go_roundw
            case rel => exact wd_good rfl hp HD R2 HL HW HB E2
            case measure => simp [intOf]; omega
          · have f2 : ((r : Int) != 10) = true := by rw [bne_iff_ne]; omega
            have HB := Lib.hid (show badB s i = true by rw [bad_ref hp, HD.out]; simp; omega)
            clear a1 a2 a3
            clear HC
            go_wp2_with (go_at_call 33; refine (dr_any s i r n _ hp HD hTr).mono ?_; rintro e w2 ⟨rfl, hb2⟩; have R2 := hR.below hb2 hR.lt; have q0 := R2.cell (j := i) (by rw [HL.out]; exact hp); have q1 := R2.frozen i; have E2 : Below w.heap.size w w2 := hbw.trans (hb2.mono hbw.size))
            go_roundw
            case rel => exact wd_bad rfl hp R2 HL HW HB E2
            case measure => simp [intOf]; omega
        · have f1 : decide ((r : Int) < 32) = false := decide_eq_false (by omega)
          have HB := Lib.hid (show badB s i = false by rw [bad_ref hp, HD.out]; simp; omega)
          clear a1 a2
          clear HC
          go_wp2_with (go_at_call 33; refine (dr_any s i r n _ hp HD hTr).mono ?_; rintro e w2 ⟨rfl, hb2⟩; have R2 := hR.below hb2 hR.lt; have q0 := R2.cell (j := i) (by rw [HL.out]; exact hp); have q1 := R2.frozen i; have E2 : Below w.heap.size w w2 := hbw.trans (hb2.mono hbw.size))
          go_roundw
          case rel => exact wd_good rfl hp HD R2 HL HW HB E2
          case measure => simp [intOf]; omega
    · have c3 : ¬ (i : Int) < (s.size : Int) := by omega
      have HE := Lib.hid (wi_end HW.out hi hp)
      clear hp
      go_wp2
      go_ret
      exact ⟨_, ys, rfl, hR, HL, HE, Nat.le_refl _, hbw⟩
end Go.Proofs.YtlohapafpgihaaaDoor
