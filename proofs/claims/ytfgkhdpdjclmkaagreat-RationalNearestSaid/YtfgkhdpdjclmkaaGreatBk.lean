/- Package integer: Text. -/
import Derived.Test.YtfgkhdpdjclmkaaGreatBj
import Derived.Test.YtfgkhdpdjclmkaaGreatBh
import Derived.Test.YtfgkhdpdjclmkaaGreatBe
namespace Go.Proofs.YtfgkhdpdjclmkaaGreat
open Go.RowKit
set_option maxHeartbeats 400000
set_option maxRecDepth 100000
set_option linter.unusedSimpArgs false
set_option linter.unusedVariables false

theorem icheckBase_ok (w : World) (y : Int) (hy : 2 ≤ y ∧ y ≤ 36) :
    Calls Tryz.prog 125 #[.int .i64 y] w (fun e w' => e = .returned (flt 0 0) ∧ Below w.heap.size w w') := by
  go_enter Tryz.func125, Tryz.ntmps125
  go_wp2_with fail
  refine bodyPost_ret (v := flt 0 0) (by simp [results, Tryz.results125, go_sem]) rfl ⟨rfl, ?_⟩
  (repeat (first | with_reducible exact Below.refl _ _ | with_reducible refine Below.drew ?_ | with_reducible refine below_drewN ?_ _ | with_reducible refine Below.setCell ?_ (by first | (simp <;> omega) | omega) _ | with_reducible refine Below.alloc ?_ (by first | (simp <;> omega) | omega) _))
/-- The byte of a digit. -/
def sym (d : Nat) : UInt8 := if d < 10 then UInt8.ofNat (48 + d) else UInt8.ofNat (87 + d)
theorem sym_at (d : Nat) (hd : d < 36) (h2 : d < (ByteArray.mk #[48, 49, 50, 51, 52, 53, 54, 55, 56, 57, 97, 98, 99, 100, 101, 102, 103, 104, 105, 106, 107, 108, 109, 110, 111, 112, 113, 114, 115, 116, 117, 118, 119, 120, 121, 122]).size) : (ByteArray.mk #[48, 49, 50, 51, 52, 53, 54, 55, 56, 57, 97, 98, 99, 100, 101, 102, 103, 104, 105, 106, 107, 108, 109, 110, 111, 112, 113, 114, 115, 116, 117, 118, 119, 120, 121, 122])[d] = sym d := by
  have H : ∀ d : Fin 36, (ByteArray.mk #[48, 49, 50, 51, 52, 53, 54, 55, 56, 57, 97, 98, 99, 100, 101, 102, 103, 104, 105, 106, 107, 108, 109, 110, 111, 112, 113, 114, 115, 116, 117, 118, 119, 120, 121, 122])[d.1]'(by have := d.2; exact this) = sym d.1 := by decide
  exact H ⟨d, hd⟩
abbrev bys (l : List UInt8) : List Value := l.map fun b => Value.int .u8 (b.toNat : Int)
/-- The text of z to the base y. -/
def TextIs (z : Int) (y : Nat) (s : List UInt8) : Prop := ∃ ds : List Nat, Rep y ds.reverse z.natAbs ∧ s = if z = 0 then [48] else (if z < 0 then [45] else []) ++ ds.map sym
theorem TextIs.uniq {z : Int} {y : Nat} {s t : List UInt8} (hy : 0 < y) (h : TextIs z y s) (k : TextIs z y t) : s = t := by
  obtain ⟨ds, h1, rfl⟩ := h
  obtain ⟨es, k1, rfl⟩ := k
  have := h1.unique hy k1
  rw [List.reverse_inj.1 this]
def GivesT (w : World) (z : Int) (y : Nat) (f1 f2 : Int) (e : Ending) (w' : World) : Prop := ∃ s, TextIs z y s ∧ e = .returned (.tuple #[.string ⟨s.toArray⟩, flt f1 f2]) ∧ Below w.heap.size w w'
theorem info8 : (Tryz.prog.info? 5).map (fun i => (i.zero, i.size, i.bytes)) = some (some (.int .u8 0), 1, 1) := by kernel_rfl
theorem len4096 {y p : Nat} {zs : List Nat} (hy : 2 ≤ y) (h : Rep y zs p) (hp : p < Top128) : zs.length ≤ 4096 := by
  obtain ⟨k, hk⟩ : ∃ k, k = 128 := ⟨_, rfl⟩
  obtain ⟨m, hm⟩ : ∃ m, m = 32 * k := ⟨_, rfl⟩
  rw [top128 hk] at hp
  have e : 4294967296 ^ k = 2 ^ m := by rw [hm, Nat.pow_mul]
  have h2 : 2 ^ m ≤ y ^ m := Nat.pow_le_pow_left hy m
  have := h.length_le (by omega) (Nat.lt_of_lt_of_le (by rw [← e]; exact hp) h2)
  omega
def TxRel (n b : Nat) (pre : List UInt8) (zs : List Nat) (W : World) (v i : Value) (wr : World) : Prop :=
  ∃ (j : Nat) (l : List UInt8), j ≤ n ∧ i = .int .i64 (j : Int) ∧ wr.ownsRow b 5 1 v l.length (bys l) ∧ Hid (l = pre ++ (zs.take j).map sym) ∧ l.length ≤ 1 + j ∧ Below b W wr
theorem own_nextS {W wr w1 : World} {b : Nat} {v v' : Value} {l : List UInt8} {x : UInt8} {o : Obj} (hb : Below b W wr) (hs : b ≤ wr.heap.size) (hown : wr.ownsRow b 5 1 v l.length (bys l))
    (hown' : w1.ownsRow b 5 1 v' (l.length + 1) (bys l ++ [.int .u8 (x.toNat : Int)])) (hg : (wr.alloc o).grownBy w1 v.ownBlock) :
    w1.ownsRow b 5 1 v' (l ++ [x]).length (bys (l ++ [x])) ∧ Below b W w1 := by
  refine ⟨by rw [List.length_append]; simpa [bys] using hown', ?_⟩
  exact (hb.alloc hs o).grown hg (by simp; omega) (fun k hk => (hown.lt k hk).1)
theorem tx_next {l pre : List UInt8} {zs : List Nat} {j : Nat} (hj : j < zs.length) (h : l = pre ++ (zs.take j).map sym) : l ++ [sym (zs.getD j 0)] = pre ++ (zs.take (j + 1)).map sym := by
  rw [h, List.take_succ_eq_append_getElem hj]
  rw [List.map_append, ← List.append_assoc]
  simp [hj]
abbrev tx2 (w : World) (a : IV) : World := (w.alloc a.cells).alloc (.cells #[.int .i64 0, .int .i64 0] 28)
set_option maxHeartbeats 1000000 in
theorem itext_zero (w : World) (B : Nat) (a : IV) (y : Nat) (ha : a.at w B) (hB : B ≤ w.heap.size) (oa : a.ok = true) (hy : 2 ≤ y ∧ y ≤ 36) (h0 : a.n = 0) :
    Calls Tryz.prog 99 #[a.v, .int .i64 (y : Int)] w (GivesT w a.val y 0 0) := by
  have HN := Lib.hid h0
  have HV := Lib.hid (show TextIs a.val y [48] by
    have e : a.val = 0 := by
      unfold IV.val sval
      rw [List.eq_nil_of_length_eq_zero (ha.len.out.trans h0), vb_nil]; simp
    rw [e]
    exact ⟨[], ⟨(by intro x hx; cases hx), rfl, Top.nil⟩, rfl⟩)
  have HY := Lib.hid (show 2 ≤ (y : Int) ∧ (y : Int) ≤ 36 by omega)
  clear h0
  have H2 := LRd.below ha (fb1_below w a) hB
  have s2 : (tx2 w a).heap.size = w.heap.size + 2 := by simp
  have HI := Lib.hid (irow1 (tx2 w a) B a H2 (by omega))
  have PR := Fb1.new w a
  have E2 := fb1_below w a
  go_enter Tryz.func99, Tryz.ntmps99
  go_wp2_with fail
  refine (check_any _ B (w.heap.size + 2) 1 [a] (by have := HI.out; rw [s2] at this; exact this) rfl (by simp; omega) (by omega)).mono ?_
  rintro e w5 ⟨rfl, hb5⟩
  rw [one_ok oa]
  have z5 : w.heap.size + 2 < w5.heap.size := by have := hb5.size; simp at this; omega
  have P5 := ((PR.alloc a.cells).below hb5 (by simp)).alloc (.cells #[.int .i64 0, .int .i64 0] 28)
  have E5 : Below w.heap.size w (w5.alloc (.cells #[.int .i64 0, .int .i64 0] 28)) := by (repeat (first | with_reducible exact Below.refl _ _ | with_reducible exact E2 | with_reducible refine Below.drew ?_ | with_reducible refine below_drewN ?_ _ | with_reducible refine Below.setCell ?_ (by first | (simp <;> omega) | omega) _ | with_reducible refine Below.trans ?_ (Below.mono hb5 (by first | (simp <;> omega) | omega)) | with_reducible refine Below.alloc ?_ (by first | (simp <;> omega) | omega) _))
  have H5 : LRd (w5.alloc (.cells #[.int .i64 0, .int .i64 0] 28)) B a.A a.n a.c a.xs := LRd.alloc (LRd.below (by (repeat (first | with_reducible exact H2 | with_reducible refine LRd.alloc ?_ (by first | (simp <;> omega) | omega) _ | with_reducible refine LRd.drewN ?_ _ | with_reducible refine LRd.drew ?_))) hb5 (by simp; omega)) (by omega) _
  clear HI PR H2 E2 hb5 s2
  go_wp2_with fail
  refine (icheckBase_ok _ (y : Int) HY.out).mono ?_
  rintro e w6 ⟨rfl, hb6⟩
  have z6 : w5.heap.size < w6.heap.size := next_lt hb6
  have P6 := (P5.below hb6 (by simp; omega)).alloc (.cells #[.int .i64 0, .int .i64 0] 28)
  have f0 := P6.f0
  have f1 := P6.f1
  have fz0 := P6.z0
  have fz1 := P6.z1
  have a1 := P6.a1
  rw [HN.out] at a1
  clear P5 P6 H5
  go_wp2_with fail
  refine bodyPost_ret (v := .tuple #[.string ⟨#[48]⟩, flt 0 0]) (by simp [results, Tryz.results99, go_sem, f0, f1]) rfl ⟨[48], HV.out, rfl, ?_⟩
  (repeat (first | with_reducible exact Below.refl _ _ | with_reducible exact E5 | with_reducible refine Below.drew ?_ | with_reducible refine below_drewN ?_ _ | with_reducible refine Below.setCell ?_ (by first | (simp <;> omega) | omega) _ | with_reducible refine Below.trans ?_ (Below.mono hb6 (by first | (simp <;> omega) | omega)) | with_reducible refine Below.alloc ?_ (by first | (simp <;> omega) | omega) _))
set_option maxHeartbeats 4000000 in
theorem itext_pos (w : World) (B : Nat) (a : IV) (y : Nat) (ha : a.at w B) (hB : B ≤ w.heap.size) (oa : a.ok = true) (hy : 2 ≤ y ∧ y ≤ 36) (h0 : 0 < a.n) (hs : Hid (a.neg = false)) :
    Calls Tryz.prog 99 #[a.v, .int .i64 (y : Int)] w (GivesT w a.val y 0 0) := by
  obtain ⟨i0, hi, hz0, hz1, hz2⟩ := info_parts info8
  obtain ⟨va, la⟩ := IV.vld oa
  have hra : Rep 4294967296 a.xs (vb 4294967296 a.xs) := ⟨ha.lim, rfl, (vld_top va).1⟩
  have hpos := rep_pos4' hra ha.len.out h0
  have hlt := lt128 hra rfl la
  obtain ⟨p, hp⟩ : ∃ p, p = vb 4294967296 a.xs := ⟨_, rfl⟩
  rw [← hp] at hpos hlt
  have HP := Lib.hid hpos
  have HL := Lib.hid hlt
  have HV := Lib.hid (show a.val = sval a.neg p by rw [hp]; rfl)
  have Hp := Lib.hid hp
  have HY := Lib.hid (show 2 ≤ (y : Int) ∧ (y : Int) ≤ 36 by omega)
  have hf0 : ((a.n : Int) == 0) = false := beq_eq_false_iff_ne.2 (by omega)
  clear hra hpos hlt hp
  have H2 := LRd.below ha (fb1_below w a) hB
  have s2 : (tx2 w a).heap.size = w.heap.size + 2 := by simp
  have HI := Lib.hid (irow1 (tx2 w a) B a H2 (by omega))
  have PR := Fb1.new w a
  have E2 := fb1_below w a
  go_enter Tryz.func99, Tryz.ntmps99
  go_wp2_with fail
  refine (check_any _ B (w.heap.size + 2) 1 [a] (by have := HI.out; rw [s2] at this; exact this) rfl (by simp; omega) (by omega)).mono ?_
  rintro e w5 ⟨rfl, hb5⟩
  rw [one_ok oa]
  have z5 : w.heap.size + 2 < w5.heap.size := by have := hb5.size; simp at this; omega
  have P5 := ((PR.alloc a.cells).below hb5 (by simp)).alloc (.cells #[.int .i64 0, .int .i64 0] 28)
  have E5 : Below w.heap.size w (w5.alloc (.cells #[.int .i64 0, .int .i64 0] 28)) := by (repeat (first | with_reducible exact Below.refl _ _ | with_reducible exact E2 | with_reducible refine Below.drew ?_ | with_reducible refine below_drewN ?_ _ | with_reducible refine Below.setCell ?_ (by first | (simp <;> omega) | omega) _ | with_reducible refine Below.trans ?_ (Below.mono hb5 (by first | (simp <;> omega) | omega)) | with_reducible refine Below.alloc ?_ (by first | (simp <;> omega) | omega) _))
  have H5 : LRd (w5.alloc (.cells #[.int .i64 0, .int .i64 0] 28)) B a.A a.n a.c a.xs := LRd.alloc (LRd.below (by (repeat (first | with_reducible exact H2 | with_reducible refine LRd.alloc ?_ (by first | (simp <;> omega) | omega) _ | with_reducible refine LRd.drewN ?_ _ | with_reducible refine LRd.drew ?_))) hb5 (by simp; omega)) (by omega) _
  clear HI PR H2 E2 hb5 s2
  go_wp2_with fail
  refine (icheckBase_ok _ (y : Int) HY.out).mono ?_
  rintro e w6 ⟨rfl, hb6⟩
  have z6 : w5.heap.size < w6.heap.size := next_lt hb6
  have P6 := (P5.below hb6 (by simp; omega)).alloc (.cells #[.int .i64 0, .int .i64 0] 28)
  have E6 : Below w.heap.size w (w6.alloc (.cells #[.int .i64 0, .int .i64 0] 28)) := by (repeat (first | with_reducible exact Below.refl _ _ | with_reducible exact E5 | with_reducible refine Below.drew ?_ | with_reducible refine below_drewN ?_ _ | with_reducible refine Below.setCell ?_ (by first | (simp <;> omega) | omega) _ | with_reducible refine Below.trans ?_ (Below.mono hb6 (by first | (simp <;> omega) | omega)) | with_reducible refine Below.alloc ?_ (by first | (simp <;> omega) | omega) _))
  have H6 : LRd (w6.alloc (.cells #[.int .i64 0, .int .i64 0] 28)) B a.A a.n a.c a.xs := LRd.alloc (LRd.below H5 hb6 (by simp; omega)) (by omega) _
  have a1 := P6.a1
  clear P5 H5 E5 hb6
  go_wp2_with fail
  refine (digits_ok _ B a.A a.n a.c y a.xs H6 (by simp; omega) va hy).mono ?_
  rintro e w7 ⟨A7, k7, c7, z7, rfl, hl7, hr7, hb7⟩
  rw [← Hp.out] at hr7
  have HR := Lib.hid hr7
  have hk7 : k7 ≤ 4096 := by have := len4096 hy.1 hr7 HL.out; rw [List.length_reverse, hl7.len.out] at this; exact this
  have HZ := Lib.hid (show ∀ j, nth z7 j < 36 from fun j => by
    have h1 : z7.getD j 0 < y := by
      rcases getD_mem_or z7 j with h | h
      · exact hr7.dig _ (List.mem_reverse.2 h)
      · omega
    unfold nth; omega)
  have z7' : w6.heap.size < w7.heap.size := next_lt hb7
  have P7 := (P6.below hb7 (by simp; omega)).alloc (.cells #[.int .i64 0, .int .i64 0] 28)
  have E7 : Below w.heap.size w (w7.alloc (.cells #[.int .i64 0, .int .i64 0] 28)) := by (repeat (first | with_reducible exact Below.refl _ _ | with_reducible exact E6 | with_reducible refine Below.drew ?_ | with_reducible refine below_drewN ?_ _ | with_reducible refine Below.setCell ?_ (by first | (simp <;> omega) | omega) _ | with_reducible refine Below.trans ?_ (Below.mono hb7 (by first | (simp <;> omega) | omega)) | with_reducible refine Below.alloc ?_ (by first | (simp <;> omega) | omega) _))
  have D7 := DRd.more (DRd.alloc hl7 (Nat.le_refl _) (.cells #[.int .i64 0, .int .i64 0] 28)) (B' := w7.heap.size + 1) (by omega)
  have hmk := fun (W : World) => run_make (P := Tryz.prog) W 127 5 i0 (.int .u8 0) Tryz.underlying127 hi hz0 .i64 .i64 0 ((k7 : Int) + 1) (by omega) (by omega) (by rw [hz2]; omega) (by omega)
  have hzl := Lib.hid hl7.len.out
  clear a1 P6 E6 H6 hb7 hr7 hl7
  have a0 := P7.a0
  have zz : w.heap.size < w7.heap.size := by omega
  rw [hs.out] at a0
  go_wp2_with fail
  have hown0 := World.ownsRow_made (e := 5) (size := 1) (w7.alloc (.cells #[.int .i64 0, .int .i64 0] 28)) (madeCells #[Value.int .u8 0] (k7 + 1)) (k7 + 1) (base := w7.heap.size + 1) (by simp) (by unfold maxLen; omega) (by rw [size_madeCells, Nat.mul_one])
  obtain ⟨W, hW⟩ : ∃ W : World, W = (w7.alloc (.cells #[.int .i64 0, .int .i64 0] 28)).alloc (.cells (madeCells #[Value.int .u8 0] (k7 + 1)) 5) := ⟨_, rfl⟩
  have sW : W.heap.size = w7.heap.size + 2 := by rw [hW]; simp
  have DW : DRd W (w7.heap.size + 1) A7 k7 c7 z7 := by rw [hW]; exact D7.alloc (by simp) _
  have EW : Below w.heap.size w W := by rw [hW]; exact E7.alloc (by simp; omega) _
  have PW : Fb1 W w.heap.size a := by rw [hW]; exact P7.alloc _
  have OW : W.ownsRow (w7.heap.size + 1) 5 1 (.slice (some ⟨w7.heap.size + 1, 0, none⟩) 0 (k7 + 1)) ([] : List UInt8).length (bys []) := by rw [hW]; simpa using hown0
  rw [← hW]
  clear hW D7 E7 P7 hown0 a0 hmk
  have HW := Lib.hid sW
  clear sW
  go_loopw [10, 49] (TxRel k7 (w7.heap.size + 1) [] z7 W) (fun _ i _ => k7 - (intOf i).toNat)
  case atStart => exact ⟨0, [], by omega, rfl, OW, (by show _ = _; simp), by simp, Below.refl _ _⟩
  case round =>
    obtain ⟨j, l, hj, rfl, hown, HLs, hll, hbw⟩ := hrel
    have hsz : w7.heap.size + 1 ≤ wr.heap.size := by have := hbw.size; have := HW.out; omega
    by_cases h1 : j < k7
    · obtain ⟨bb, off, rfl, hb, hc⟩ := DW.rd (by omega)
      have g1 := (hbw.cell (p := ⟨bb, off + j, none⟩) (by show bb < _; omega)).trans (hc j h1)
      have a1 := nth_nn z7 j
      have a2 := HZ.out j
      clear hc
      obtain ⟨c, hcc⟩ : ∃ c, c = sym (z7.getD j 0) := ⟨_, rfl⟩
      have HC := Lib.hid hcc
      have hsy : ∀ h : (nth z7 j).toNat < (ByteArray.mk #[48, 49, 50, 51, 52, 53, 54, 55, 56, 57, 97, 98, 99, 100, 101, 102, 103, 104, 105, 106, 107, 108, 109, 110, 111, 112, 113, 114, 115, 116, 117, 118, 119, 120, 121, 122]).size, (ByteArray.mk #[48, 49, 50, 51, 52, 53, 54, 55, 56, 57, 97, 98, 99, 100, 101, 102, 103, 104, 105, 106, 107, 108, 109, 110, 111, 112, 113, 114, 115, 116, 117, 118, 119, 120, 121, 122])[(nth z7 j).toNat]'h = c := fun h => by
        have e : (nth z7 j).toNat = z7.getD j 0 := by unfold nth; rw [Int.toNat_natCast]
        rw [sym_at _ (by omega) h, e, hcc]
      have NX := Lib.hid (tx_next (by rw [hzl.out]; exact h1) HLs.out)
      rw [← hcc] at NX
      clear hcc
      go_wp2_with (at_builtin; refine wpList_append_own _ rfl _ _ 127 rfl (w7.heap.size + 1) 5 i0 (.int .u8 0) 1 1 Tryz.underlying127 hi hz0 hz1 hz2 rfl (by decide) _ _ _ rfl (hown.alloc _) ⟨wr.heap.size, 0, none⟩ 1 1 [.int .u8 (c.toNat : Int)] rfl rfl (cell_one_new _ _ _) (fun u hu => by simp at hu; subst hu; rfl) (by unfold maxLen; omega) (by omega) (by first | (simp; omega) | omega) ?_; intro v' w1 hown' hgrow _)
      obtain ⟨ho, hb1⟩ := own_nextS hbw hsz hown hown' hgrow
      clear hown hown' hgrow hsy
      go_wp2_with fail
      go_roundw
      case rel => exact ⟨j + 1, l ++ [c], by omega, by go_num, ho, NX.out, by simp; omega, hb1⟩
      case measure => first | (simp [intOf]; done) | (simp [intOf]; omega)
    · obtain rfl : j = k7 := by omega
      obtain ⟨A', c', rfl, hc1, hc2⟩ := own_shape hown
      have hl0 : l ≠ [] := by
        intro e
        have h9 := HLs.out
        rw [e] at h9
        have h8 := (List.nil_eq_append_iff.1 h9).2
        rw [List.map_eq_nil_iff, List.take_of_length_le (by rw [hzl.out]; exact Nat.le_refl _)] at h8
        have h7 := HR.out.val
        rw [h8] at h7
        have := HP.out
        rw [← h7] at this
        rw [List.reverse_nil, vb_nil] at this
        exact absurd this (Nat.lt_irrefl 0)
      have HX := Lib.hid (show TextIs a.val y l by
        refine ⟨z7, by rw [HV.out, sval_abs]; exact HR.out, ?_⟩
        rw [HLs.out, List.take_of_length_le (by rw [hzl.out]; exact Nat.le_refl _), HV.out, hs.out]
        have := HP.out
        (have e1 : (sval false p) = (p : Int) := rfl; rw [e1]; rw [if_neg (by omega), if_neg (by omega)]))
      obtain ⟨g, hg⟩ : ∃ g, A' = some ⟨g, 0, none⟩ ∧ ∀ j (hj : j < l.length), wr.cell? ((⟨g, 0, none⟩ : Addr).add j) = some (.int .u8 ((l[j]).toNat : Int)) := by
        obtain ⟨_, _, _, h4⟩ := own_rd hown
        obtain ⟨b, off, e, _, hc⟩ := h4 (List.length_pos_iff.2 hl0)
        have hoff : off = 0 := by
          rcases hown.2 with ⟨_, h0⟩ | ⟨g, cap, cur, hv, _⟩
          · exact absurd (List.eq_nil_of_length_eq_zero h0) hl0
          · injection hv with e1 _ _
            rw [e] at e1; injection e1 with e1; injection e1
        subst hoff
        refine ⟨b, e, fun j hj => ?_⟩
        have h5 := hc j hj
        have hpl : (⟨b, 0, none⟩ : Addr).add j = ⟨b, 0 + j, none⟩ := by unfold Addr.add; split <;> simp_all
        rw [hpl]
        simpa [hj] using h5
      obtain ⟨rfl, hg⟩ := hg
      have hcv := run_convert_bytes_back (P := Tryz.prog) wr 127 9 5 ⟨g, 0, none⟩ c' l Tryz.underlying127 Tryz.underlying5 Tryz.underlying9 hg
      have PF := PW.below hbw (by omega)
      have f0 := PF.f0
      have f1 := PF.f1
      have fz0 := PF.z0
      have fz1 := PF.z1
      have EX : Below w.heap.size w wr := EW.trans (hbw.mono (by omega))
      clear hg hl0 PF hown
      go_wp2_with fail
      refine bodyPost_ret (v := .tuple #[.string ⟨l.toArray⟩, flt 0 0]) (by simp [results, Tryz.results99, go_sem, f0, f1]) rfl ⟨l, HX.out, rfl, ?_⟩
      (repeat (first | with_reducible exact Below.refl _ _ | with_reducible exact EX | with_reducible refine Below.drew ?_ | with_reducible refine below_drewN ?_ _ | with_reducible refine Below.setCell ?_ (by first | (simp <;> omega) | omega) _ | with_reducible refine Below.alloc ?_ (by first | (simp <;> omega) | omega) _))
set_option maxHeartbeats 4000000 in
theorem itext_neg (w : World) (B : Nat) (a : IV) (y : Nat) (ha : a.at w B) (hB : B ≤ w.heap.size) (oa : a.ok = true) (hy : 2 ≤ y ∧ y ≤ 36) (h0 : 0 < a.n) (hs : Hid (a.neg = true)) :
    Calls Tryz.prog 99 #[a.v, .int .i64 (y : Int)] w (GivesT w a.val y 0 0) := by
  obtain ⟨i0, hi, hz0, hz1, hz2⟩ := info_parts info8
  obtain ⟨va, la⟩ := IV.vld oa
  have hra : Rep 4294967296 a.xs (vb 4294967296 a.xs) := ⟨ha.lim, rfl, (vld_top va).1⟩
  have hpos := rep_pos4' hra ha.len.out h0
  have hlt := lt128 hra rfl la
  obtain ⟨p, hp⟩ : ∃ p, p = vb 4294967296 a.xs := ⟨_, rfl⟩
  rw [← hp] at hpos hlt
  have HP := Lib.hid hpos
  have HL := Lib.hid hlt
  have HV := Lib.hid (show a.val = sval a.neg p by rw [hp]; rfl)
  have Hp := Lib.hid hp
  have HY := Lib.hid (show 2 ≤ (y : Int) ∧ (y : Int) ≤ 36 by omega)
  have hf0 : ((a.n : Int) == 0) = false := beq_eq_false_iff_ne.2 (by omega)
  clear hra hpos hlt hp
  have H2 := LRd.below ha (fb1_below w a) hB
  have s2 : (tx2 w a).heap.size = w.heap.size + 2 := by simp
  have HI := Lib.hid (irow1 (tx2 w a) B a H2 (by omega))
  have PR := Fb1.new w a
  have E2 := fb1_below w a
  go_enter Tryz.func99, Tryz.ntmps99
  go_wp2_with fail
  refine (check_any _ B (w.heap.size + 2) 1 [a] (by have := HI.out; rw [s2] at this; exact this) rfl (by simp; omega) (by omega)).mono ?_
  rintro e w5 ⟨rfl, hb5⟩
  rw [one_ok oa]
  have z5 : w.heap.size + 2 < w5.heap.size := by have := hb5.size; simp at this; omega
  have P5 := ((PR.alloc a.cells).below hb5 (by simp)).alloc (.cells #[.int .i64 0, .int .i64 0] 28)
  have E5 : Below w.heap.size w (w5.alloc (.cells #[.int .i64 0, .int .i64 0] 28)) := by (repeat (first | with_reducible exact Below.refl _ _ | with_reducible exact E2 | with_reducible refine Below.drew ?_ | with_reducible refine below_drewN ?_ _ | with_reducible refine Below.setCell ?_ (by first | (simp <;> omega) | omega) _ | with_reducible refine Below.trans ?_ (Below.mono hb5 (by first | (simp <;> omega) | omega)) | with_reducible refine Below.alloc ?_ (by first | (simp <;> omega) | omega) _))
  have H5 : LRd (w5.alloc (.cells #[.int .i64 0, .int .i64 0] 28)) B a.A a.n a.c a.xs := LRd.alloc (LRd.below (by (repeat (first | with_reducible exact H2 | with_reducible refine LRd.alloc ?_ (by first | (simp <;> omega) | omega) _ | with_reducible refine LRd.drewN ?_ _ | with_reducible refine LRd.drew ?_))) hb5 (by simp; omega)) (by omega) _
  clear HI PR H2 E2 hb5 s2
  go_wp2_with fail
  refine (icheckBase_ok _ (y : Int) HY.out).mono ?_
  rintro e w6 ⟨rfl, hb6⟩
  have z6 : w5.heap.size < w6.heap.size := next_lt hb6
  have P6 := (P5.below hb6 (by simp; omega)).alloc (.cells #[.int .i64 0, .int .i64 0] 28)
  have E6 : Below w.heap.size w (w6.alloc (.cells #[.int .i64 0, .int .i64 0] 28)) := by (repeat (first | with_reducible exact Below.refl _ _ | with_reducible exact E5 | with_reducible refine Below.drew ?_ | with_reducible refine below_drewN ?_ _ | with_reducible refine Below.setCell ?_ (by first | (simp <;> omega) | omega) _ | with_reducible refine Below.trans ?_ (Below.mono hb6 (by first | (simp <;> omega) | omega)) | with_reducible refine Below.alloc ?_ (by first | (simp <;> omega) | omega) _))
  have H6 : LRd (w6.alloc (.cells #[.int .i64 0, .int .i64 0] 28)) B a.A a.n a.c a.xs := LRd.alloc (LRd.below H5 hb6 (by simp; omega)) (by omega) _
  have a1 := P6.a1
  clear P5 H5 E5 hb6
  go_wp2_with fail
  refine (digits_ok _ B a.A a.n a.c y a.xs H6 (by simp; omega) va hy).mono ?_
  rintro e w7 ⟨A7, k7, c7, z7, rfl, hl7, hr7, hb7⟩
  rw [← Hp.out] at hr7
  have HR := Lib.hid hr7
  have hk7 : k7 ≤ 4096 := by have := len4096 hy.1 hr7 HL.out; rw [List.length_reverse, hl7.len.out] at this; exact this
  have HZ := Lib.hid (show ∀ j, nth z7 j < 36 from fun j => by
    have h1 : z7.getD j 0 < y := by
      rcases getD_mem_or z7 j with h | h
      · exact hr7.dig _ (List.mem_reverse.2 h)
      · omega
    unfold nth; omega)
  have z7' : w6.heap.size < w7.heap.size := next_lt hb7
  have P7 := (P6.below hb7 (by simp; omega)).alloc (.cells #[.int .i64 0, .int .i64 0] 28)
  have E7 : Below w.heap.size w (w7.alloc (.cells #[.int .i64 0, .int .i64 0] 28)) := by (repeat (first | with_reducible exact Below.refl _ _ | with_reducible exact E6 | with_reducible refine Below.drew ?_ | with_reducible refine below_drewN ?_ _ | with_reducible refine Below.setCell ?_ (by first | (simp <;> omega) | omega) _ | with_reducible refine Below.trans ?_ (Below.mono hb7 (by first | (simp <;> omega) | omega)) | with_reducible refine Below.alloc ?_ (by first | (simp <;> omega) | omega) _))
  have D7 := DRd.more (DRd.alloc hl7 (Nat.le_refl _) (.cells #[.int .i64 0, .int .i64 0] 28)) (B' := w7.heap.size + 1) (by omega)
  have hmk := fun (W : World) => run_make (P := Tryz.prog) W 127 5 i0 (.int .u8 0) Tryz.underlying127 hi hz0 .i64 .i64 0 ((k7 : Int) + 1) (by omega) (by omega) (by rw [hz2]; omega) (by omega)
  have hzl := Lib.hid hl7.len.out
  clear a1 P6 E6 H6 hb7 hr7 hl7
  have a0 := P7.a0
  have zz : w.heap.size < w7.heap.size := by omega
  rw [hs.out] at a0
  have hown0 := World.ownsRow_made (e := 5) (size := 1) (w7.alloc (.cells #[.int .i64 0, .int .i64 0] 28)) (madeCells #[Value.int .u8 0] (k7 + 1)) (k7 + 1) (base := w7.heap.size + 1) (by simp) (by unfold maxLen; omega) (by rw [size_madeCells, Nat.mul_one])
  have OW : ((w7.alloc (.cells #[.int .i64 0, .int .i64 0] 28)).alloc (.cells (madeCells #[Value.int .u8 0] (k7 + 1)) 5)).ownsRow (w7.heap.size + 1) 5 1 (.slice (some ⟨w7.heap.size + 1, 0, none⟩) 0 (k7 + 1)) ([] : List UInt8).length (bys []) := by simpa using hown0
  go_wp2_with (at_builtin; refine wpList_append_own _ rfl _ _ 127 rfl (w7.heap.size + 1) 5 i0 (.int .u8 0) 1 1 Tryz.underlying127 hi hz0 hz1 hz2 rfl (by decide) _ _ _ rfl (OW.alloc _) ⟨w7.heap.size + 1 + 1, 0, none⟩ 1 1 [.int .u8 45] rfl rfl (by rw [show w7.heap.size + 1 + 1 = ((w7.alloc (.cells #[.int .i64 0, .int .i64 0] 28)).alloc (.cells (madeCells #[Value.int .u8 0] (k7 + 1)) 5)).heap.size by simp]; exact cell_one_new _ _ _) (fun u hu => by simp at hu; subst hu; rfl) (by unfold maxLen; simp) (by simp) (by first | (simp <;> omega) | omega) ?_; intro v0 w8 hown8 hgrow8 _)
  obtain ⟨OW8, hb8⟩ := own_nextS (x := 45) (Below.refl (w7.heap.size + 1) _) (by simp) OW hown8 hgrow8
  have hb8 : Below (w7.heap.size + 1) (w7.alloc (.cells #[.int .i64 0, .int .i64 0] 28)) w8 := ((bl1 _ _).mono (by simp)).trans hb8
  have z8 : w7.heap.size + 1 ≤ w8.heap.size := by have := hb8.size; simpa using this
  have DW : DRd w8 (w7.heap.size + 1) A7 k7 c7 z7 := D7.below hb8 (Nat.le_refl _)
  have EW : Below w.heap.size w w8 := E7.trans (hb8.mono (by omega))
  have PW : Fb1 w8 w.heap.size a := P7.below hb8 (by omega)
  have HW := Lib.hid z8
  clear hown8 hgrow8 hown0 OW hb8 z8 D7 E7 P7 a0 hmk
  go_wp2_with fail
  go_loopw [10, 49] (TxRel k7 (w7.heap.size + 1) [45] z7 w8) (fun _ i _ => k7 - (intOf i).toNat)
  case atStart => exact ⟨0, [45], by omega, rfl, OW8, (by show _ = _; simp), by simp, Below.refl _ _⟩
  case round =>
    obtain ⟨j, l, hj, rfl, hown, HLs, hll, hbw⟩ := hrel
    have hsz : w7.heap.size + 1 ≤ wr.heap.size := by have := hbw.size; have := HW.out; omega
    by_cases h1 : j < k7
    · obtain ⟨bb, off, rfl, hb, hc⟩ := DW.rd (by omega)
      have g1 := (hbw.cell (p := ⟨bb, off + j, none⟩) (by show bb < _; omega)).trans (hc j h1)
      have a1 := nth_nn z7 j
      have a2 := HZ.out j
      clear hc
      obtain ⟨c, hcc⟩ : ∃ c, c = sym (z7.getD j 0) := ⟨_, rfl⟩
      have HC := Lib.hid hcc
      have hsy : ∀ h : (nth z7 j).toNat < (ByteArray.mk #[48, 49, 50, 51, 52, 53, 54, 55, 56, 57, 97, 98, 99, 100, 101, 102, 103, 104, 105, 106, 107, 108, 109, 110, 111, 112, 113, 114, 115, 116, 117, 118, 119, 120, 121, 122]).size, (ByteArray.mk #[48, 49, 50, 51, 52, 53, 54, 55, 56, 57, 97, 98, 99, 100, 101, 102, 103, 104, 105, 106, 107, 108, 109, 110, 111, 112, 113, 114, 115, 116, 117, 118, 119, 120, 121, 122])[(nth z7 j).toNat]'h = c := fun h => by
        have e : (nth z7 j).toNat = z7.getD j 0 := by unfold nth; rw [Int.toNat_natCast]
        rw [sym_at _ (by omega) h, e, hcc]
      have NX := Lib.hid (tx_next (by rw [hzl.out]; exact h1) HLs.out)
      rw [← hcc] at NX
      clear hcc
      go_wp2_with (at_builtin; refine wpList_append_own _ rfl _ _ 127 rfl (w7.heap.size + 1) 5 i0 (.int .u8 0) 1 1 Tryz.underlying127 hi hz0 hz1 hz2 rfl (by decide) _ _ _ rfl (hown.alloc _) ⟨wr.heap.size, 0, none⟩ 1 1 [.int .u8 (c.toNat : Int)] rfl rfl (cell_one_new _ _ _) (fun u hu => by simp at hu; subst hu; rfl) (by unfold maxLen; omega) (by omega) (by first | (simp; omega) | omega) ?_; intro v' w1 hown' hgrow _)
      obtain ⟨ho, hb1⟩ := own_nextS hbw hsz hown hown' hgrow
      clear hown hown' hgrow hsy
      go_wp2_with fail
      go_roundw
      case rel => exact ⟨j + 1, l ++ [c], by omega, by go_num, ho, NX.out, by simp; omega, hb1⟩
      case measure => first | (simp [intOf]; done) | (simp [intOf]; omega)
    · obtain rfl : j = k7 := by omega
      obtain ⟨A', c', rfl, hc1, hc2⟩ := own_shape hown
      have hl0 : l ≠ [] := by
        intro e
        have h9 := HLs.out
        rw [e] at h9
        have h8 := (List.nil_eq_append_iff.1 h9).2
        rw [List.map_eq_nil_iff, List.take_of_length_le (by rw [hzl.out]; exact Nat.le_refl _)] at h8
        have h7 := HR.out.val
        rw [h8] at h7
        have := HP.out
        rw [← h7] at this
        rw [List.reverse_nil, vb_nil] at this
        exact absurd this (Nat.lt_irrefl 0)
      have HX := Lib.hid (show TextIs a.val y l by
        refine ⟨z7, by rw [HV.out, sval_abs]; exact HR.out, ?_⟩
        rw [HLs.out, List.take_of_length_le (by rw [hzl.out]; exact Nat.le_refl _), HV.out, hs.out]
        have := HP.out
        (have e1 : (sval true p) = -(p : Int) := rfl; rw [e1]; rw [if_neg (by omega), if_pos (by omega)]))
      obtain ⟨g, hg⟩ : ∃ g, A' = some ⟨g, 0, none⟩ ∧ ∀ j (hj : j < l.length), wr.cell? ((⟨g, 0, none⟩ : Addr).add j) = some (.int .u8 ((l[j]).toNat : Int)) := by
        obtain ⟨_, _, _, h4⟩ := own_rd hown
        obtain ⟨b, off, e, _, hc⟩ := h4 (List.length_pos_iff.2 hl0)
        have hoff : off = 0 := by
          rcases hown.2 with ⟨_, h0⟩ | ⟨g, cap, cur, hv, _⟩
          · exact absurd (List.eq_nil_of_length_eq_zero h0) hl0
          · injection hv with e1 _ _
            rw [e] at e1; injection e1 with e1; injection e1
        subst hoff
        refine ⟨b, e, fun j hj => ?_⟩
        have h5 := hc j hj
        have hpl : (⟨b, 0, none⟩ : Addr).add j = ⟨b, 0 + j, none⟩ := by unfold Addr.add; split <;> simp_all
        rw [hpl]
        simpa [hj] using h5
      obtain ⟨rfl, hg⟩ := hg
      have hcv := run_convert_bytes_back (P := Tryz.prog) wr 127 9 5 ⟨g, 0, none⟩ c' l Tryz.underlying127 Tryz.underlying5 Tryz.underlying9 hg
      have PF := PW.below hbw (by omega)
      have f0 := PF.f0
      have f1 := PF.f1
      have fz0 := PF.z0
      have fz1 := PF.z1
      have EX : Below w.heap.size w wr := EW.trans (hbw.mono (by omega))
      clear hg hl0 PF hown
      go_wp2_with fail
      refine bodyPost_ret (v := .tuple #[.string ⟨l.toArray⟩, flt 0 0]) (by simp [results, Tryz.results99, go_sem, f0, f1]) rfl ⟨l, HX.out, rfl, ?_⟩
      (repeat (first | with_reducible exact Below.refl _ _ | with_reducible exact EX | with_reducible refine Below.drew ?_ | with_reducible refine below_drewN ?_ _ | with_reducible refine Below.setCell ?_ (by first | (simp <;> omega) | omega) _ | with_reducible refine Below.alloc ?_ (by first | (simp <;> omega) | omega) _))
theorem itext_ok (w : World) (B : Nat) (a : IV) (y : Nat) (ha : a.at w B) (hB : B ≤ w.heap.size) (oa : a.ok = true) (hy : 2 ≤ y ∧ y ≤ 36) :
    Calls Tryz.prog 99 #[a.v, .int .i64 (y : Int)] w (GivesT w a.val y 0 0) := by
  rcases Nat.eq_zero_or_pos a.n with e | e
  · exact itext_zero w B a y ha hB oa hy e
  · cases hn : a.neg
    · exact itext_pos w B a y ha hB oa hy e hn
    · exact itext_neg w B a y ha hB oa hy e hn
end Go.Proofs.YtfgkhdpdjclmkaaGreat
