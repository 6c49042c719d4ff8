/- The program's complement: the lowest limbs of a two's complement. -/
import Derived.Test.YtpjfoggohhlbdaaVBit2
import Derived.Test.YtpjfoggohhlbdaaVj
import Derived.Test.YtpjfoggohhlbdaaVl
import Derived.Test.YtpjfoggohhlbdaaVInt20
import Derived.Deep.RegionHeld3
import Derived.Deep.DeepCutAuto
namespace Go.Proofs.Ytpjfoggohhlbdaa
open Go.RowKit
set_option maxHeartbeats 400000
set_option maxRecDepth 100000
set_option linter.unusedSimpArgs false
set_option linter.unusedVariables false

open Go.RowKit in
theorem wpList_copy_limbs {w : World} {ops : Array Oper} {rest : List Oper} {o : Oper} {a : Act} {Q : Exit → Act → World → Prop} (hgd : o.guard = none) (d s : Operand)
    (ho : o.op = .call { callee := .builtin .copy, args := #[d, s], argTypes := #[22, 22] }) (g N c' m c Bx B : Nat) (A : Option Addr) (cs xs : List Nat) (w0 : World)
    (hd : a.eval d = .slice (some ⟨g, 0, none⟩) N c') (hs : a.eval s = .slice A m c) (hR : R32 w g cs) (hl : cs.length = N) (hx : LRd w Bx A m c xs) (hm : m ≤ N) (hb : Below B w0 w) (hBg : B ≤ g)
    (h : ∀ w', R32 w' g (xs ++ cs.drop m) → Below B w0 w' → wpList Try.prog ops Q rest (a.put o.dst (goInt m)) w') : wpList Try.prog ops Q (o :: rest) a w := by
  obtain ⟨more, hR⟩ := hR
  have hxl := hx.len.out
  have hlm : (limbs xs).length = m := by simp [limbs, hxl]
  refine wpList_copy_splice (P := Try.prog) hgd d s 22 22 ho 66 Try.underlying22 (by kernel_rfl) (some ⟨g, 0, none⟩) A N c' m c hd hs g 0 (limbs cs ++ more) 66 hR (limbs xs) (by rw [hlm]; exact (Nat.min_eq_left hm).symm)
    (fun h0 => ⟨rfl, ?_⟩) (by simp [limbs, hxl]; omega) (fun v hv => ?_) B w0 hb hBg ?_
  · obtain ⟨b, off, rfl, _, _⟩ := hx.rd (by omega)
    exact ⟨_, rfl, hx.news⟩
  · obtain ⟨x, _, rfl⟩ := List.mem_map.1 hv
    rfl
  · intro w' hg hb'
    rw [hlm]
    refine h w' ⟨more, ?_⟩ hb'
    have h1 := hg.out
    show w'.heap[g]? = _
    rw [h1]
    congr 2
    show (splice (limbs cs ++ more) 0 (limbs xs)).toArray = _
    unfold splice
    rw [List.take_zero, List.nil_append, Nat.zero_add, hlm, List.drop_append_of_le_length (by simp [limbs]; omega), ← List.append_assoc]
    simp [limbs]
def CplPost (a : IV) (N : Nat) (w : World) (e : Ending) (w' : World) : Prop :=
  ∃ g cs, e = .returned (.slice (some ⟨g, 0, none⟩) N N) ∧ R32 w' g cs ∧ cs.length = N ∧ Lim cs ∧ w.heap.size ≤ g ∧ (∀ i k, i < N → k < 32 → (cs.getD i 0).testBit k = zbit a.val (32 * i + k)) ∧ Below w.heap.size w w'
theorem pad_get (xs : List Nat) (N m i : Nat) : (xs ++ (List.replicate N 0).drop m).getD i 0 = xs.getD i 0 := by
  rw [getD_append]
  by_cases h : i < xs.length
  · rw [if_pos h]
  · rw [if_neg h, getD_none (xs := xs) (by omega), List.drop_replicate]
    rw [List.getD_eq_getElem?_getD]
    by_cases h2 : i - xs.length < N - m
    · rw [List.getElem?_replicate, if_pos h2]; rfl
    · rw [List.getElem?_eq_none (by simp; omega)]; rfl
theorem pad_lim {xs : List Nat} (h : Lim xs) (N m : Nat) : Lim (xs ++ (List.replicate N 0).drop m) := by
  intro x hx
  rcases List.mem_append.1 hx with h1 | h1
  · exact h x h1
  · have := Lim.zeros N x (List.mem_of_mem_drop h1); exact this
theorem pad_len {xs : List Nat} {m N : Nat} (h : xs.length = m) (hm : m ≤ N) : (xs ++ (List.replicate N 0).drop m).length = N := by simp [h]; omega
set_option maxHeartbeats 2000000 in
theorem cpl_pos (w : World) (B : Nat) (a : IV) (N : Nat) (HA : a.at w B) (hB : B ≤ w.heap.size) (hn : Hid (a.neg = false)) (hN : a.n ≤ N) (hN2 : N ≤ 600) :
    Calls Try.prog 116 #[a.v, .int .i64 (N : Int)] w (CplPost a N w) := by
  have hn2 := hn.out
  obtain ⟨neg, A, n, c, xs⟩ := a
  replace HA : LRd w B A n c xs := HA
  replace hN : n ≤ N := hN
  obtain rfl : neg = false := hn2
  have hlen := Lib.hid HA.len.out
  have hlim := Lib.hid HA.lim
  have hcap := HA.cap
  have hmk := mk32 N (by omega)
  go_enter Try.func116, Try.ntmps116
  go_upto_region 3 with fail
  obtain ⟨V, hV⟩ : ∃ V : World, V = (w.alloc (.cells #[.bool false, .slice A n c] 24)).alloc (.cells (Array.replicate N (Value.int .u32 0)) 66) := ⟨_, rfl⟩
  have PA : Bk2 V w.heap.size (.bool false) (.slice A n c) := by rw [hV]; exact (Bk2.new _ _ _ _).alloc _
  have HR : R32 V (w.heap.size + 1) (List.replicate N 0) := by rw [hV]; have := R32.new (w.alloc (.cells #[.bool false, .slice A n c] 24)) N; simpa using this
  have bV : Below w.heap.size w V := by rw [hV]; exact (bl1 w _).alloc (by simp) _
  have hl0 : (List.replicate N 0).length = N := by simp
  replace HA : LRd V B A n c xs := HA.below bV hB
  rw [← hV]
  clear hV hmk
  have t1 := PA.c1
  go_wp2_with (with_reducible refine wpList_copy_limbs (o := ⟨some 17, _, _, _, _, _⟩) rfl _ _ rfl (w.heap.size + 1) N N n c B (w.heap.size + 1) A (List.replicate N 0) xs V rfl rfl HR hl0 HA hN (Below.refl _ _) (Nat.le_refl _) ?_; intro w1 hR1 hb1)
  clear HA HR t1 PA
  go_wp2_with fail
  go_ret
  refine ⟨w.heap.size + 1, _, rfl, hR1, pad_len hlen.out hN, pad_lim hlim.out _ _, by omega, fun i k hi hk => ?_, bV.trans (hb1.mono (by omega))⟩
  rw [pad_get, ← vb_bit hlim.out i k hk]
  rfl
def CrR (W : World) (v : Nat) (s : Value) (wx : World) : Prop := ∃ A k c zs, s = .slice A k c ∧ LRd wx wx.heap.size A k c zs ∧ Hid (Rep 4294967296 zs v) ∧ Below W.heap.size W wx
theorem cs_w1 (w : World) (o : Obj) : w.heap.size ≤ (w.alloc o).heap.size := by simp
theorem cx1 {w w' : World} {u v : Value} {t : TypeId} (h : Below (w.alloc (.cells #[u, v] t)).heap.size (w.alloc (.cells #[u, v] t)) w') : Bk2 w' w.heap.size u v := (Bk2.new w u v t).below h (Bk2.new w u v t).lt
theorem cxd {w w' : World} {u v : Value} {t : TypeId} (h : Below (w.alloc (.cells #[u, v] t)).drew.heap.size (w.alloc (.cells #[u, v] t)).drew w') : Bk2 w' w.heap.size u v := (Bk2.drew (Bk2.new w u v t)).below h (Bk2.drew (Bk2.new w u v t)).lt
theorem one_vld {zs : List Nat} (h : Rep 4294967296 zs 1) : vld zs = true := rep_v128 h (lt_top (by decide))
theorem neg_num {p : Nat} (hp : 0 < p) : -((p : Nat) : Int) = snum true (p - 1) := by
  show _ = -(((p - 1 : Nat) : Int) + 1); omega
theorem xor_ones (n : Nat) (h : n < 4294967296) : 4294967295 ^^^ n = 4294967295 - n := by
  refine Nat.eq_of_testBit_eq fun k => ?_
  rw [Nat.testBit_xor]
  by_cases hk : k < 32
  · rw [ones_bit hk, not_bit h hk]; cases n.testBit k <;> rfl
  · rw [lim_bit (by decide) (by omega), lim_bit h (by omega), lim_bit (by omega) (by omega)]; rfl
theorem unx {x : Int} (h0 : 0 ≤ x) (h1 : x < 4294967296) : bits BinOp.xor IntKind.u32 (if IntKind.u32.signed = true then -1 else IntKind.u32.max) x = 4294967295 - x := by
  obtain ⟨n, rfl⟩ := Int.eq_ofNat_of_zero_le h0
  have e : (if IntKind.u32.signed = true then -1 else IntKind.u32.max) = ((4294967295 : Nat) : Int) := by decide
  rw [e, u32_xor_nat _ _ (by decide) (by omega), xor_ones _ (by omega)]
  omega
def CpRel (N g : Nat) (ds : List Nat) (W : World) (i : Value) (wr : World) : Prop :=
  ∃ j cs, j ≤ N ∧ i = .int .i64 ((j : Nat) : Int) ∧ R32 wr g cs ∧ cs.length = N ∧ Lim cs ∧ Hid (∀ t, t < N → cs.getD t 0 = if t < j then 4294967295 - ds.getD t 0 else ds.getD t 0) ∧ Below g W wr
theorem cp_step {N j : Nat} {ds cs : List Nat} (hl : cs.length = N) (hj : j < N) (h : ∀ t, t < N → cs.getD t 0 = if t < j then 4294967295 - ds.getD t 0 else ds.getD t 0) :
    ∀ t, t < N → (cs.set j (4294967295 - ds.getD j 0)).getD t 0 = if t < j + 1 then 4294967295 - ds.getD t 0 else ds.getD t 0 := by
  intro t ht
  rw [getD_set _ _ _ _ (by omega)]
  by_cases e : j = t
  · subst e; rw [if_pos rfl, if_pos (by omega)]
  · rw [if_neg e, h t ht]
    by_cases h2 : t < j
    · rw [if_pos h2, if_pos (by omega)]
    · rw [if_neg h2, if_neg (by omega)]
set_option maxHeartbeats 4000000 in
theorem cpl_neg (w : World) (B : Nat) (a : IV) (N : Nat) (HA : a.at w B) (hB : B ≤ w.heap.size) (oa : a.ok = true) (hn : Hid (a.neg = true)) (hN : a.n ≤ N) (hN2 : N ≤ 600) :
    Calls Try.prog 116 #[a.v, .int .i64 (N : Int)] w (CplPost a N w) := by
  have hn2 := hn.out
  have HV := Lib.hid (IV.vld oa).1
  have HP := Lib.hid (show 0 < vb 4294967296 a.xs from by
    have h1 := IV.neg_lt oa HA.lim hn2
    rw [IV.vneg hn2] at h1
    omega)
  clear oa
  obtain ⟨neg, A, n, c, xs⟩ := a
  replace HA : LRd w B A n c xs := HA
  replace hN : n ≤ N := hN
  obtain rfl : neg = true := hn2
  have hlen := Lib.hid HA.len.out
  have hcap := HA.cap
  have hmk := mk32 N (by omega)
  go_enter Try.func116, Try.ntmps116
  go_upto_region 5 with fail
  obtain ⟨V, hV⟩ : ∃ V : World, V = (w.alloc (.cells #[.bool true, .slice A n c] 24)).alloc (.cells (Array.replicate N (Value.int .u32 0)) 66) := ⟨_, rfl⟩
  have PA : Bk2 V w.heap.size (.bool true) (.slice A n c) := by rw [hV]; exact (Bk2.new _ _ _ _).alloc _
  have HR : R32 V (w.heap.size + 1) (List.replicate N 0) := by rw [hV]; have := R32.new (w.alloc (.cells #[.bool true, .slice A n c] 24)) N; simpa using this
  have bV : Below w.heap.size w V := by rw [hV]; exact (bl1 w _).alloc (by simp) _
  have sV : w.heap.size + 2 ≤ V.heap.size := by rw [hV]; simp
  replace HA : LRd V B A n c xs := HA.below bV hB
  rw [← hV]
  clear hV hmk
  have HS := Lib.hid (fun (u : World) (hu : Below V.heap.size V u) => (⟨(PA.below hu PA.lt).c0, (PA.below hu PA.lt).c1⟩ : u.cell? ⟨w.heap.size, 0, none⟩ = some (.bool true) ∧ u.cell? ⟨w.heap.size, 1, none⟩ = some (.slice A n c)))
  go_cut [6] (fun s wx => CrR V (vb 4294967296 xs - 1) s wx)
  case first =>
    as_aux_lemma =>
      have G0 : Below V.heap.size V V.drew := Below.drew (Below.refl _ _)
      have ltA := PA.lt
      go_region_held3 (fun u => u.cell? ⟨w.heap.size, 0, none⟩ = some (.bool true) ∧ u.cell? ⟨w.heap.size, 1, none⟩ = some (.slice A n c))
        (first | with_reducible exact HS.out _ G0 | with_reducible exact HS.out _ HBQ | with_reducible exact HS.out _ HBP | (refine HS.out _ ?_; (repeat (first | with_reducible exact G0 | with_reducible exact HBQ | with_reducible exact HBP | with_reducible exact Below.refl _ _ | with_reducible refine Below.drew ?_ | with_reducible refine Below.alloc ?_ (by first | (simp; done) | (simp; omega) | omega) _ | with_reducible refine Below.setCell ?_ (by first | (simp; done) | (simp; omega) | omega) _)); done) | fail)
        (first
          | (go_at_call 81; (with_reducible refine (one_any _).mono ?_); rintro e wp ⟨A4, k4, c4, x4, rfl, hl4, hr4, hbp⟩; have HBP : Below V.heap.size V wp := (by refine bnext ?_ hbp; (repeat (first | with_reducible exact G0 | with_reducible exact HBQ | with_reducible exact HBP | with_reducible exact Below.refl _ _ | with_reducible refine Below.drew ?_ | with_reducible refine Below.alloc ?_ (by first | (simp; done) | (simp; omega) | omega) _ | with_reducible refine Below.setCell ?_ (by first | (simp; done) | (simp; omega) | omega) _))); have R4 := Lib.hid hr4; clear hr4; have szp := HBP.size; (first | (have p1 := cxd hbp; obtain ⟨_, _, _, _, _⟩ := id p1) | (have p1 := cx1 hbp; obtain ⟨_, _, _, _, _⟩ := id p1) | skip))
          | (go_at_call 82; (with_reducible refine (sub_ok _ wp.heap.size A A4 n k4 c c4 xs x4 ?_ ?_ ?_ HV.out (one_vld R4.out)).mono ?_); (first | with_reducible exact ((HA.below HBP (by omega)).more (by omega)) | with_reducible exact LRd.alloc ((HA.below HBP (by omega)).more (by omega)) (Nat.le_refl _) _); (first | with_reducible exact hl4 | with_reducible exact LRd.alloc hl4 (Nat.le_refl _) _); (first | with_reducible exact Nat.le_refl _ | with_reducible exact cs_w1 _ _); (rw [R4.out.val]; rintro e wq (⟨_, Aq, kq, cq, xq, rfl, hlq, hrq, hbq⟩ | ⟨hlt, _⟩); rotate_left; (exact absurd hlt (by have := HP.out; omega)); have HBQ : Below V.heap.size V wq := (by first | exact bnext HBP hbq | exact bnext (Below.alloc HBP HBP.size _) hbq); have IQ := Lib.hid hrq; clear hrq; have szq : wp.heap.size ≤ wq.heap.size := (by first | with_reducible exact hbq.size | with_reducible exact Nat.le_trans (cs_w1 _ _) hbq.size); (first | (have s1 := cx1 hbq; obtain ⟨_, _, _, _, _⟩ := id s1) | skip); (first | (have s3 := p1.below hbq p1.lt; obtain ⟨_, _, _, _, _⟩ := id s3) | skip)))
          | fail)
      all_goals (go_wp2_with fail)
      all_goals
        go_meet
        refine ⟨Aq, kq, cq, xq, rfl, ?_, IQ, ?_⟩
        · (with_reducible refine LRd.more (B := wq.heap.size) ?_ (by first | (simp [World.setCell]; done) | (simp [World.setCell]; omega))); (repeat (first | with_reducible exact hlq | with_reducible refine LRd.alloc ?_ (by first | (simp; done) | (simp; omega) | omega) _ | with_reducible refine LRd.setFar2 ?_ (by first | (simp; done) | (simp; omega) | omega) _ _ | with_reducible refine LRd.setB ?_ s1 (by simp) (by simp) _ _ | with_reducible refine LRd.setB ?_ s3 (by simp) (by simp) _ _))
        · (repeat (first | with_reducible exact G0 | with_reducible exact HBQ | with_reducible exact HBP | with_reducible exact Below.refl _ _ | with_reducible refine Below.drew ?_ | with_reducible refine Below.alloc ?_ (by first | (simp; done) | (simp; omega) | omega) _ | with_reducible refine Below.setCell ?_ (by first | (simp; done) | (simp; omega) | omega) _))
  case rest =>
    rename World => wc
    obtain ⟨A5, k5, c5, x5, rfl, hl5, R5, hb5⟩ := hcut
    have HR5 := HR.below hb5 (by omega)
    have b5 := bV.trans (hb5.mono bV.size)
    have hlim5 := Lib.hid hl5.lim
    have hlen5 := Lib.hid hl5.len.out
    have hk5 : k5 ≤ N := by
      have h1 := R5.out.length_le (m := n) (by decide) (by
        have h2 := vb_lt (b := 4294967296) (by decide) HA.lim
        rw [hlen.out] at h2
        omega)
      rw [hlen5.out] at h1
      omega
    have s5 := hb5.size
    have hc5 := hl5.cap
    have hl0 : (List.replicate N 0).length = N := by simp
    clear HR HS PA HA
    go_wp2_with (with_reducible refine wpList_copy_limbs (o := ⟨some 28, _, _, _, _, _⟩) rfl _ _ rfl (w.heap.size + 1) N N k5 c5 wc.heap.size (w.heap.size + 1) A5 (List.replicate N 0) x5 wc rfl rfl HR5 hl0 hl5 hk5 (Below.refl _ _) (Nat.le_refl _) ?_; intro w1 hR1 hb1)
    clear HR5 hl5
    have b1 := b5.trans (hb1.mono (by omega))
    obtain ⟨ds, hds⟩ : ∃ ds, ds = x5 ++ (List.replicate N 0).drop k5 := ⟨_, rfl⟩
    have hdl : ds.length = N := by rw [hds]; exact pad_len hlen5.out hk5
    have hdL := Lib.hid (show Lim ds by rw [hds]; exact pad_lim hlim5.out _ _)
    have HDS := Lib.hid hds
    rw [← hds] at hR1
    clear hds
    go_wp2_with fail
    go_loopw [31] (CpRel N (w.heap.size + 1) ds w1) (fun i _ => N - (intOf i).toNat)
    case atStart => exact ⟨0, ds, by omega, rfl, hR1, hdl, hdL.out, (fun t ht => by rw [if_neg (Nat.not_lt_zero _)]), Below.refl _ _⟩
    case round =>
      clear hR1
      obtain ⟨j, cs, hj, rfl, hR, hcl, hcL, HI, hbw⟩ := hrel
      by_cases h1 : j < N
      · have hfz := hR.frozen j
        have hce := hR.cell (j := j) (by omega)
        have hdj := HI.out j h1
        rw [if_neg (Nat.lt_irrefl j)] at hdj
        have hlt := hcL.nth j
        have hnn := nth_nn cs j
        have hst := Lib.hid (cp_step hcl h1 HI.out)
        have hput := hR.put j (v := (4294967295 - nth cs j)) (by omega)
        have hv9 : (4294967295 - nth cs j).toNat = 4294967295 - ds.getD j 0 := by rw [← hdj]; unfold nth; omega
        rw [hv9] at hput
        have hsz := hbw.size
        go_wp2_with fail
        go_roundw
        case rel => exact ⟨j + 1, cs.set j (4294967295 - ds.getD j 0), by omega, by go_num, (by rw [unx hnn (by omega)]; exact hput), by rw [List.length_set]; exact hcl, hcL.set (by omega), hst, hbw.setCell (Nat.le_refl _) _⟩
        case measure => first | (simp [intOf]; done) | (simp [intOf]; omega)
      · obtain rfl : j = N := by omega
        go_wp2_with fail
        go_ret
        refine ⟨w.heap.size + 1, cs, rfl, hR, hcl, hcL, by omega, fun i k hi hk => ?_, b1.trans (hbw.mono (by omega))⟩
        have h2 := HI.out i hi
        rw [if_pos hi] at h2
        have h3 : ds.getD i 0 < 4294967296 := Dig.at_ (b := 4294967296) (xs := ds) hdL.out (by decide) i
        rw [h2, not_bit h3 hk, HDS.out, pad_get, ← vb_bit hlim5.out i k hk, R5.out.val]
        show _ = zbit (-((vb 4294967296 xs : Nat) : Int)) _
        rw [neg_num HP.out, zbit_snum]
        cases (vb 4294967296 xs - 1).testBit (32 * i + k) <;> rfl
theorem complement_any (w : World) (B : Nat) (a : IV) (N : Nat) (HA : a.at w B) (hB : B ≤ w.heap.size) (oa : a.ok = true) (hN : a.n ≤ N) (hN2 : N ≤ 600) :
    Calls Try.prog 116 #[a.v, .int .i64 (N : Int)] w (CplPost a N w) := by
  cases hn : a.neg
  · exact cpl_pos w B a N HA hB (Lib.hid hn) hN hN2
  · exact cpl_neg w B a N HA hB oa (Lib.hid hn) hN hN2
end Go.Proofs.Ytpjfoggohhlbdaa
