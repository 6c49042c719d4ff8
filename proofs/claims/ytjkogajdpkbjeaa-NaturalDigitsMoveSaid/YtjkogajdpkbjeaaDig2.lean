/- The reference's Figures and Read: digits to a base. -/
import Derived.Test.YtjkogajdpkbjeaaDig1
import Derived.Test.YtjkogajdpkbjeaaBinary
import Derived.Deep.LoopGhost
import Derived.Deep.RegionWith
import Derived.Deep.RegionHeld3
import Derived.Deep.DeepCutAuto
namespace Go.Proofs.Ytjkogajdpkbjeaa
open Go.RowKit
set_option maxHeartbeats 400000
set_option maxRecDepth 100000
set_option linter.unusedSimpArgs false
set_option linter.unusedVariables false

theorem own_below {B : Nat} {e : TypeId} {k : Nat} {v : Value} {n : Nat} {xs : List Value} {w w' : World} (h : w.ownsRow B e k v n xs) (hb : Below w.heap.size w w') : w'.ownsRow B e k v n xs :=
  h.kept (row := none) ⟨hb.os, hb.tape, hb.output, hb.size, fun j hj _ => hb.block j hj⟩ (by cases hv : v.ownBlock <;> simp)
theorem own_ne {B : Nat} {e : TypeId} {k : Nat} {v : Value} {n : Nat} {xs : List Value} {w : World} (h : w.ownsRow B e k v n xs) : some w.heap.size ≠ v.ownBlock := fun hh => by have := (h.lt _ hh.symm).2; omega
/-- What a function gives that makes digits, the most significant one first. -/
def GivesG (w : World) (y p : Nat) (e : Ending) (w' : World) : Prop :=
  ∃ A k c zs, e = .returned (.slice A k c) ∧ DRd w' w'.heap.size A k c zs ∧ Rep y zs.reverse p ∧ Below w.heap.size w w'
theorem Dig.wide {y : Nat} {zs : List Nat} (h : Dig y zs) (hy : y ≤ 65536) : Dig 65536 zs := fun x hx => by have := h x hx; omega
theorem Dig.push {y : Nat} {zs : List Nat} {x : Nat} (h : Dig y zs) (hx : x < y) : Dig y (zs ++ [x]) := by
  intro z hz
  rcases List.mem_append.1 hz with e | e
  · exact h z e
  · rw [List.mem_singleton] at e; omega
theorem own_nextN {w wr w1 : World} {v v' : Value} {zs : List Nat} {x : Nat} {o : Obj} {B : Nat} (hB : B ≤ wr.heap.size) (hb : Below B w wr) (hown : wr.ownsRow B 3 1 v zs.length (digs zs))
    (hown' : w1.ownsRow B 3 1 v' (zs.length + 1) (digs zs ++ [.int .i64 (x : Int)])) (hg : (wr.alloc o).grownBy w1 v.ownBlock) :
    w1.ownsRow B 3 1 v' (zs ++ [x]).length (digs (zs ++ [x])) ∧ Below B w w1 := by
  refine ⟨by rw [List.length_append]; simpa [digs] using hown', ?_⟩
  exact (hb.alloc hB o).grown hg (by simp; omega) (fun k hk => (hown.lt k hk).1)

/-- The quotient lies in new memory. -/
def HvPost2 (w : World) (p y : Nat) (e : Ending) (w' : World) : Prop :=
  ∃ k c zs, e = .returned (.tuple #[.slice (some ⟨w.heap.size, 0, none⟩) k c, .int .i64 ((p % y : Nat) : Int)]) ∧ DRd w' w'.heap.size (some ⟨w.heap.size, 0, none⟩) k c zs ∧ Rep 65536 zs (p / y) ∧ Below w.heap.size w w' ∧ w.heap.size < w'.heap.size
theorem drd_grown {w w' : World} {B n c g : Nat} {xs : List Nat} {row : Option Nat} (h : DRd w B (some ⟨g, 0, none⟩) n c xs) (hg : w.grownBy w' row) (hlt : g < w.heap.size) (hne : some g ≠ row) : DRd w' w'.heap.size (some ⟨g, 0, none⟩) n c xs :=
  ⟨h.len, h.cap, h.lim, fun hn => by
    obtain ⟨b, off, e, hb, hc⟩ := h.rd hn
    injection e with e; injection e with e1 e2; subst e1; subst e2
    exact ⟨g, 0, rfl, by have := hg.size; omega, fun j hj => (World.cell?_of_block (hg.block g hlt hne)).trans (hc j hj)⟩⟩
set_option maxHeartbeats 1000000 in
theorem halve_fresh (w : World) (B : Nat) (A : Option Addr) (n c y : Nat) (xs : List Nat) (h : DRd w B A n c xs) (hB : B ≤ w.heap.size) (hn : n ≤ 1000000000000) (hy : 0 < y ∧ y ≤ 65536) :
    Calls Try.prog 48 #[.slice A n c, .int .i64 (y : Int)] w (HvPost2 w (vb 65536 xs) y) := by
  have hcap := h.cap
  have hxl := Lib.hid h.len.out
  have hmk := mk64 n (by omega)
  have hr0 := R64.new w n
  have hy0 : ((y : Int) == 0) = false := beq_eq_false_iff_ne.2 (by omega)
  have hy1 : 0 < (y : Int) ∧ (y : Int) ≤ 65536 := by omega
  go_enter Try.func48, Try.ntmps48
  go_wp2_with fail
  go_loopw [7, 8] (HvRel n y xs w) (fun _ i _ => (intOf i + 1).toNat)
  case atStart => exact ⟨n, 0, List.replicate n 0, Nat.le_refl _, rfl, rfl, by omega, by omega, hr0, Dig.zeros _, bl1 _ _, ⟨by simp, by simp [S_zero]⟩⟩
  case round =>
    clear hr0
    obtain ⟨k, r, rs, hk, rfl, rfl, r0, r1, hR, hd, hbw, HI⟩ := hrel
    have hlen := Lib.hid HI.out.1
    have hlt := hR.lt
    by_cases h0 : k = 0
    · subst h0
      obtain ⟨hv1, hr2⟩ := hv_last hxl.out r0 r1 HI.out
      have HV := Lib.hid hv1
      clear hv1 HI
      subst hr2
      have hdr := hR.drdAll hd (B := wr.heap.size) (c := n) hlt hlen (by omega)
      go_wp2_with fail
      refine (trimD_any _ _ _ _ _ _ hdr).mono ?_
      rintro e w' ⟨t, rfl, ht, rfl⟩
      go_wp2_with fail
      go_ret2
      obtain ⟨A', k', c', zs, he, g1, g2, g3⟩ := gives_rowD hR hd hlen ht (c := n) (by omega) hbw HV.out
      injection he with he
      injection he with he1 he2 he3
      subst he1; subst he2; subst he3
      exact ⟨_, _, _, rfl, g1, g2, g3, hlt⟩
    · obtain ⟨j, rfl⟩ : ∃ j, k = j + 1 := ⟨k - 1, by omega⟩
      have ei : ((j + 1 : Nat) : Int) - 1 = (j : Int) := by omega
      rw [ei]
      clear ei h0
      obtain ⟨b, off, rfl, hb, hc⟩ := h.rd (by omega)
      have g1 := (hbw.cell (p := ⟨b, off + j, none⟩) (by show b < _; omega)).trans (hc j (by omega))
      have g3 := hR.cell (j := j) (by have := hlen.out; omega)
      have g4 := hR.frozen j
      have a1 := nth_nn xs j
      have a2 := h.lim.nth j
      have hq := hv_lim r (nth xs j) y hy ⟨r0, r1⟩ ⟨a1, a2⟩
      have ST := Lib.hid (hv_step hk r0 HI.out)
      have b1 : 0 ≤ r * 65536 + nth xs j := by omega
      have b2 : r * 65536 + nth xs j < 4294967296 := by omega
      clear hc
      go_wp2_with fail
      go_roundw
      case rel => exact ⟨j, _, _, by omega, rfl, rfl, hq.2.2.1, hq.2.2.2, hR.put _ hq.1, hd.set (by omega), hbw.setCell (Nat.le_refl _) _, ST.out⟩
      case measure => first | (simp [intOf]; done) | (simp [intOf]; omega)

def FgRel (y p : Nat) (w : World) (v : Nat) (a back : Value) (wr : World) : Prop :=
  ∃ A k c xs zs, a = .slice A k c ∧ DRd wr wr.heap.size A k c xs ∧ Hid (Rep 65536 xs v) ∧ wr.ownsRow w.heap.size 3 1 back zs.length (digs zs) ∧ Dig y zs ∧ Below w.heap.size w wr ∧ Hid (v * y ^ zs.length + vb y zs = p) ∧ Hid (v = 0 → Top zs)
theorem fg_step {v y p : Nat} {zs : List Nat} (h : v * y ^ zs.length + vb y zs = p) : v / y * y ^ (zs ++ [v % y]).length + vb y (zs ++ [v % y]) = p := by
  rw [vb_snoc, List.length_append, List.length_singleton, Nat.pow_succ, ← h]
  have e := Nat.mod_add_div v y
  generalize y ^ zs.length = P at *
  generalize vb y zs = u at *
  generalize hm : v % y = r at *
  generalize v / y = q at *
  subst e
  grind
theorem fg_top {v y : Nat} {zs : List Nat} (hv : 0 < v) (h : v / y = 0) : Top (zs ++ [v % y]) := by
  intro i hi
  rw [List.length_append, List.length_singleton] at hi
  obtain rfl : i = zs.length := by omega
  rw [getD_append, if_neg (by omega), Nat.sub_self]
  show v % y ≠ 0
  have := Nat.mod_add_div v y
  rw [h] at this
  omega
theorem fg_len {v y p l u M : Nat} (h : v * y ^ l + u = p) (hv : 0 < v) (hy : 2 ≤ y) (hp : p < 65536 ^ M) : l < 16 * M := by
  have h1 : 1 * y ^ l ≤ v * y ^ l := Nat.mul_le_mul_right _ hv
  have h2 : 2 ^ l ≤ y ^ l := Nat.pow_le_pow_left hy _
  rw [pow16] at hp
  exact (Nat.pow_lt_pow_iff_right (by decide : 1 < 2)).1 (by omega)
/-- The last places of zs, in reverse. -/
def F2Rel (zs : List Nat) (w w0 : World) (out i : Value) (wr : World) : Prop :=
  ∃ (j : Nat) (us : List Nat), j ≤ zs.length ∧ i = .int .i64 ((j : Int) - 1) ∧ us = (zs.drop j).reverse ∧ wr.ownsRow w.heap.size 3 1 out us.length (digs us) ∧ Below w.heap.size w wr
theorem f2_step {zs : List Nat} {j : Nat} (h : j + 1 ≤ zs.length) : (zs.drop j).reverse = (zs.drop (j + 1)).reverse ++ [zs.getD j 0] := by
  rw [List.drop_eq_getElem_cons (by omega), List.reverse_cons, List.getD_eq_getElem?_getD, List.getElem?_eq_getElem (by omega)]; rfl

set_option maxHeartbeats 4000000 in
theorem figures_any (w : World) (B : Nat) (A : Option Addr) (n c y p M : Nat) (xs : List Nat) (h : DRd w B A n c xs) (hB : B ≤ w.heap.size) (hn : n ≤ M) (hM : M ≤ 1000000) (hr : Rep 65536 xs p) (hy : 2 ≤ y ∧ y ≤ 36) :
    Calls Try.prog 37 #[.slice A n c, .int .i64 (y : Int)] w (GivesG w y p) := by
  obtain ⟨i0, hi, hz0, hz1, hz2⟩ := info_parts info64
  have HX := Lib.hid hr
  have HPM := Lib.hid (rep_lt hr h.len.out hn)
  have h1 := h.more hB
  clear hr
  go_enter Try.func37, Try.ntmps37
  go_wp2_with fail
  go_loopg [0, 5] p (fun v a back wr => FgRel y p w v a back wr)
  case atStart => exact ⟨_, _, _, xs, [], rfl, h1, HX, World.ownsRow_nil _ _ _ _, (by intro x hx; cases hx), Below.refl _ _, (by show _ = _; simp [vb_nil]), fun _ => Top.nil⟩
  case round =>
    clear h h1 HX
    obtain ⟨A1, k1, c1, us, zs, rfl, hU, hUr, hown, hzd, hbw, HS, HT⟩ := hrel
    have hcu := hU.cap
    have hsz := hbw.size
    by_cases h0 : k1 = 0
    · have hv0 := rep_nil hUr.out hU.len.out h0
      subst h0
      have HR := Lib.hid (show Rep y zs p from ⟨hzd, by have := HS.out; rw [hv0] at this; simpa using this, HT.out hv0⟩)
      have hl := Lib.hid (show zs.length ≤ 16 * M from by
        rcases Nat.eq_zero_or_pos zs.length with e | e
        · omega
        · have h3 := HR.out.lt_pow (by omega)
          have h4 := HR.out.length_le (m := 16 * M) (by omega) (by
            have h5 := HPM.out
            rw [pow16] at h5
            exact Nat.lt_of_lt_of_le h5 (Nat.pow_le_pow_left hy.1 _))
          omega)
      have hl1 := hl.out
      have hzw := hzd.wide (by omega)
      obtain ⟨A2, c2, rfl, hc1, hc2⟩ := own_shape hown
      have hdr := own_drd hown hzw
      have hcd := hdr.cap
      obtain ⟨q, hq⟩ : ∃ q, q = zs.length := ⟨_, rfl⟩
      have HQ := Lib.hid hq
      rw [← hq] at hdr hcd hl1
      rw [← hq]
      clear hq hown hU hUr HS HT hv0
      obtain ⟨wo, hwo⟩ : ∃ wo : World, wo = wr := ⟨_, rfl⟩
      have hb0 : Below wo.heap.size wo wr := by subst hwo; exact Below.refl _ _
      have hsw : w.heap.size ≤ wo.heap.size := by rw [hwo]; exact hsz
      have hbo : Below w.heap.size w wo := by rw [hwo]; exact hbw
      have hdr0 : DRd wo wo.heap.size A2 q c2 zs := by rw [hwo]; exact hdr
      clear hwo hbw hdr
      go_wp2_with fail
      go_loopw [7, 8] (F2Rel zs wo w) (fun _ i _ => (intOf i + 1).toNat)
      case atStart => exact ⟨q, [], by rw [HQ.out]; exact Nat.le_refl _, rfl, by rw [HQ.out]; simp, World.ownsRow_nil _ _ _ _, hb0⟩
      case round =>
        clear hb0
        obtain ⟨j, us, hj, rfl, hus, hown, hbw⟩ := hrel
        have hsz2 := hbw.size
        have hul : us.length ≤ 16 * M := by rw [hus]; simp; have := hl.out; omega
        have HU := Lib.hid hus
        clear hus
        have hjq : j ≤ q := by rw [HQ.out]; exact hj
        by_cases h0 : j = 0
        · subst h0
          obtain ⟨A3, c3, rfl, hc3, hc4⟩ := own_shape hown
          have hud : Dig y us := by rw [HU.out]; intro x hx; rw [List.drop_zero, List.mem_reverse] at hx; exact hzd x hx
          have hdr := own_drd hown (hud.wide (by omega))
          go_wp2_with fail
          go_ret
          exact ⟨_, _, _, us, rfl, hdr, by rw [HU.out, List.drop_zero, List.reverse_reverse]; exact HR.out, hbo.trans (hbw.mono hsw)⟩
        · obtain ⟨i, rfl⟩ : ∃ i, j = i + 1 := ⟨j - 1, by omega⟩
          have ei : ((i + 1 : Nat) : Int) - 1 = (i : Int) := by omega
          rw [ei]
          clear ei h0
          obtain ⟨b, off, rfl, hb, hc⟩ := hdr0.rd (by omega)
          have g1 : wr.cell? ⟨b, off + i, none⟩ = some (.int .i64 ((zs.getD i 0 : Nat) : Int)) := (hbw.cell (p := ⟨b, off + i, none⟩) (by show b < _; omega)).trans (by
            have := hc i (by omega)
            unfold nth at this
            exact this)
          have ST := Lib.hid (f2_step (zs := zs) (j := i) (by omega))
          have hiq : i < q := by omega
          clear hc
          go_wp2_with (at_builtin; refine wpList_append_own _ rfl _ _ 33 rfl wo.heap.size 3 i0 (.int .i64 0) 1 8 Try.underlying33 hi hz0 hz1 hz2 rfl (by decide) _ _ _ rfl (hown.alloc _) ⟨wr.heap.size, 0, none⟩ 1 1 [.int .i64 ((zs.getD i 0 : Nat) : Int)] rfl rfl (cell_one_new _ _ _) (fun u hu => by simp at hu; subst hu; rfl) (by unfold maxLen; omega) (by omega) (by first | (simp; omega) | omega) ?_; intro v' w1 hown' hgrow _)
          obtain ⟨ho, hb1⟩ := own_nextN hsz2 hbw hown hown' hgrow
          clear hown hown' hgrow
          go_wp2_with fail
          go_roundw
          case rel => exact ⟨i, _, by omega, rfl, by rw [ST.out, HU.out], ho, hb1⟩
          case measure => first | (simp [intOf]; done) | (simp [intOf]; omega)
    · have hk0 : 0 < k1 := by omega
      have hv0 := rep_posD hUr.out hU.len.out hk0
      have hl := fg_len HS.out hv0 hy.1 HPM.out
      have hkM : k1 ≤ M := rep_lenD hUr.out hU.len.out (by
        have := HS.out
        have h2 := Nat.mul_le_mul_left gk (Nat.pow_pos (n := zs.length) (show 0 < y by omega))
        have := HPM.out
        omega)
      have ST := Lib.hid (fg_step HS.out)
      have TT := Lib.hid (fun e => fg_top (y := y) (zs := zs) hv0 e)
      have HLT := Lib.hid (Nat.div_lt_self hv0 (show 1 < y by omega))
      have hml : gk % y < y := Nat.mod_lt _ (by omega)
      clear h0
      go_wp2_with fail
      refine (halve_fresh _ _ A1 k1 c1 y us hU (Nat.le_refl _) (by omega) (by omega)).mono ?_
      rintro e w3 ⟨k3, c3, ts, rfl, hZ, hZr, hb3, hlt3⟩
      rw [hUr.out.val] at hZr
      rw [hUr.out.val]
      have HZ := Lib.hid hZr
      have hown3 := own_below hown hb3
      have HNE := Lib.hid (own_ne hown)
      have hb4 := hbw.trans (hb3.mono hsz)
      have hsz3 := hb4.size
      clear hZr hown hb3
      have hZa := hZ.alloc (Nat.le_refl _) (.cells #[.int .i64 ((gk % y : Nat) : Int)] 3)
      go_wp2_with (at_builtin; refine wpList_append_own _ rfl _ _ 33 rfl w.heap.size 3 i0 (.int .i64 0) 1 8 Try.underlying33 hi hz0 hz1 hz2 rfl (by decide) _ _ _ rfl (hown3.alloc _) ⟨w3.heap.size, 0, none⟩ 1 1 [.int .i64 ((gk % y : Nat) : Int)] rfl rfl (cell_one_new _ _ _) (fun u hu => by simp at hu; subst hu; rfl) (by unfold maxLen; omega) (by omega) (by first | (simp; omega) | omega) ?_; intro v' w5 hown' hgrow _)
      obtain ⟨ho, hb1⟩ := own_nextN hsz3 hb4 hown3 hown' hgrow
      have hZ5 := drd_grown hZa hgrow (by simp; omega) HNE.out
      clear hown3 hown' hgrow hZ hZa
      go_wp2_with fail
      go_roundg (gk / y)
      case measure => exact HLT.out
      case rel => exact ⟨_, k3, c3, ts, _, rfl, hZ5, HZ, ho, hzd.push hml, hb1, ST.out, TT.out⟩
end Go.Proofs.Ytjkogajdpkbjeaa
