/- The reference's IntText. -/
import Derived.Test.YtflmcgoijofpdaaGreatCTxt5
import Derived.Test.YtflmcgoijofpdaaGreatCe
import Derived.Deep.QuietTactic
import Derived.BigQuiet
namespace Go.Proofs.YtflmcgoijofpdaaGreat
open Go.RowKit
set_option maxHeartbeats 400000
set_option maxRecDepth 100000
set_option linter.unusedSimpArgs false
set_option linter.unusedVariables false

def ItRel (s : ByteArray) (y n b : Nat) (W : World) (l i d k : Value) (wr : World) : Prop :=
  ∃ j cs, j ≤ n ∧ i = .int .i64 ((j : Nat) : Int) ∧ wr.ownsRow b 3 1 l cs.length (digs cs) ∧ cs.length = j ∧ Dig 65536 cs ∧ Below b W wr ∧ Hid (SpIs s y j cs)
theorem it_step {s : ByteArray} {y j : Nat} {cs : List Nat} (hl : cs.length = j) (h : SpIs s y j cs) (hy : dval (bat s j) < y) : SpIs s y (j + 1) (cs ++ [dval (bat s j)]) := by
  intro t ht
  rw [getD_append]
  by_cases e : t < cs.length
  · rw [if_pos e]; exact h t (by omega)
  · rw [if_neg e]
    obtain rfl : t = j := by omega
    rw [hl, Nat.sub_self]
    exact ⟨rfl, hy⟩
def IkRel (c y : Nat) (W : World) (d k : Value) (wr : World) : Prop :=
  ∃ kk dd, kk ≤ y ∧ k = .int .i64 ((kk : Nat) : Int) ∧ d = .int .i64 dd ∧ Hid (dd = if dval c < kk then ((dval c : Nat) : Int) else -1) ∧ ∃ q, wr = W.drewN q
def ItPost (s : ByteArray) (n y : Nat) (neg : Bool) (w : World) (e : Ending) (w' : World) : Prop :=
  (∃ A k c zs, e = .returned (.tuple #[intv neg A k c, .bool true]) ∧ DRd w' w'.heap.size A k c zs ∧ Rep 65536 zs (bval s n y) ∧ (∀ t, t < n → dval (bat s t) < y) ∧ Below w.heap.size w w') ∨
  (e = .returned (.tuple #[intv false none 0 0, .bool false]) ∧ (∃ t, t < n ∧ y ≤ dval (bat s t)) ∧ Below w.heap.size w w')
def ItNone (w : World) (e : Ending) (w' : World) : Prop := e = .returned (.tuple #[intv false none 0 0, .bool false]) ∧ Below w.heap.size w w'
set_option maxHeartbeats 4000000 in
theorem itx_c (w : World) (s : ByteArray) (n y : Nat) (hy : 2 ≤ y ∧ y ≤ 36) (hl : n ≤ 4097) (hn : s.size = n) (h0 : 0 < s.size) (hb : s[0].toNat ≠ 45) (hc : s[0].toNat ≠ 48) (hE : s.toList.isEmpty = false) :
    Calls Tryz.prog 54 #[.string s, .int .i64 (y : Int)] w (ItPost s n y false w) := by
  obtain ⟨i0, hi, hz0, hz1, hz2⟩ := info_parts info64
  have hb2 : ((s[0].toNat : Int) == 45) = false := by simp; omega
  have hc2 : ((s[0].toNat : Int) == 48) = false := by simp; omega
  have hn1 : 0 < (n : Int) := by omega
  go_enter Tryz.func54, Tryz.ntmps54
  go_wp2_with fail
  obtain ⟨V, hV⟩ : ∃ V : World, V = w.alloc (.cells #[.bool false, .slice none 0 0] 40) := ⟨_, rfl⟩
  have bV : Below w.heap.size w V := by rw [hV]; exact bl1 _ _
  have PR : Bk2 V w.heap.size (.bool false) (.slice none 0 0) := by rw [hV]; exact Bk2.new _ _ _ _
  rw [← hV]
  clear hV
  clear hb2 hc2
  go_loopw [7, 8, 9, 10] (ItRel s y n V.heap.size V) (fun _ i _ _ _ => n - (intOf i).toNat)
  case atStart => exact ⟨0, [], by omega, rfl, World.ownsRow_nil _ _ _ _, rfl, Dig.nil, Below.refl _ _, fun t ht => absurd ht (Nat.not_lt_zero t)⟩
  case round =>
    obtain ⟨uL, huL, j, cs, hj, rfl, hown, hcl, hD, hbw, HI⟩ : ∃ uL, uL = u7 ∧ ItRel s y n V.heap.size V uL u8 u9 u10 wr := ⟨u7, rfl, hrel⟩
    subst huL
    clear hrel
    have hsz := hbw.size
    by_cases h1 : j < n
    · have hjs : j < s.size := by omega
      obtain ⟨wo, rfl⟩ : ∃ wo : World, wo = wr := ⟨_, rfl⟩
      go_wp2_with fail
      go_loopw [9, 10] (IkRel (bat s j) y wo) (fun _ k _ => y - (intOf k).toNat)
      case atStart => exact ⟨0, -1, by omega, rfl, rfl, Lib.hid (by rw [if_neg (Nat.not_lt_zero _)]), 0, rfl⟩
      case round =>
        obtain ⟨kk, dd, hk, rfl, rfl, HDD, q, rfl⟩ := hrel
        by_cases h2 : kk < y
        · have hs36 := fun h3 => sym_at kk (by omega) h3
          have hbe := bat_eq hjs
          have hsi := Lib.hid (sym_iff (k := kk) (c := bat s j) (by omega) (bat_lt s j))
          by_cases hq : dval (bat s j) = kk
          · have he : (sym kk).toNat = bat s j := hsi.out.2 hq
            have hss : (((sym kk).toNat : Int) == ((bat s j : Nat) : Int)) = true := by rw [he]; simp
            have HK := Lib.hid (show (kk : Int) = if dval (bat s j) < kk + 1 then ((dval (bat s j) : Nat) : Int) else -1 by rw [if_pos (by omega), hq])
            clear he hq
            go_wp2_with fail
            go_quiet (fail)
            go_wp2_with fail
            go_roundw
            case rel => exact ⟨kk + 1, _, by omega, by go_num, rfl, HK, _, (by first | (rw [World.drewN_drewN, World.drewN_drewN]; done) | (rw [World.drewN_drewN]; done) | rfl)⟩
            case measure => first | (simp [intOf]; done) | (simp [intOf]; omega)
          · have he : ¬ (sym kk).toNat = bat s j := fun h => hq (hsi.out.1 h)
            have hss : (((sym kk).toNat : Int) == ((bat s j : Nat) : Int)) = false := by simp; omega
            have HK := Lib.hid (show dd = if dval (bat s j) < kk + 1 then ((dval (bat s j) : Nat) : Int) else -1 by
              rw [HDD.out]
              by_cases h9 : dval (bat s j) < kk
              · rw [if_pos h9, if_pos (by omega)]
              · rw [if_neg h9, if_neg (by omega)])
            clear he hq
            go_wp2_with fail
            go_quiet (fail)
            go_wp2_with fail
            go_roundw
            case rel => exact ⟨kk + 1, _, by omega, by go_num, rfl, HK, _, (by first | (rw [World.drewN_drewN, World.drewN_drewN]; done) | (rw [World.drewN_drewN]; done) | rfl)⟩
            case measure => first | (simp [intOf]; done) | (simp [intOf]; omega)
        · obtain rfl : kk = y := by omega
          obtain ⟨w2, hw2⟩ : ∃ w2 : World, w2 = wo.drewN q := ⟨_, rfl⟩
          have hown2 : w2.ownsRow V.heap.size 3 1 uL cs.length (digs cs) := by rw [hw2]; exact hown
          have hb2 : Below V.heap.size V w2 := by rw [hw2]; exact below_drewN hbw q
          have sz2 : V.heap.size ≤ w2.heap.size := hb2.size
          have PR2 : Bk2 w2 w.heap.size (.bool false) (.slice none 0 0) := PR.below hb2 PR.lt
          rw [← hw2]
          clear hw2 hown
          by_cases h3 : dval (bat s j) < kk
          · obtain ⟨d, hd⟩ : ∃ d, d = dval (bat s j) := ⟨_, rfl⟩
            have HD := Lib.hid hd
            have hst := Lib.hid (it_step hcl HI.out h3)
            obtain rfl : dd = (d : Int) := by rw [HDD.out, if_pos h3, hd]
            have hd36 : d ≤ 36 := by rw [hd]; exact dval_le _
            have hd0 : (0 : Int) ≤ (d : Int) := by omega
            clear hd h3
            go_wp2_with (at_builtin; refine wpList_append_own _ rfl _ _ 37 rfl V.heap.size 3 i0 (.int .i64 0) 1 8 Tryz.underlying37 hi hz0 hz1 hz2 rfl (by decide) _ _ _ rfl (hown2.alloc _) ⟨w2.heap.size, 0, none⟩ 1 1 [.int .i64 (d : Int)] rfl rfl (cell_one_new _ _ _) (fun u hu => by simp at hu; subst hu; rfl) (by unfold maxLen; omega) (by omega) (by first | (simp; omega) | omega) ?_; intro v' w1 hown' hgrow _)
            obtain ⟨ho, hb1⟩ := own_nextN sz2 hb2 hown2 hown' hgrow
            clear hown2 hown' hgrow
            go_wp2_with fail
            go_roundw
            case rel => exact ⟨j + 1, cs ++ [d], by omega, by go_num, ho, by simp; exact hcl, hD.snoc (by omega), hb1, Lib.hid (by rw [HD.out]; exact hst.out)⟩
            case measure => first | (simp [intOf]; done) | (simp [intOf]; omega)
          · obtain rfl : dd = -1 := by rw [HDD.out, if_neg h3]
            have E2 := bV.trans (hb2.mono bV.size)
            obtain ⟨r0, r1, z0, z1, lt0⟩ := PR2
            go_wp2_with fail
            obtain ⟨U, hU⟩ : ∃ U : World, U = (w2.setCell ⟨w.heap.size, 0, none⟩ (.bool false)).setCell ⟨w.heap.size, 1, none⟩ (.slice none 0 0) := ⟨_, rfl⟩
            have PU : Bk2 U w.heap.size (.bool false) (.slice none 0 0) := by rw [hU]; exact Bk2.set ⟨r0, r1, z0, z1, lt0⟩ _ _
            have EU : Below w.heap.size w U := by rw [hU]; exact (E2.setCell (Nat.le_refl _) _).setCell (Nat.le_refl _) _
            rw [← hU]
            clear hU
            obtain ⟨t0, t1, _, _, _⟩ := PU
            refine bodyPost_ret (v := .tuple #[intv false none 0 0, .bool false]) (by simp [results, Tryz.results54, go_sem, t0, t1]) rfl (.inr ⟨rfl, ⟨j, h1, by omega⟩, EU⟩)
    · obtain rfl : j = n := by omega
      have hbd := Lib.hid (sp_val hcl HI.out)
      have hdg := Lib.hid (sp_dig hcl HI.out)
      have hit := Lib.hid HI.out
      have hcn : cs.length ≤ 5000 := by omega
      have hcl' := Lib.hid hcl
      obtain ⟨A2, c2, rfl, hc1, hc2⟩ := own_shape hown
      have hdr := own_drd hown hD
      rw [hcl] at hdr hc1 hcn ⊢
      clear hown hcl
      have E2 := bV.trans (hbw.mono bV.size)
      have PR2 : Bk2 wr w.heap.size (.bool false) (.slice none 0 0) := PR.below hbw PR.lt
      go_wp2_with fail
      refine (read_any _ _ A2 j c2 y cs hdr (Nat.le_refl _) (by omega) hdg.out hy).mono ?_
      rintro e w5 ⟨A5, k5, c5, x5, rfl, hd5, hr5, hb5⟩
      have PR3 := PR2.below hb5 PR2.lt
      have E3 := E2.trans (hb5.mono E2.size)
      have HR5 := Lib.hid hr5
      clear hr5
      obtain ⟨r0, r1, z0, z1, lt0⟩ := id PR3
      go_wp2_with fail
      obtain ⟨U, hU⟩ : ∃ U : World, U = (w5.setCell ⟨w.heap.size, 0, none⟩ (.bool false)).setCell ⟨w.heap.size, 1, none⟩ (.slice A5 k5 c5) := ⟨_, rfl⟩
      have PU : Bk2 U w.heap.size (.bool false) (.slice A5 k5 c5) := by rw [hU]; exact PR3.set _ _
      have EU : Below w.heap.size w U := by rw [hU]; exact (E3.setCell (Nat.le_refl _) _).setCell (Nat.le_refl _) _
      have DU : DRd U U.heap.size A5 k5 c5 x5 := by rw [hU]; exact (hd5.setBD PR3 (by simp) (by simp) _ _).more (by simp [World.setCell])
      rw [← hU]
      clear hU
      obtain ⟨t0, t1, _, _, _⟩ := PU
      refine bodyPost_ret (v := .tuple #[intv false A5 k5 c5, .bool true]) (by simp [results, Tryz.results54, go_sem, t0, t1]) rfl (.inl ⟨A5, k5, c5, x5, rfl, DU, ?_, fun t ht => (hit.out t ht).2, EU⟩)
      have h9 := HR5.out
      rw [hbd.out] at h9
      exact h9
end Go.Proofs.YtflmcgoijofpdaaGreat
