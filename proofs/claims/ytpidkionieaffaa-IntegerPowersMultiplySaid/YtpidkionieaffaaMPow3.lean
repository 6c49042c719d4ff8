/- The program's power, with PowMod's closure. -/
import Derived.Test.YtpidkionieaffaaMPow2
namespace Go.Proofs.Ytpidkionieaffaa
open Go.RowKit
set_option maxHeartbeats 400000
set_option maxRecDepth 100000
set_option linter.unusedSimpArgs false
set_option linter.unusedVariables false

theorem pm_sq {p e j M v : Nat} (h : v = p ^ (e / 2 ^ (j + 1)) % M) : v * v % M = p ^ (2 * (e / 2 ^ (j + 1))) % M := by
  rw [h, ← Nat.mul_mod, ← Nat.pow_add]
  congr 2
  omega
theorem pm_even {p e j M v : Nat} (hb : e / 2 ^ j % 2 = 0) (h : v = p ^ (2 * (e / 2 ^ (j + 1))) % M) : v = p ^ (e / 2 ^ j) % M := by
  have := half_of e j
  rw [this, hb]
  exact h
theorem pm_odd {p e j M v : Nat} (hb : e / 2 ^ j % 2 = 1) (h : v = p ^ (2 * (e / 2 ^ (j + 1))) % M) : v * p % M = p ^ (e / 2 ^ j) % M := by
  have := half_of e j
  rw [this, hb, Nat.pow_succ, h, Nat.mod_mul_mod]
def PmRel (p e d M : Nat) (W : World) (r i : Value) (wr : World) : Prop :=
  ∃ j A k c zs v, j ≤ d ∧ i = .int .i64 ((j : Int) - 1) ∧ r = .slice A k c ∧ LRd wr wr.heap.size A k c zs ∧ Hid (Rep 4294967296 zs v) ∧ k ≤ 128 ∧ Below W.heap.size W wr ∧ Hid (v = p ^ (e / 2 ^ j) % M)
theorem len_mod {zs : List Nat} {x M k : Nat} (h : Rep 4294967296 zs (x % M)) (hl : zs.length = k) (hM : M < Top128) (h0 : 0 < M) : k ≤ 128 := by
  obtain ⟨m, hm⟩ : ∃ m, m = 128 := ⟨_, rfl⟩
  have h1 : x % M < 4294967296 ^ m := by rw [← top128 hm]; exact Nat.lt_trans (Nat.mod_lt _ h0) hM
  have := h.length_le (by decide) h1
  omega
set_option maxHeartbeats 8000000 in
theorem power2_any (w : World) (B g : Nat) (A D C : Option Addr) (n m l c d cc p e : Nat) (mv : IV) (xs es ss : List Nat) (h : LRd w B A n c xs) (k : LRd w B D m d es) (hs : LRd w B C l cc ss) (hB : B ≤ w.heap.size) (hx : Rep 4294967296 xs p) (he : Rep 4294967296 es e) (h1 : Rep 4294967296 ss (1 % vb 4294967296 mv.xs)) (hn : n ≤ 128) (hm : m ≤ 128) (HM : mv.at w B) (om : mv.ok = true) (h0 : 0 < mv.n) (hg : Bk2 w g (.bool mv.neg) (.slice mv.A mv.n mv.c)) :
    Calls Try.prog 90 #[.slice A n c, .slice D m d, .slice C l cc, .func (Fn.func 92) #[] #[.pointer (some ⟨g, 0, none⟩)]] w (GivesL w (p ^ e % vb 4294967296 mv.xs)) := by
  obtain ⟨M, hM⟩ : ∃ M, vb 4294967296 mv.xs = M := ⟨_, rfl⟩
  rw [hM] at h1 ⊢
  have HM1 := Lib.hid (show M < Top128 by rw [← hM]; exact lt128 (⟨HM.lim, rfl, (vld_top (IV.vld om).1).1⟩ : Rep 4294967296 mv.xs (vb 4294967296 mv.xs)) rfl (IV.vld om).2)
  have HM0 := Lib.hid (show 0 < M by rw [← hM]; exact rep_pos4' (⟨HM.lim, rfl, (vld_top (IV.vld om).1).1⟩ : Rep 4294967296 mv.xs (vb 4294967296 mv.xs)) HM.len.out h0)
  have HMe := Lib.hid hM
  clear hM
  have hl := len_mod h1 hs.len.out HM1.out HM0.out
  go_enter Try.func90, Try.ntmps90
  go_wp2_with fail
  refine (bits_ok w B D m d es k hB (rep_vld1 he k.len.out hm)).mono ?_
  rintro e1 w1 ⟨rfl, hb1⟩
  have sz := hb1.size
  have hnb := Lib.hid (nbits_hi k.lim)
  have hnl := Lib.hid (show nbits es ≤ 32 * m from by have := nbits_le k.lim; rwa [k.len.out] at this)
  have hnb3 : nbits es ≤ 4096 := by have := hnl.out; omega
  go_wp2_with fail
  obtain ⟨V, hV⟩ : ∃ V : World, V = w1.alloc (.cells #[.int .i64 0, .int .i64 0] 26) := ⟨_, rfl⟩
  have bV : Below w.heap.size w V := by rw [hV]; exact hb1.alloc (by omega) _
  rw [← hV]
  clear hV hb1 sz
  have szV := bV.size
  have RV : Bk2 V g (.bool mv.neg) (.slice mv.A mv.n mv.c) := hg.below bV hg.lt
  replace h := (h.below bV hB).more (B' := V.heap.size) (by omega)
  replace k := (k.below bV hB).more (B' := V.heap.size) (by omega)
  replace hs := (hs.below bV hB).more (B' := V.heap.size) (by omega)
  replace HM : LRd V V.heap.size mv.A mv.n mv.c mv.xs := (LRd.below HM bV hB).more (B' := V.heap.size) (by omega)
  have kc := k.cap
  have hev := he.val
  have HB := Lib.hid (show e < 2 ^ nbits es by rw [← hev]; exact hnb.out)
  have hml : es.length = m := k.len.out
  have HX := Lib.hid hx
  have HE := Lib.hid he
  have H1 := Lib.hid h1
  have HO := Lib.hid om
  clear hx he h1 hnb hev hg om
  go_loopw [9, 12] (PmRel p e (nbits es) M V) (fun _ i _ => (intOf i + 1).toNat)
  case atStart => exact ⟨_, C, l, cc, ss, 1 % M, Nat.le_refl _, rfl, rfl, hs, H1, hl, Below.refl _ _, Lib.hid (by rw [Nat.div_eq_of_lt HB.out]; rfl)⟩
  case round =>
    obtain ⟨j, A1, k1, c1, zs, v, hj, rfl, rfl, hz, hrz, hk1, hbw, HI⟩ := hrel
    have hzc := hz.cap
    have hsz := hbw.size
    rcases j with _ | j
    · go_wp2_with fail
      go_ret
      have := HI.out
      rw [Nat.pow_zero, Nat.div_one] at this
      exact ⟨A1, k1, c1, zs, rfl, hz, by rw [← this]; exact hrz.out, bV.trans (hbw.mono szV)⟩
    · have ei : ((j + 1 : Nat) : Int) - 1 = (j : Int) := by omega
      rw [ei]
      clear ei
      have hj32 : j < 32 * m := by have := hnl.out; omega
      have hjm : j ≤ 4096 := by omega
      have h2 := (h.below hbw (Nat.le_refl _)).more hsz
      have k2 := (k.below hbw (Nat.le_refl _)).more hsz
      have HM2 : LRd wr wr.heap.size mv.A mv.n mv.c mv.xs := (HM.below hbw (Nat.le_refl _)).more hsz
      have R1 := RV.below hbw RV.lt
      go_wp2_with fail
      refine (pmod_any wr wr.heap.size g A1 A1 k1 k1 c1 c1 v v mv zs zs hz hz (Nat.le_refl _) hrz.out hrz.out hk1 hk1 HM2 HO.out h0 R1).mono ?_
      rintro e2 w2 ⟨A2, k2', c2, zs2, rfl, hz2, hr2, hb2⟩
      rw [HMe.out, pm_sq HI.out] at hr2
      have hk2 := len_mod hr2 hz2.len.out HM1.out HM0.out
      have HZ := Lib.hid hr2
      have hz2c := hz2.cap
      have sz2 := hb2.size
      have k3 := (k2.below hb2 (Nat.le_refl _)).more sz2
      have h3 := (h2.below hb2 (Nat.le_refl _)).more sz2
      have HM3 : LRd w2 w2.heap.size mv.A mv.n mv.c mv.xs := (HM2.below hb2 (Nat.le_refl _)).more sz2
      have R2 := R1.below hb2 R1.lt
      obtain ⟨b, off, rfl, hbb, hcc⟩ := k3.rd (by omega)
      have g1 : w2.cell? ⟨b, off + j / 32, none⟩ = some (.int .u32 (nth es (j / 32))) := hcc (j / 32) (by omega)
      have HBT := Lib.hid (bit_int HE.out (j := j) (by rw [hml]; omega))
      clear hr2 hcc
      have hms : (intOf (Value.int IntKind.i64 ((j : Int) - 1)) + 1).toNat < (intOf (Value.int IntKind.i64 (j : Int)) + 1).toNat := by simp [intOf]
      rcases Nat.mod_two_eq_zero_or_one (e / 2 ^ j) with hb | hb
      · have hb0 : bits .and .u32 (nth es (j / 32) / 2 ^ (j % 32)) 1 = 0 := by rw [HBT.out, hb]; rfl
        have HP := Lib.hid (pm_even (M := M) (p := p) hb rfl)
        clear hb
        go_wp2_with fail
        go_roundw
        case rel => exact ⟨j, A2, k2', c2, zs2, _, by omega, rfl, rfl, hz2, HZ, hk2, hbw.trans (hb2.mono hsz), HP⟩
        case measure => exact hms
      · have hb0 : bits .and .u32 (nth es (j / 32) / 2 ^ (j % 32)) 1 = 1 := by rw [HBT.out, hb]; rfl
        have HBD := Lib.hid hb
        clear hb
        go_wp2_with fail
        refine (pmod_any w2 w2.heap.size g A2 A k2' n c2 c _ p mv zs2 xs hz2 h3 (Nat.le_refl _) HZ.out HX.out hk2 hn HM3 HO.out h0 R2).mono ?_
        rintro e3 w3 ⟨A4, k4, c4, zs4, rfl, hz4, hr4, hb4⟩
        rw [HMe.out, pm_odd (M := M) (p := p) HBD.out rfl] at hr4
        have hk4 := len_mod hr4 hz4.len.out HM1.out HM0.out
        have H4 := Lib.hid hr4
        have hz4c := hz4.cap
        have sz4 := hb4.size
        clear hr4
        go_wp2_with fail
        go_roundw
        case rel => exact ⟨j, A4, k4, c4, zs4, _, by omega, rfl, rfl, hz4, H4, hk4, (hbw.trans (hb2.mono hsz)).trans (hb4.mono (by omega)), Lib.hid rfl⟩
        case measure => exact hms
end Go.Proofs.Ytpidkionieaffaa
