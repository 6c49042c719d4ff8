/- For every two slices of uint32 (nil ones too) and every int, at every start: NaturalDigitsMove returns true, and its arguments read afterwards as before. No condition. -/
import Derived.Test.YtjkogajdpkbjeaaDivA
import Derived.Test.YtjkogajdpkbjeaaMovA
import Derived.Test.YtjkogajdpkbjeaaDig4
import Derived.Test.YtjkogajdpkbjeaaDig56
import Derived.Laws.AppendOwnNone
import Derived.Deep.RegionWith
import Derived.Test.YtjkogajdpkbjeaaOpen
import Derived.ShutString
import Derived.ChangeOld
import Derived.Below
namespace Go.Proofs.Ytjkogajdpkbjeaa
open Go.RowKit
set_option maxHeartbeats 400000
set_option maxRecDepth 100000
set_option linter.unusedSimpArgs false
set_option linter.unusedVariables false

/-- Digits' result: nil has no capacity. -/
def DgPost2 (y p : Nat) (w : World) (e : Ending) (w' : World) : Prop :=
  ∃ A k c zs, e = .returned (.tuple #[.slice A k c, flt 0 0]) ∧ DRd w' w'.heap.size A k c zs ∧ Rep y zs.reverse p ∧ Below w.heap.size w w' ∧ (A = none → c = 0)
theorem own_none {w : World} {base size n c : Nat} {e : TypeId} {A : Option Addr} {xs : List Value} (h : w.ownsRow base e size (.slice A n c) n xs) : A = none → c = 0 := by
  intro hA
  rcases h.2 with ⟨hv, _⟩ | ⟨g, cap, cur, hv, _⟩
  · injection hv with _ _ e3
  · injection hv with e1 _ _
    rw [hA] at e1; cases e1
set_option maxHeartbeats 8000000 in
theorem digits_ok2 (w : World) (B : Nat) (A : Option Addr) (n c y : Nat) (xs : List Nat) (h : LRd w B A n c xs) (hB : B ≤ w.heap.size) (hx : vld xs = true) (hy : 2 ≤ y ∧ y ≤ 36) :
    Calls Try.prog 34 #[.slice A n c, .int .i64 (y : Int)] w (DgPost2 y (vb 4294967296 xs) w) := by
  obtain ⟨i0, hi, iz0, iz1, iz2⟩ := info_parts info64
  have h1 := fun (o : Obj) => h.below (bl1 w o) hB
  have hn : n ≤ 600 := by have := (vld_top hx).2; have := h.len.out; omega
  obtain ⟨p, hp⟩ : ∃ p, p = vb 4294967296 xs := ⟨_, rfl⟩
  obtain ⟨M, hMM⟩ : ∃ M, M = 1200 := ⟨_, rfl⟩
  have HPM := Lib.hid (show p < 65536 ^ M by rw [hp, ← big65 hMM]; exact vld_lt h.lim hx)
  have hM : M ≤ 1200 := by omega
  have HP := Lib.hid hp
  have HT := Lib.hid (vld_top hx).1
  rw [← hp]
  clear hp hMM
  go_enter Try.func34, Try.ntmps34
  go_wp2_with fail
  refine (checkOne_ok _ B A n c xs (h1 _) (by simp; omega) hx).mono ?_
  rintro e w1 ⟨rfl, hb⟩
  obtain ⟨hc, hf⟩ := bcell hb
  have hz : w.heap.size < w1.heap.size := by have := hb.size; simp at this; omega
  have hb' : Below w.heap.size w w1 := (bl1 w _).trans (hb.mono (by simp))
  go_wp2_with fail
  refine (checkBase_ok _ (y : Int) (by omega)).mono ?_
  rintro e w2 ⟨rfl, hb2⟩
  obtain ⟨hc2, hf2⟩ := bcell hb2
  have hz2 : w1.heap.size < w2.heap.size := by have := hb2.size; simp at this; omega
  have hbw2 : Below w.heap.size w w2 := (hb'.alloc (by omega) _).trans (hb2.mono (by simp; omega))
  have c0 : w2.cell? ⟨w.heap.size, 0, none⟩ = some (.int .i64 0) := by rw [hc2 w.heap.size 0 (by first | omega | (simp; omega))]; simp [go_sem, hc, hz]
  have c1 : w2.cell? ⟨w.heap.size, 1, none⟩ = some (.int .i64 0) := by rw [hc2 w.heap.size 1 (by first | omega | (simp; omega))]; simp [go_sem, hc, hz]
  have f0 : w2.frozen? ⟨w.heap.size, 0, none⟩ = false := by rw [hf2 w.heap.size 0 (by first | omega | (simp; omega))]; simp [go_sem, hf, hz]
  have f1 : w2.frozen? ⟨w.heap.size, 1, none⟩ = false := by rw [hf2 w.heap.size 1 (by first | omega | (simp; omega))]; simp [go_sem, hf, hz]
  have h2 := fun (o : Obj) => (h.below hbw2 hB).alloc (by omega) o
  clear hc hf hc2 hf2 hb hb2 hb'
  go_wp2_with fail
  refine (largestPower_any _ y hy).mono ?_
  rintro e w' ⟨P, W, rfl, rfl, hLP, hLP2⟩
  have hP0 := hLP.lo
  have hP1 := hLP.hi
  have hW := hLP.wid
  go_wp2_with fail
  refine (clone_any _ B A n c xs (h2 _) (by first | omega | (simp; omega)) (by omega)).mono ?_
  rintro e w3 ⟨A1, c3, rfl, hcn, hcm, hb3, hcl⟩
  obtain ⟨W2, hW2⟩ : ∃ W2 : World, W2 = w2.alloc (.cells #[.int .i64 0, .int .i64 0] 24) := ⟨_, rfl⟩
  rw [← hW2] at hb3 hcl
  have hWs : W2.heap.size = w2.heap.size + 1 := by rw [hW2]; simp
  have hzz2 : w.heap.size < w2.heap.size := by omega
  have C0 : W2.cell? ⟨w.heap.size, 0, none⟩ = some (.int .i64 0) := by rw [hW2, World.cell?_alloc_lt _ _ _ hzz2]; exact c0
  have C1 : W2.cell? ⟨w.heap.size, 1, none⟩ = some (.int .i64 0) := by rw [hW2, World.cell?_alloc_lt _ _ _ hzz2]; exact c1
  have F0 : W2.frozen? ⟨w.heap.size, 0, none⟩ = false := by rw [hW2, World.frozen?_alloc_past _ _ _ hzz2]; exact f0
  have F1 : W2.frozen? ⟨w.heap.size, 1, none⟩ = false := by rw [hW2, World.frozen?_alloc_past _ _ _ hzz2]; exact f1
  have hbW : Below w.heap.size w W2 := by rw [hW2]; exact hbw2.alloc (by omega) _
  have hs3 := hb3.size
  have hl := h.len.out
  have HLx := Lib.hid h.lim
  obtain ⟨g, hg⟩ : ∃ g, 0 < n → A1 = some ⟨g, 0, none⟩ ∧ W2.heap.size ≤ g ∧ g < w3.heap.size ∧ R32 w3 g xs := by
    rcases Nat.eq_zero_or_pos n with e | e
    · exact ⟨0, fun h => absurd h (by omega)⟩
    · obtain ⟨g, a1, a2, a3⟩ := hcl e
      exact ⟨g, fun _ => ⟨a1, a2, a3.lt, a3⟩⟩
  have HGB := Lib.hid (show 0 < n → W2.heap.size ≤ g ∧ g < w3.heap.size from fun e => ⟨(hg e).2.1, (hg e).2.2.1⟩)
  have HG1 := Lib.hid (show 0 < n → A1 = some ⟨g, 0, none⟩ ∧ R32 w3 g xs from fun e => ⟨(hg e).1, (hg e).2.2.2⟩)
  have hn0 : 0 < n ∨ n = 0 := by omega
  obtain ⟨B3, hB3⟩ : ∃ B3, B3 = w3.heap.size := ⟨_, rfl⟩
  have hB3' : B3 ≤ w3.heap.size := by omega
  have hB3W : W2.heap.size ≤ B3 := by omega
  rw [← hB3] at HGB
  clear c0 c1 f0 f1 hW2 hcl hg h2 h1 h hbw2 hB3
  go_wp2_with fail
  go_loopg [10, 11] p (fun v s10 s11 wr => (0 < n ∨ v = 0) ∧ DgRel y p g B3 W2 v s10 s11 wr)
  case atStart =>
    refine ⟨?_, A1, n, c3, xs, [], rfl, HG1.out, by omega, hcn, hcm, HLx.out, ?_, World.ownsRow_nil _ _ _ _, (by intro x hx; cases hx), hb3, hB3', (by show _ = _; simp [vb_nil])⟩
    · rcases hn0 with e | e
      · exact .inl e
      · right; rw [HP.out, List.eq_nil_of_length_eq_zero (hl.trans e), vb_nil]
    · show Rep _ _ _
      rw [List.take_of_length_le (by omega)]
      exact ⟨HLx.out, HP.out.symm, HT.out⟩
  case round =>
    clear HG1 hb3 hB3' hs3 hcn hcm hl HLx HT hn0
    obtain ⟨hnv, A2, k, c4, cs, zs, rfl, hR, hkc, hk4, hc4, hcl, hCr, hown, hzd, hbw, hB3r, HS⟩ := hrel
    have hsz := hbw.size
    by_cases h0 : k = 0
    · have HV0 := Lib.hid (rep_nil hCr.out (show (cs.take k).length = k by rw [List.length_take]; omega) h0)
      subst h0
      have HVal := Lib.hid (show vb y zs = p by have := HS.out; rw [HV0.out] at this; simpa using this)
      obtain ⟨A5, c5, rfl, hc1, hc2⟩ := own_shape hown
      have hzw := hzd.wide (show y ≤ 65536 by omega)
      have hdr := own_drd hown hzw
      have hcd := hdr.cap
      obtain ⟨q, hq⟩ : ∃ q, q = zs.length := ⟨_, rfl⟩
      have HQ := Lib.hid hq
      have HO := Lib.hid hown
      rw [← hq] at hdr hcd
      rw [← hq]
      clear hq hown hR hCr HS HV0
      obtain ⟨wo, hwo⟩ : ∃ wo : World, wo = wr := ⟨_, rfl⟩
      go_wp2_with fail
      go_loop [11] (OtRel q zs A5 c5) (fun v => slen v)
      case atStart => exact ⟨q, Nat.le_refl _, rfl, fun j h1 h2 => absurd h1 (by omega)⟩
      case round =>
        obtain ⟨e, he, rfl, hz⟩ := hrel
        have HZ := Lib.hid hz
        clear hz
        obtain ⟨hc6, hf6⟩ := bcell hbw
        have d0 := (hc6 w.heap.size 0 (by omega)).trans C0
        have d1 := (hc6 w.heap.size 1 (by omega)).trans C1
        have g0 := (hf6 w.heap.size 0 (by omega)).trans F0
        have g1 := (hf6 w.heap.size 1 (by omega)).trans F1
        clear hc6 hf6
        by_cases h0 : e = 0
        · subst h0
          have HR := Lib.hid (trimmedG (y := y) (p := p) ⟨Nat.zero_le _, HZ.out, fun m hm => by omega⟩ HQ.out.symm hzd HVal.out)
          go_wp2_with fail
          refine (reverse_nil _ A5 c5 (by omega)).mono ?_
          rintro e w' ⟨rfl, rfl⟩
          go_wp2_with fail
          refine bodyPost_ret (v := .tuple #[.slice A5 0 c5, flt 0 0]) (by simp [results, Try.results34, go_sem, d0, d1]) rfl ⟨A5, 0, c5, [], rfl, drd_cap0 (by omega), ?_, ?_, own_none HO.out⟩
          · have := HR.out; simpa using this
          · (repeat (first | exact Below.refl _ _ | exact hbW | refine Below.setCell ?_ (by simp; done) _ | refine Below.trans ?_ (Below.mono hbw (by first | omega | (simp; done) | (simp; omega)))))
        · obtain ⟨gg, rfl, hgg, hRR, _⟩ := R64.of_own HO.out (by rw [← HQ.out]; omega)
          obtain ⟨m, rfl⟩ : ∃ m, e = m + 1 := ⟨e - 1, by omega⟩
          have hcell := hRR.cell (j := m) (by rw [← HQ.out]; omega)
          have l1 := nth_nn zs m
          have l2 := hdr.lim.nth m
          clear h0
          by_cases hx0 : nth zs m = 0
          · have hx' : (nth zs m == 0) = true := beq_iff_eq.2 hx0
            have HX := Lib.hid (nth_zero hx0)
            clear hx0
            go_wp2_with fail
            go_round
            case rel => exact ⟨m, by omega, rfl, fun j h1 h2 => by rcases Nat.lt_or_ge m j with h3 | h3; exact HZ.out j (by omega) h2; rw [show j = m by omega]; exact HX.out⟩
            case measure => simp [slen]
          · have hx' : (nth zs m == 0) = false := beq_eq_false_iff_ne.2 hx0
            have HX := Lib.hid (nth_pos hx0)
            clear hx0
            have HR := Lib.hid (trimmedG (y := y) (p := p) (k := m + 1) ⟨by omega, HZ.out, fun i hi => by rw [show i = m by omega]; exact HX.out⟩ HQ.out.symm hzd HVal.out)
            have hpre := hRR.pre (m + 1)
            have hpl : (zs.take (m + 1)).length = m + 1 := by rw [List.length_take, ← HQ.out]; omega
            have hggw : w.heap.size < gg := by omega
            have hne : gg ≠ w.heap.size := by omega
            go_wp2_with fail
            refine (reverse_any wr gg (m + 1) c5 _ hpre hpl (by omega)).mono ?_
            rintro e w7 ⟨rfl, hR7, hg7⟩
            have hb7 : Below W2.heap.size W2 w7 := hbw.grown hg7 hsz (fun k hk => by injection hk with hk; omega)
            obtain ⟨hc6, hf6⟩ := bcell hb7
            have d0 := (hc6 w.heap.size 0 (by omega)).trans C0
            have d1 := (hc6 w.heap.size 1 (by omega)).trans C1
            have g0 := (hf6 w.heap.size 0 (by omega)).trans F0
            have g1 := (hf6 w.heap.size 1 (by omega)).trans F1
            clear hc6 hf6
            have hrl : (zs.take (m + 1)).reverse.length = m + 1 := by rw [List.length_reverse, hpl]
            have hrd : Dig 65536 (zs.take (m + 1)).reverse := fun x hx => hzw x (List.mem_of_mem_take (List.mem_reverse.1 hx))
            have hR8 := (hR7.far (p := ⟨w.heap.size, 0, none⟩) hne (.int .i64 0)).far (p := ⟨w.heap.size, 1, none⟩) hne (.int .i64 0)
            have hL8 := Lib.hid (hR8.lift hrd (c := c5) hrl (by omega))
            clear hrd hR7 hpre
            go_wp2_with fail
            refine bodyPost_ret (v := .tuple #[.slice (some ⟨gg, 0, none⟩) (m + 1) c5, flt 0 0]) (by simp [results, Try.results34, go_sem, d0, d1]) rfl ⟨_, m + 1, c5, _, rfl, hL8.out, ?_, ?_, fun e => by cases e⟩
            · rw [List.reverse_reverse]; exact HR.out
            · (repeat (first | exact Below.refl _ _ | exact hbW | refine Below.setCell ?_ (by simp; done) _ | refine Below.trans ?_ (Below.mono hb7 (by first | omega | (simp; done) | (simp; omega)))))
    · have hk0 : 0 < k := by omega
      have hv0 := rep_pos4 hCr.out (show (cs.take k).length = k by rw [List.length_take]; omega) hk0
      have hnn : 0 < n := by omega
      obtain ⟨hgl, hgh⟩ := HGB.out hnn
      have hRb := (hR hk0).2
      have hAe := (hR hk0).1
      clear hR
      subst hAe
      have hL := fg_len HS.out hv0 hy.1 HPM.out
      clear h0 hnv
      go_wp2_with fail
      refine (divideBySmall_any wr g k c4 cs (P : Int) hRb hcl hkc (by omega) ⟨hk4, hc4⟩).mono ?_
      rintro e w5 ⟨r, cs', rfl, r0, r1, hR5, hL5, hg5, hD5⟩
      have hlen5 := hD5.1
      have HD := Lib.hid (ds_val hD5 hkc hCr.out.val)
      have hown5 := hown.kept hg5 (.inr (fun e => by have := hown.lt _ e; omega))
      have hb5 : Below W2.heap.size W2 w5 := hbw.grown hg5 hsz (fun k hk => by injection hk with hk; omega)
      have hs5 : B3 ≤ w5.heap.size := by have := hg5.size; omega
      have hgw5 := hR5.lt
      have hl5 := hR5.lrd0 hL5 (B := w5.heap.size) (n := k) (c := c4) hgw5 (by omega) ⟨hk4, hc4⟩
      obtain ⟨rn, rfl⟩ := Int.eq_ofNat_of_zero_le r0
      rw [Int.toNat_natCast] at HD
      have hrn : rn < P := by omega
      clear hown hbw hRb hg5 hD5 r0 r1
      go_wp2_with fail
      refine (trim_any _ _ _ k c4 _ hl5).mono ?_
      rintro e w' ⟨t, rfl, ht5, rfl⟩
      have htk := ht5.le
      have HQ5 := Lib.hid (show Rep 4294967296 (cs'.take t) (vb 4294967296 (cs'.take k)) by
        have := trimmed ht5 hl5.len.out hl5.lim
        rwa [List.take_take, Nat.min_eq_left htk] at this)
      obtain ⟨q, hq⟩ : ∃ q, q = vb 4294967296 (cs'.take k) := ⟨_, rfl⟩
      rw [← hq] at HD HQ5
      have HMs := Lib.hid (show q < gk by
        have h5 := HD.out
        have h6 : q * 2 ≤ q * P := Nat.mul_le_mul_left _ (by
          have h7 := hLP2
          rcases Nat.lt_or_ge P 2 with e | e
          · exfalso
            have : P * y ≤ 1 * 36 := Nat.mul_le_mul (by omega) hy.2
            omega
          · exact e)
        omega)
      have HRn := Lib.hid (show rn < y ^ (W - 0) by rw [Nat.sub_zero, ← hLP.pow]; exact hrn)
      obtain ⟨L, hLL⟩ : ∃ L, L = zs.length := ⟨_, rfl⟩
      have HLL := Lib.hid hLL
      rw [← hLL] at hL
      clear hl5 ht5 hq hLL hcl hCr
      obtain ⟨wo, hwo⟩ : ∃ wo : World, wo = w5 := ⟨_, rfl⟩
      go_wp2_with fail
      go_loopw [11, 12, 42] (DjRel y L W g B3 (rn * y ^ L + vb y zs) W2 cs') (fun _ _ j _ => W - (intOf j).toNat)
      case atStart => exact ⟨0, rn, zs, Nat.zero_le _, rfl, rfl, by omega, HRn, hown5, (by show _ = _; rw [HLL.out]; rfl), hzd, hb5, hs5, hR5, (by show _ = _; rw [Nat.add_zero])⟩
      case round =>
        clear hown5 hb5 hs5 hR5 hgw5 hsz HRn
        obtain ⟨j, t2, zs2, hj, rfl, rfl, ht2, htl, hown, hzl, hzd2, hbw, hB3w, hR6, HS2⟩ := hrel
        have hsz := hbw.size
        have hzn : zs2.length ≤ 20000 := by have := hzl.out; omega
        by_cases h2 : j < W
        · have ST := Lib.hid (dj_step hzl.out HS2.out)
          have HDv := Lib.hid (dj_div htl.out h2 (by omega))
          have hml : t2 % y < y := Nat.mod_lt _ (by omega)
          have hdl : t2 / y ≤ t2 := Nat.div_le_self _ _
          have hyf : ((y : Int) == 0) = false := beq_eq_false_iff_ne.2 (by omega)
          have hq1 : 0 ≤ (t2 : Int) / (y : Int) ∧ (t2 : Int) / (y : Int) ≤ 4294967295 := ⟨Int.ediv_nonneg (by omega) (by omega), by rw [← Int.natCast_ediv]; omega⟩
          go_wp2_with (at_builtin; refine wpList_append_own _ rfl _ _ 33 rfl B3 3 i0 (.int .i64 0) 1 8 Try.underlying33 hi iz0 iz1 iz2 rfl (by decide) _ _ _ rfl (hown.alloc _) ⟨wr.heap.size, 0, none⟩ 1 1 [.int .i64 ((t2 : Int) % (y : Int))] rfl rfl (cell_one_new _ _ _) (fun u hu => by simp at hu; subst hu; rfl) (by unfold maxLen; omega) (by omega) (by first | (simp; omega) | omega) ?_; intro v' w1 hown' hgrow _)
          rw [show ((t2 : Int) % (y : Int)) = ((t2 % y : Nat) : Int) by simp] at hown'
          have ho := own_snocN hown'
          have hb1 : Below W2.heap.size W2 w1 := (hbw.alloc hsz _).grown hgrow (by simp; omega) (fun k hk => by have := (hown.lt k hk).1; omega)
          have hR7 := (hR6.alloc _).grown hgrow (fun e => by have := (hown.lt _ e.symm).1; omega)
          have hB4 : B3 ≤ w1.heap.size := by have := hgrow.size; simp at this; omega
          clear hown hown' hgrow hR6
          go_wp2_with fail
          go_roundw
          case rel => exact ⟨j + 1, t2 / y, _, by omega, by go_num, by first | rfl | simp, by omega, HDv, ho, (by show _ = _; rw [List.length_append, hzl.out]; rfl), hzd2.push hml, hb1, hB4, hR7, ST.out⟩
          case measure => simp [intOf]; omega
        · obtain rfl : j = W := by omega
          have HT0 := Lib.hid (show t2 = 0 by have := htl.out; rw [Nat.sub_self] at this; simpa using this)
          have HN := Lib.hid (show q * y ^ zs2.length + vb y zs2 = p by
            rw [hzl.out]
            exact dg_next HD.out hLP.pow (by have := HS2.out; rw [HT0.out] at this; exact this) (by rw [HLL.out]; exact HS.out))
          have hkc2 : t ≤ cs'.length := by omega
          have htc : t ≤ c4 := by omega
          go_wp2_with fail
          go_roundg q
          case measure => exact HMs.out
          case rel => exact ⟨.inl hnn, _, t, c4, cs', zs2, rfl, fun _ => ⟨rfl, hR6⟩, hkc2, htc, hc4, hL5, HQ5, hown, hzd2, hbw, hB3w, HN⟩
/-- What Digits gives of any arguments. -/
def DgAny (y : Int) (xs : List Nat) (w : World) (e : Ending) (w' : World) : Prop :=
  ∃ A k c l f1 f2, e = .returned (.tuple #[.slice A k c, flt f1 f2]) ∧ DRd w' w'.heap.size A k c l ∧ Below w.heap.size w w' ∧
    (A = none → k = 0 ∧ c = 0) ∧
    ((f1 = 0 ∧ f2 = 0 ∧ vld xs = true ∧ 2 ≤ y ∧ y ≤ 36 ∧ Rep y.toNat l.reverse (vb 4294967296 xs)) ∨ (f1 ≠ 0 ∧ k = 0))
theorem none_len {w : World} {B n c : Nat} {A : Option Addr} {xs : List Nat} (h : DRd w B A n c xs) (hA : A = none) : n = 0 := by
  rcases Nat.eq_zero_or_pos n with e | e
  · exact e
  · obtain ⟨b, off, e1, _⟩ := h.rd e
    rw [hA] at e1; cases e1
theorem digits_any (w : World) (B : Nat) (A : Option Addr) (n c : Nat) (y : Int) (xs : List Nat) (h : LRd w B A n c xs) (hB : B ≤ w.heap.size) :
    Calls Try.prog 34 #[.slice A n c, .int .i64 y] w (DgAny y xs w) := by
  by_cases hx : vld xs = true
  · by_cases hy : 2 ≤ y ∧ y ≤ 36
    · obtain ⟨y, rfl⟩ := Int.eq_ofNat_of_zero_le (show 0 ≤ y by omega)
      refine (digits_ok2 w B A n c y xs h hB hx (by omega)).mono ?_
      rintro e w' ⟨A1, k1, c1, l, rfl, hL, hLr, hb, hnn⟩
      exact ⟨A1, k1, c1, l, 0, 0, rfl, hL, hb, fun e => ⟨none_len hL e, hnn e⟩, .inl ⟨rfl, rfl, hx, hy.1, hy.2, by simpa using hLr⟩⟩
    · refine (digits_bad2 w B A n c y xs h hB hx (by omega)).mono ?_
      rintro e w' ⟨rfl, hb⟩
      exact ⟨none, 0, 0, [], 4, -2, rfl, drd_cap0 (by omega), hb, fun _ => ⟨rfl, rfl⟩, .inr ⟨by decide, rfl⟩⟩
  · refine (digits_bad1 w B A n c y xs h hB (by simpa using hx)).mono ?_
    rintro e w' ⟨rfl, hb⟩
    exact ⟨none, 0, 0, [], 6, -1, rfl, drd_cap0 (by omega), hb, fun _ => ⟨rfl, rfl⟩, .inr ⟨by decide, rfl⟩⟩
theorem DRd.newsA {w : World} {B n c : Nat} {A : Option Addr} {xs : List Nat} (h : DRd w B A n c xs) : ∀ ad, A = some ad → ∀ j u, (digs xs)[j]? = some u → w.cell? (ad.add j) = some u := by
  intro ad hA j u hu
  subst hA
  have hj : j < xs.length := by
    rcases Nat.lt_or_ge j xs.length with e | e
    · exact e
    · rw [List.getElem?_eq_none (by simpa using e)] at hu; cases hu
  obtain ⟨b', off', e, _, hc⟩ := h.rd (by have := h.len.out; omega)
  injection e with e; subst e
  rw [add_mk, hc j (by have := h.len.out; omega)]
  unfold nth
  rw [List.getElem?_map, List.getElem?_eq_getElem hj] at hu
  show some (Value.int .i64 ((xs.getD j 0 : Nat) : Int)) = some u
  rw [List.getD_eq_getElem?_getD, List.getElem?_eq_getElem hj]
  exact hu
theorem LRd.newsA {w : World} {B n c : Nat} {A : Option Addr} {xs : List Nat} (h : LRd w B A n c xs) : ∀ ad, A = some ad → ∀ j u, (limbs xs)[j]? = some u → w.cell? (ad.add j) = some u := by
  intro ad hA j u hu
  subst hA
  have hj : j < xs.length := by
    rcases Nat.lt_or_ge j xs.length with e | e
    · exact e
    · rw [List.getElem?_eq_none (by simpa using e)] at hu; cases hu
  obtain ⟨b', off', e, _, hc⟩ := h.rd (by have := h.len.out; omega)
  injection e with e; subst e
  exact h.news j u hu
theorem wpList_append_any {P : Program} {w : World} {ops : Array Oper} {rest : List Oper} {o : Oper} {a : Act} {Q : Exit → Act → World → Prop} (hgd : o.guard = none) (s x : Operand) (t : TypeId)
    (ho : o.op = .call { callee := .builtin .append, args := #[s, x], argTypes := #[t, t] })
    (base : Nat) (e : TypeId) (i : TypeInfo) (z : Value) (bytes : Nat) (ht : P.underlying t = some (.slice e)) (hi : P.info? e = some i) (hz : i.zero = some z)
    (hsize : i.size = 1) (hby : i.bytes = bytes) (hzs : z.cells.size = 1)
    (v : Value) (n : Nat) (xs : List Value) (hs : a.eval s = v) (hown : w.ownsRow base e 1 v n xs)
    (A : Option Addr) (m c : Nat) (news : List Value) (hx : a.eval x = .slice A m c) (hA : A = none → m = 0 ∧ c = 0) (hl : news.length = m) (hnews : ∀ ad, A = some ad → ∀ j u, news[j]? = some u → w.cell? (ad.add j) = some u) (h1 : ∀ u ∈ news, u.oneCell' = true)
    (h63 : n + m ≤ maxLen) (hbytes : (n + m) * bytes ≤ 140737488355328) (hbase : base ≤ w.heap.size)
    (h : ∀ v' w', w'.ownsRow base e 1 v' (n + m) (xs ++ news) → w.grownBy w' v.ownBlock → wpList P ops Q rest (a.put o.dst v') w') :
    wpList P ops Q (o :: rest) a w := by
  cases A with
  | none =>
    obtain ⟨rfl, rfl⟩ := hA rfl
    have hn : news = [] := List.eq_nil_of_length_eq_zero hl
    subst hn
    exact wpList_append_own_none hgd s x t ho base e i 1 ht hi v n xs hs hown hx (h v w (by simpa using hown) (World.grownBy.refl _ _))
  | some ad =>
    exact wpList_append_own_at w hgd s x t ho base e i z 1 bytes ht hi hz hsize hby hzs (by decide) v n xs hs hown ad m c news hx (by omega) (hnews ad rfl) h1 h63 hbytes hbase (fun v' w' a1 a2 _ _ => h v' w' a1 a2)
theorem digs_one (xs : List Nat) : ∀ u ∈ digs xs, u.oneCell' = true := by
  intro u hu
  obtain ⟨x, _, rfl⟩ := List.mem_map.1 hu
  rfl
/-- Digits of one number, followed by those of another. -/
theorem cat_val {y p q : Nat} {l1 l2 : List Nat} (h1 : vb y l1.reverse = p) (h2 : vb y l2.reverse = q) : vb y (l1 ++ l2).reverse = p * y ^ l2.length + q := by
  rw [List.reverse_append, vb_append, List.length_reverse, h1, h2, Nat.mul_comm, Nat.add_comm]
theorem cat_dig {y : Nat} {l1 l2 : List Nat} (h1 : Dig y l1.reverse) (h2 : Dig y l2.reverse) : Dig y (l1 ++ l2) := by
  intro x hx
  rcases List.mem_append.1 hx with e | e
  · exact h1 x (List.mem_reverse.2 e)
  · exact h2 x (List.mem_reverse.2 e)
theorem cat_len {y q k M : Nat} {l : List Nat} (h : Rep y l.reverse q) (hy : 2 ≤ y) (hl : l.length = k) (hq : q < 2 ^ M) : k ≤ M := by
  rw [← hl, ← List.length_reverse]
  exact h.length_le (by omega) (Nat.lt_of_lt_of_le hq (Nat.pow_le_pow_left hy _))
theorem pow_top {y q k M : Nat} {l : List Nat} (h : Rep y l.reverse q) (hy : 2 ≤ y ∧ y ≤ 36) (hl : l.length = k) (hq : q < 2 ^ M) : y ^ k ≤ 2 ^ (M + 6) := by
  rcases Nat.eq_zero_or_pos k with e | e
  · subst e; rw [Nat.pow_zero]; exact Nat.two_pow_pos _
  · obtain ⟨t, rfl⟩ : ∃ t, k = t + 1 := ⟨k - 1, by omega⟩
    have h1 := h.top.low (b := y) (m := t) (by rw [List.length_reverse]; exact hl)
    rw [h.val] at h1
    rw [Nat.pow_succ, Nat.pow_add]
    have h2 : y ^ t ≤ 2 ^ M := by omega
    exact Nat.mul_le_mul h2 (by omega)
theorem lim60 {xs : List Nat} {n M : Nat} (h : Lim xs) (hl : xs.length = n) (hn : n ≤ 60) (hM : M = 1920) : vb 4294967296 xs < 2 ^ M := by
  have h1 := vb_lt (b := 4294967296) (by decide) h
  rw [pow32, hl] at h1
  exact Nat.lt_of_lt_of_le h1 (Nat.pow_le_pow_right (by decide) (by omega))
theorem mv_fit {p q y k i M : Nat} (hp : p < 2 ^ M) (hq : q < 2 ^ M) (hk : y ^ k ≤ 2 ^ (M + 6)) (hy : 0 < y) (hi : i ≤ k) (hM : M = 1920) : p * y ^ i + q < Big := by
  obtain ⟨m, hm⟩ : ∃ m, m = 600 := ⟨_, rfl⟩
  rw [big_two hm]
  have h1 : y ^ i ≤ 2 ^ (M + 6) := Nat.le_trans (Nat.pow_le_pow_right hy hi) hk
  have h2 : p * y ^ i ≤ 2 ^ M * 2 ^ (M + 6) := Nat.mul_le_mul (by omega) h1
  rw [← Nat.pow_add] at h2
  have h3 : 2 ^ M ≤ 2 ^ (M + (M + 6)) := Nat.pow_le_pow_right (by decide) (by omega)
  have h4 : 2 ^ (M + (M + 6)) * 2 = 2 ^ (M + (M + 6) + 1) := (Nat.pow_succ ..).symm
  have h5 : 2 ^ (M + (M + 6) + 1) ≤ 2 ^ (32 * m) := Nat.pow_le_pow_right (by decide) (by omega)
  omega
theorem lrdB (w : World) (y : Nat) (hy : y < 4294967296) : LRd (w.alloc (.cells #[.int .u32 (y : Int)] 58)) (w.heap.size + 1) (some ⟨w.heap.size, 0, none⟩) 1 1 [y] :=
  lrd1 w w.heap.size rfl (y : Int) y rfl hy
theorem app_first {w w' : World} (h : w.grownBy w' (Value.slice none 0 0).ownBlock) : Below w.heap.size w w' := (Below.refl _ _).grown h (Nat.le_refl _) (fun k hk => by simp [Value.ownBlock] at hk)
def MvRel (k2 y p : Nat) (W : World) (i s : Value) (wr : World) : Prop :=
  ∃ j : Nat, ∃ A k c zs, j ≤ k2 ∧ i = .int .i64 (j : Int) ∧ s = .slice A k c ∧ LRd wr wr.heap.size A k c zs ∧ Hid (Rep 4294967296 zs (p * y ^ j)) ∧ Below W.heap.size W wr ∧ FC wr W.heap.size 0 0
end Go.Proofs.Ytjkogajdpkbjeaa

namespace Go.Proofs.Ytjkogajdpkbjeaa
open Go.RowKit
set_option maxHeartbeats 400000
set_option maxRecDepth 100000
set_option linter.unusedSimpArgs false
set_option linter.unusedVariables false

set_option maxHeartbeats 16000000 in
theorem move_any (w : World) (A D : Option Addr) (n c m d : Nat) (y : Int) (xs ys : List Nat) (h : LRd w w.heap.size A n c xs) (k : LRd w w.heap.size D m d ys) (hAn : A = none → n = 0 ∧ c = 0) :
    Calls Try.prog 7 #[.slice A n c, .slice D m d, .int .i64 y] w fun e w' => e = .returned (.bool true) ∧ Below w.heap.size w w' := by
  obtain ⟨i0, hi, iz0, iz1, iz2⟩ := info_parts info64
  obtain ⟨i1, hi1, jz0, jz1, jz2⟩ := info_parts info32
  have hcap := h.cap
  have hcap2 := k.cap
  go_enter Try.func7, Try.ntmps7
  go_wp2_with fail
  refine (digits_any w _ A n c y xs h (Nat.le_refl _)).mono ?_
  rintro e w1 ⟨A1, k1, c1, l1, f1, f2, rfl, hL1, hb1, hN1, hd1⟩
  have hz1 : w.heap.size ≤ w1.heap.size := hb1.size
  have H1 := (h.below hb1 (Nat.le_refl _)).alloc hz1 (.cells #[.int .i64 f1, .int .i64 f2] 24)
  have K1 := (k.below hb1 (Nat.le_refl _)).alloc hz1 (.cells #[.int .i64 f1, .int .i64 f2] 24)
  have E1 : Below w.heap.size w (w1.alloc (.cells #[.int .i64 f1, .int .i64 f2] 24)) := hb1.alloc hz1 _
  have P1a := FC.new w1 f1 f2
  have L1a := hL1.alloc (Nat.le_refl _) (.cells #[.int .i64 f1, .int .i64 f2] 24)
  have HD1 := Lib.hid hd1
  clear h k hL1 hd1
  go_wp2_with fail
  refine (digits_any _ _ D m d y ys K1 E1.size).mono ?_
  rintro e w2 ⟨A2, k2, c2, l2, g1, g2, rfl, hL2, hb2, hN2, hd2⟩
  have hz2 : w1.heap.size < w2.heap.size := next_lt hb2
  have H2 := (H1.below hb2 E1.size).alloc (by omega) (.cells #[.int .i64 g1, .int .i64 g2] 24)
  have K2 := (K1.below hb2 E1.size).alloc (by omega) (.cells #[.int .i64 g1, .int .i64 g2] 24)
  have E2 : Below w.heap.size w (w2.alloc (.cells #[.int .i64 g1, .int .i64 g2] 24)) := (E1.trans (hb2.mono E1.size)).alloc (by omega) _
  have P1b := (P1a.below hb2 P1a.lt).alloc (.cells #[.int .i64 g1, .int .i64 g2] 24)
  have P2b := FC.new w2 g1 g2
  have L1b := (L1a.below hb2 (by simp)).alloc (by omega) (.cells #[.int .i64 g1, .int .i64 g2] 24)
  have L2b := hL2.alloc (Nat.le_refl _) (.cells #[.int .i64 g1, .int .i64 g2] 24)
  have HD2 := Lib.hid hd2
  clear H1 K1 E1 hL2 hd2 hb1 hb2 P1a L1a
  go_wp2_with fail
  refine (sums_any _).mono ?_
  rintro e w3 ⟨rfl, hb3⟩
  have hz3 : w2.heap.size < w3.heap.size := next_lt hb3
  have H3 := H2.below hb3 E2.size
  have K3 := K2.below hb3 E2.size
  have E3 := E2.trans (hb3.mono E2.size)
  have P1 := P1b.below hb3 P1b.lt
  have P2 := P2b.below hb3 P2b.lt
  have L1 := L1b.below hb3 (by simp; omega)
  have L2 := L2b.below hb3 (by simp)
  clear H2 K2 E2 hb3 P1b P2b L1b L2b
  obtain ⟨q10, q11, _⟩ := id P1
  obtain ⟨q20, q21, _⟩ := id P2
  have hlc1 := L1.cap
  have hlc2 := L2.cap
  by_cases hlong : 60 < n ∨ 60 < m
  · rcases (show 60 < n ∨ (n ≤ 60 ∧ 60 < m) by omega) with hh | hh
    all_goals
      clear hlong
      go_wp2_with fail
      refine (sums_any _).mono ?_
      rintro e w4 ⟨rfl, hb4⟩
      go_wp2_with fail
      go_ret
      exact ⟨by first | rfl | (simp; done), E3.trans (hb4.mono E3.size)⟩
  · have hn60 : n ≤ 60 := by omega
    have hm60 : m ≤ 60 := by omega
    clear hlong
    rcases HD1.out with ⟨rfl, rfl, hx, hy0, hy1, hr1⟩ | ⟨hf, rfl⟩
    · rcases HD2.out with ⟨rfl, rfl, hx2, _, _, hr2⟩ | ⟨hg, rfl⟩
      · obtain ⟨y, rfl⟩ := Int.eq_ofNat_of_zero_le (show 0 ≤ y by omega)
        rw [Int.toNat_natCast] at hr1 hr2
        have hy : 2 ≤ y ∧ y ≤ 36 := by omega
        obtain ⟨p, hp⟩ : ∃ p, p = vb 4294967296 xs := ⟨_, rfl⟩
        obtain ⟨q, hq⟩ : ∃ q, q = vb 4294967296 ys := ⟨_, rfl⟩
        obtain ⟨M, hM⟩ : ∃ M, M = 1920 := ⟨_, rfl⟩
        rw [← hp] at hr1
        rw [← hq] at hr2
        have hpM : p < 2 ^ M := by rw [hp]; exact lim60 H3.lim H3.len.out hn60 hM
        have hqM : q < 2 ^ M := by rw [hq]; exact lim60 K3.lim K3.len.out hm60 hM
        have HPp := Lib.hid hp
        have HQq := Lib.hid hq
        have HTx := Lib.hid (vld_top hx).1
        have hl1 : l1.length = k1 := L1.len.out
        have hl2 : l2.length = k2 := L2.len.out
        have hk1 : k1 ≤ M := cat_len hr1 hy.1 hl1 hpM
        have hk2 : k2 ≤ M := cat_len hr2 hy.1 hl2 hqM
        have hM0 : M ≤ 1920 := by omega
        have HFit := Lib.hid (show ∀ i, i ≤ k2 → p * y ^ i + q < Big from fun i hi => mv_fit hpM hqM (pow_top hr2 hy hl2 hqM) (by omega) hi hM)
        have HVal := Lib.hid (show vb y (l1 ++ l2).reverse = p * y ^ k2 + q by rw [cat_val hr1.val hr2.val, hl2])
        have HDig := Lib.hid (cat_dig hr1.dig hr2.dig)
        have N1 := Lib.hid L1.newsA
        have hnl1 := hN1
        have HX2 := Lib.hid hx2
        clear hM hp hq hpM hqM hr1 hr2 HD1 HD2 hx hx2
        have hoz : w3.ownsRow w3.heap.size 3 1 (.slice none 0 0) 0 (digs []) := World.ownsRow_nil _ _ _ _
        go_wp2_with (first
          | (at_builtin; refine wpList_append_any rfl _ _ 33 rfl w3.heap.size 3 i0 (.int .i64 0) 8 Try.underlying33 hi iz0 iz1 iz2 rfl (.slice none 0 0) 0 (digs []) rfl hoz A1 k1 c1 (digs l1) rfl hN1 (by simpa using hl1) N1.out (digs_one l1) (by unfold maxLen; omega) (by omega) (Nat.le_refl _) ?_; intro va wa howna hgra; have hba := app_first hgra; have L2a := L2.below hba (by omega); have N2 := Lib.hid L2a.newsA; have howna' : wa.ownsRow w3.heap.size 3 1 va k1 (digs l1) := (by simpa using howna); have hza := hba.size)
          | (at_builtin; refine wpList_append_any rfl _ _ 33 rfl w3.heap.size 3 i0 (.int .i64 0) 8 Try.underlying33 hi iz0 iz1 iz2 rfl va k1 (digs l1) rfl howna' A2 k2 c2 (digs l2) rfl hN2 (by simpa using hl2) N2.out (digs_one l2) (by unfold maxLen; omega) (by omega) hza ?_; intro vb1 wb hownb hgrb))
        have hbb : Below w3.heap.size w3 wb := hba.grown hgrb hza (fun k hk => (howna'.lt k hk).1)
        have hownb' : wb.ownsRow w3.heap.size 3 1 vb1 (k1 + k2) (digs (l1 ++ l2)) := by simpa [digs] using hownb
        obtain ⟨A3, c3, rfl, hc3, hc4⟩ := own_shape hownb'
        have hcd := own_drd hownb' (HDig.out.wide (by omega))
        have hzb := hbb.size
        have E4 := E3.trans (hbb.mono E3.size)
        have H4 := H3.below hbb E3.size
        have K4 := K3.below hbb E3.size
        clear hownb hownb' hgrb howna' howna hgra hba L2a N1 N2 H3 K3 E3 P1 P2 q10 q11 q20 q21
        go_wp2_with fail
        refine (from_ok _ _ A3 (k1 + k2) c3 y _ hcd (Nat.le_refl _) HDig.out hy).mono ?_
        intro e w5 hgb
        rw [HVal.out] at hgb
        obtain ⟨A5, k5, c5, z5, rfl, hX, hXr, hb5⟩ := (hgb.resolve_right (fun hh => absurd hh.1 (by have := HFit.out k2 (Nat.le_refl _); omega))).2
        have HX := Lib.hid hXr
        have hcx := hX.cap
        clear hgb hXr
        have hz5 := hb5.size
        have E5w := E4.trans (hb5.mono E4.size)
        have K5w := K4.below hb5 E4.size
        have X5w := hX
        have H5 := (H4.below hb5 E4.size).alloc (by omega) (.cells #[.int .i64 0, .int .i64 0] 24)
        have P5 := FC.new w5 0 0
        have hwz : w.heap.size ≤ w5.heap.size := by have := E4.size; omega
        clear H4 K4 E4 hb5 hX hcd hbb
        have N3 := Lib.hid H5.newsA
        have hoz2 : (w5.alloc (.cells #[.int .i64 0, .int .i64 0] 24)).ownsRow (w5.heap.size + 1) 58 1 (.slice none 0 0) 0 (limbs []) := World.ownsRow_nil _ _ _ _
        go_wp2_with (at_builtin; refine wpList_append_any rfl _ _ 22 rfl (w5.heap.size + 1) 58 i1 (.int .u32 0) 4 Try.underlying22 hi1 jz0 jz1 jz2 rfl (.slice none 0 0) 0 (limbs []) rfl hoz2 A n c (limbs xs) rfl hAn (by simpa using H5.len.out) N3.out (limbs_one xs) (by unfold maxLen; omega) (by omega) (by simp) ?_; intro vs ws howns hgrs)
        have hbs : Below (w5.heap.size + 1) (w5.alloc (.cells #[.int .i64 0, .int .i64 0] 24)) ws := (Below.refl _ _).grown hgrs (by simp) (fun k hk => by simp [Value.ownBlock] at hk)
        have howns' : ws.ownsRow (w5.heap.size + 1) 58 1 vs n (limbs xs) := by simpa using howns
        obtain ⟨A6, c6, rfl, hc6, hc7⟩ := own_shape howns'
        have hS := own_lrd32 howns' H5.lim
        have P6 := P5.below hbs (by omega)
        have E6 : Below w5.heap.size w5 ws := (bl1 w5 _).trans (hbs.mono (by omega))
        clear howns howns' hgrs N3 P5
        have hyv : vld [y] = true := rep_vld (rep1 y (by omega) (by omega)).top (by simp)
        have HS0 := Lib.hid hS
        have HR0 := Lib.hid (show Rep 4294967296 xs (p * y ^ 0) by rw [Nat.pow_zero, Nat.mul_one]; exact ⟨H5.lim, HPp.out.symm, HTx.out⟩)
        clear hS H5 hbs
        go_loopw [13, 14] (fun s i wr => MvRel k2 y p w5 i s wr) (fun _ i _ => k2 - (intOf i).toNat)
        case atStart => exact ⟨0, A6, n, c6, xs, by omega, rfl, rfl, HS0.out, HR0, E6, P6⟩
        case round =>
          clear HS0 HR0 E6 P6
          obtain ⟨j, A7, k7, c7, zs, hj, rfl, rfl, hS, hSr, hbw, hP⟩ := hrel
          have hsz := hbw.size
          have hcs := hS.cap
          have hk7 : k7 ≤ 600 := fit_small hSr.out hS.len.out (by have := HFit.out j hj; omega)
          have hzv := Lib.hid (rep_vld hSr.out.top (by have := hS.len.out; omega))
          obtain ⟨s0, s1, _, _⟩ := id hP
          by_cases h1 : j < k2
          · have hS2 := (hS.alloc (Nat.le_refl _) (.cells #[.int .u32 (y : Int)] 58)).more (Nat.le_succ wr.heap.size)
            have hBl := lrdB wr y (by omega)
            have hP2 := hP.alloc (.cells #[.int .u32 (y : Int)] 58)
            have hbw2 := hbw.alloc hsz (.cells #[.int .u32 (y : Int)] 58)
            have HMul := Lib.hid (mul_ok (wr.alloc (.cells #[.int .u32 (y : Int)] 58)) (wr.heap.size + 1) A7 (some ⟨wr.heap.size, 0, none⟩) k7 1 c7 1 zs [y] hS2 hBl (by simp) hzv.out hyv)
            clear hS2 hBl
            go_wp2_with fail
            refine HMul.out.mono ?_
            intro e w8 hgb
            rw [hSr.out.val, vb_one] at hgb
            obtain ⟨A8, k8, c8, z8, rfl, hl8, hr8, hb8⟩ := (hgb.resolve_right (fun hh => absurd hh.1 (by have := HFit.out (j + 1) h1; rw [Nat.pow_succ, ← Nat.mul_assoc] at this; omega))).2
            have hP8 := hP2.below hb8 hP2.lt
            have HR8 := Lib.hid (show Rep 4294967296 z8 (p * y ^ (j + 1)) by rw [Nat.pow_succ, ← Nat.mul_assoc]; exact hr8)
            have hb9 := hbw2.trans (hb8.mono (by simp; omega))
            obtain ⟨t0, t1, t2, t3⟩ := id hP8
            have t4 := t3 0
            have t5 := t3 1
            clear hgb hr8 HMul s0 s1
            go_wp2_with fail
            go_roundw
            case rel => exact ⟨j + 1, A8, k8, c8, z8, by omega, by go_num, rfl, (hl8.store hP8 0 0).more (by simp), HR8, (hb9.setCell (Nat.le_refl _) _).setCell (Nat.le_refl _) _, hP8.store 0 0⟩
            case measure => simp [intOf]; omega
          · obtain rfl : j = k2 := by omega
            have hKw := (K5w.below hbw hwz).more (Nat.le_trans hwz hsz)
            have HAdd := Lib.hid (add_ok wr wr.heap.size A7 D k7 m c7 d zs ys hS hKw (Nat.le_refl _) hzv.out HX2.out)
            clear hKw
            go_wp2_with fail
            refine HAdd.out.mono ?_
            intro e w9 hgb
            rw [hSr.out.val, ← HQq.out] at hgb
            obtain ⟨A9, k9, c9, z9, rfl, hl9, hr9, hb9⟩ := (hgb.resolve_right (fun hh => absurd hh.1 (by have := HFit.out j (Nat.le_refl _); omega))).2
            obtain rfl := HX.out.unique (by decide) hr9
            have hz9 := hb9.size
            have P9 := (hP.below hb9 hP.lt).alloc (.cells #[.int .i64 0, .int .i64 0] 24)
            have X9 := ((X5w.below hbw (Nat.le_refl _)).below hb9 hsz).alloc (by omega) (.cells #[.int .i64 0, .int .i64 0] 24)
            have S9 := hl9.alloc (Nat.le_refl _) (.cells #[.int .i64 0, .int .i64 0] 24)
            have E9 := ((E5w.trans (hbw.mono hwz)).trans (hb9.mono (Nat.le_trans hwz hsz))).alloc (by omega) (.cells #[.int .i64 0, .int .i64 0] 24)
            obtain ⟨t0, t1, _, _⟩ := id P9
            have hsb := sameB_refl z5
            clear hgb HAdd s0 s1
            go_wp2_with fail
            refine (sameLimbs_any _ w9.heap.size A5 A9 k5 k9 c5 c9 z5 z5 (X9.more (by omega)) S9).mono ?_
            rintro e w10 ⟨rfl, kk, hkk⟩
            go_wp2_with fail
            go_ret
            exact ⟨by first | rfl | (simp [hsb]; done), by first | exact below_drewN E9 kk | (rw [hkk]; exact below_drewN E9 kk)⟩
      · have hgf : (g1 != 0) = true := bne_iff_ne.2 hg
        rcases Nat.eq_zero_or_pos k1 with hk1 | hk1
        · subst hk1
          go_wp2_with fail
          go_ret
          exact ⟨by first | rfl | (simp; done), E3⟩
        · have hkf : ((k1 : Int) == 0) = false := beq_eq_false_iff_ne.2 (by omega)
          go_wp2_with fail
          go_ret
          exact ⟨by first | rfl | (simp; done), E3⟩
    · have hff : (f1 != 0) = true := bne_iff_ne.2 hf
      go_wp2_with fail
      go_ret
      exact ⟨by first | rfl | (simp; done), E3⟩
end Go.Proofs.Ytjkogajdpkbjeaa

namespace Go.Proofs.Ytjkogajdpkbjeaa.natDgm
open Go.ChangeShapes Go.WideShapes Go.ChangeAt Go.RowKit
set_option linter.unusedVariables false

theorem own : ownKnob Try.prog.godebug = none := by kernel_rfl
theorem laidOut : laidOutB Try.prog = true := by kernel_rfl

set_option maxRecDepth 100000 in
theorem lifted (os : Os) (started : os.Started) (H : Type) (enc : TypeId × Value → H) :
    ReturnsInHanded {} Try.checked os 7 .any (Rows.naturalDigitsMoveSpec.pre6 enc Try.prog Try.f7 Rows.naturalDigitsMoveRow.domain false) (Rows.naturalDigitsMoveSpec.post enc Try.prog Try.f7 false true false false) := by
  refine returnsInHanded_of_change (C := Try.checked) own started (by kernel_rfl) Try.func7
    (ChangeSpec.witness6 (enc := enc) (C := Try.checked) false ⟨#[], #[.slice none 0 0, .slice none 0 0, .int .i64 0], []⟩ 8 (by kernel_rfl) (by kernel_rfl) (by kernel_rfl) (by kernel_rfl)) ?_
  intro W base args ds gs before hval0 hW hcnd _
  have hval : ∀ (j : Nat) t v, Try.f7.params[j]? = some t → args[j]? = some v → Value.okWide Try.prog W .any base t v := hval0
  have hW' := hW
  obtain ⟨p, q, hA0, hV, rfl, hfz, hnd⟩ := hW
  have hA : DataW.TrodAll enc Try.prog W 0 (fun _ => true) true Try.f7.params.toList args.toList ds p := hA0
  rw [Try.params7] at hA hval
  obtain ⟨v0, vs0, d0, ds0, p0, q0, hargs, rfl, rfl, h0, r0⟩ := trodAll_cons hA
  obtain ⟨v1, vs1, d1, ds1, p1, q1, rfl, rfl, rfl, h1, r1⟩ := trodAll_cons r0
  obtain ⟨v2, vs2, d2, ds2, p2, q2, rfl, rfl, rfl, h2, r2⟩ := trodAll_cons r1
  obtain ⟨rfl, rfl, rfl⟩ := trodAll_nil r2
  obtain rfl : args = #[v0, v1, v2] := by cases args; simp_all
  obtain ⟨rfl, rfl⟩ := trodVars_none hV
  obtain ⟨a0, len0, cap0, rfl⟩ := okWide_slice Try.underlying22 (hval 0 22 v0 rfl rfl)
  obtain ⟨a1, len1, cap1, rfl⟩ := okWide_slice Try.underlying22 (hval 1 22 v1 rfl rfl)
  obtain ⟨a2, rfl, rfl, rfl, wx2⟩ := open_int Try.underlying3 (hval 2 3 v2 rfl rfl) h2
  have k0 := h0
  have k1 := h1
  have lt0 : ∀ x ∈ p0, x.block < W.heap.size := by obtain ⟨m, hm⟩ := k0; exact DataW.trod_lt m _ _ _ hm
  have lt1 : ∀ x ∈ p1, x.block < W.heap.size := by obtain ⟨m, hm⟩ := k1; exact DataW.trod_lt m _ _ _ hm
  have hn0 : a0 = none → len0 = 0 ∧ cap0 = 0 := by
    obtain ⟨fuel, hf⟩ := h0
    intro ha
    rcases open_ints Try.underlying22 Try.underlying58 (by kernel_rfl) hf with ⟨hcs, _⟩ | ⟨a, l, c, zs, hcs, _⟩
    · simp [Value.cells] at hcs
      exact ⟨hcs.2.1, hcs.2.2⟩
    · simp [Value.cells] at hcs
      rw [ha] at hcs; cases hcs.1
  obtain ⟨xs, w0⟩ : ∃ xs, LRd W W.heap.size a0 len0 cap0 xs := by
    obtain ⟨fuel, hf⟩ := h0
    exact lrd_open (fun _ => rfl) hf
  obtain ⟨ys, w1⟩ : ∃ ys, LRd W W.heap.size a1 len1 cap1 ys := by
    obtain ⟨fuel, hf⟩ := h1
    exact lrd_open (fun _ => rfl) hf
  clear hA0 hval0
  refine (move_any W a0 a1 len0 cap0 len1 cap1 a2 xs ys w0 w1 hn0).mono fun e W' ⟨he, bel⟩ => ?_
  subst he
  exact ⟨_, rfl, _, _, _, [], _, [], hW', trodAll_mk1 (shut_bool Try.underlying4 _),
    (trodAll_cons_mk (Below.trod laidOut (by kernel_rfl) (of_decide_eq_true (by kernel_rfl)) k0 bel lt0) (trodAll_cons_mk (Below.trod laidOut (by kernel_rfl) (of_decide_eq_true (by kernel_rfl)) k1 bel lt1) (trodAll_cons_mk (shut_int Try.underlying3 wx2) trodAll_mk0))), rfl, bel.frame _, fun h => by cases h⟩

theorem over : Rows.naturalDigitsMoveRow.holds Try.pinned (OpenSpec.ofChange Rows.naturalDigitsMoveSpec) :=
  OpenClaim.holds_of_wide 7 Try.f7 rfl rfl rfl rfl rfl rfl rfl ⟨rfl, rfl, rfl, rfl, rfl⟩ rfl rfl rfl rfl rfl (by kernel_rfl) Try.func7 (by kernel_rfl)
    (of_decide_eq_true (by kernel_rfl)) (by unfold Func.isWrapper; first | (rw [if_pos (by decide +kernel)]; kernel_rfl) | (rw [if_neg (by decide +kernel)]; exact ⟨rfl, rfl⟩))
    (fun os started H enc _ => lifted os started H enc)

theorem naturalDigitsMove_said : Rows.NaturalDigitsMoveSaid := over
#print axioms naturalDigitsMove_said
end Go.Proofs.Ytjkogajdpkbjeaa.natDgm
