/- An append of a make to a row of the call's own. -/
import Derived.Test.YtpjfoggohhlbdaaVe
import Derived.Lib.AppendZeros
import Derived.Laws.OwnMore
namespace Go.Proofs.Ytpjfoggohhlbdaa
open Go.RowKit
set_option maxHeartbeats 400000
set_option maxRecDepth 100000
set_option linter.unusedSimpArgs false
set_option linter.unusedVariables false

section
variable {P : Program}
theorem zeros_list (z : Value) (m : Nat) : (Builtin.zeroCells #[z] m).toList = List.replicate m z := by
  refine List.ext_getElem (by simp [Builtin.zeroCells]) fun j h1 h2 => ?_
  simp [Builtin.zeroCells, Nat.mod_one]
theorem run_append_zeros (w : World) (base : Nat) (t tn ty e : TypeId) (i : TypeInfo) (z : Value) (k kn : IntKind) (ht : P.underlying t = some (.slice e)) (htn : P.underlying tn = some (.int kn)) (hi : P.info? e = some i) (hz : i.zero = some z) (hsize : i.size = 1) (hby : i.bytes = 1) (hzc : z.cells = #[z]) (hz1 : z.oneCell' = true)
    (v : Value) (n : Nat) (xs : List Value) (hown : w.ownsRow base e 1 v n xs) (m : Nat) (h0 : 0 < m) (hm : n + m ≤ 1000000000) (hbase : base ≤ w.heap.size) :
    ∃ v' w', (Builtin.append_ #[t, tn] ty #[v, .int k m]).run P w = .ok v' w' ∧ w'.ownsRow base e 1 v' (n + m) (xs ++ List.replicate m z) ∧ w.grownBy w' v.ownBlock := by
  have hxl : xs.length = n := by have := hown.1; omega
  have hn0 : m ≠ 0 := by omega
  have hw : IntKind.i64.wrap (m : Int) = m := by rw [IntKind.wrap_i64]; omega
  have h48i : ¬ (281474976710656 < (m : Int)) := by omega
  have hneg : ¬ ((m : Int) < 0) := by omega
  have hrep : (List.replicate m z).length = m := by simp
  have hll : (xs ++ List.replicate m z).length = (n + m) * 1 := by rw [List.length_append, hxl, hrep, Nat.mul_one]
  have lays : ∀ (cap : Nat), n + m ≤ grownCap w (n + m) cap e → grownCap w (n + m) cap e ≤ maxLen → ∀ row : Option Nat,
      (w.drew.alloc (.cells ((xs.toArray ++ Builtin.zeroCells #[z] m) ++ Builtin.zeroCells #[z] (grownCap w (n + m) cap e - (n + m))) e)).ownsRow base e 1 (.slice (some ⟨w.heap.size, 0, none⟩) (n + m) (grownCap w (n + m) cap e)) (n + m) (xs ++ List.replicate m z) ∧
      w.grownBy (w.drew.alloc (.cells ((xs.toArray ++ Builtin.zeroCells #[z] m) ++ Builtin.zeroCells #[z] (grownCap w (n + m) cap e - (n + m))) e)) row := by
    intro cap hge hcm row
    refine ⟨⟨hll, .inr ⟨w.heap.size, _, _, rfl, hbase, heap_alloc_new w.drew _, hge, hcm, ?_, ?_⟩⟩, ⟨rfl, rfl, rfl, by simp, fun k hk _ => Below.heap_alloc w.drew _ k hk⟩⟩
    · simp only [Array.size_append, List.size_toArray, size_zeroCells, hxl]
      simp; omega
    · rw [Array.toList_append, Array.toList_append, zeros_list, ← hll]
      exact List.take_left
  rcases hown.2 with ⟨rfl, rfl⟩ | ⟨g, cap, cur, rfl, hbg, hg, hnc, hcm, hcs, htake⟩
  · have hx : xs = [] := List.eq_nil_of_length_eq_zero hxl
    subst hx
    have hr := Lib.run_append_nil_zeros (P := P) w t tn ty e i z k kn ht htn hi hz m h0 (by omega) (by omega) (by rw [hby]; omega)
    rw [hzc] at hr
    have hge := grownCap_ge w m 0 e
    have hcm := grownCap_le_maxLen w m 0 e (by unfold maxLen; omega)
    have hl := lays 0 (by rw [Nat.zero_add]; exact hge) (by rw [Nat.zero_add]; exact hcm) (Value.ownBlock (.slice none 0 0))
    rw [Nat.zero_add] at hl ⊢
    refine ⟨_, _, hr, ?_, ?_⟩
    · simpa using hl.1
    · simpa using hl.2
  · have hcap : cur.size = cap := by rw [hcs]; omega
    by_cases hroom : n + m ≤ cap
    · have hst := run_storeCells_at P g (n * 1) e (List.replicate m z) 0 cur w hg (by rw [hrep, hcap]; omega) (fun u hu => by rw [List.eq_of_mem_replicate hu]; exact hz1)
      simp only [Nat.add_zero, Nat.mul_one] at hst
      have hr : (Builtin.append_ #[t, tn] ty #[.slice (some ⟨g, 0, none⟩) n cap, .int k m]).run P w = .ok (.slice (some ⟨g, 0, none⟩) (n + m) cap) (w.setRow g (cur.toList.take n ++ List.replicate m z ++ cur.toList.drop (n + (List.replicate m z).length)).toArray) := by
        simp [Builtin.append_, run_underlying ht, run_underlying htn, sizeOf, typeInfo, zeroValue, hi, hz, hsize, hby, hzc, asInt, asIntOf, hw, hn0, hneg, h48i, hroom, Addr.add_lit, zeros_list]
        simp [hrep, List.append_assoc] at hst
        exact hst ▸ rfl
      refine ⟨_, _, hr, ⟨hll, .inr ⟨g, cap, _, rfl, hbg, setRow_heap w g cur _ e _ hg, hroom, hcm, ?_, ?_⟩⟩, ⟨rfl, rfl, rfl, by simp, fun k _ hk => setRow_other w g k _ (fun e => hk (by simp [Value.ownBlock, e]))⟩⟩
      · simp; omega
      · rw [Nat.mul_one] at htake
        rw [List.toList_toArray, htake, ← hll]
        exact List.take_left
    · have holds : ∀ j u, xs[j]? = some u → w.cell? ((⟨g, 0, none⟩ : Addr).add j) = some u := hown.cells (g := g) rfl
      have hfo := run_firstCells_some (P := P) w.drew i.size n ⟨g, 0, none⟩ n cap xs (by rw [hxl, hsize, Nat.mul_one]) (by simpa using holds)
      rw [hsize] at hfo
      have h63' : ¬ (9223372036854775807 < ((n : Int) + (m : Int))) := by omega
      have hfit := growslice_fits (bytes := 1) (show cap < n + m by omega) (by omega)
      have h48' : ¬ (281474976710656 < Builtin.nextslicecap (n + m) cap) := by omega
      have hr : (Builtin.append_ #[t, tn] ty #[.slice (some ⟨g, 0, none⟩) n cap, .int k m]).run P w = .ok (.slice (some ⟨w.heap.size, 0, none⟩) (n + m) (grownCap w (n + m) cap e)) (w.drew.alloc (.cells ((xs.toArray ++ Builtin.zeroCells #[z] m) ++ Builtin.zeroCells #[z] (grownCap w (n + m) cap e - (n + m))) e)) := by
        simp [Builtin.append_, run_underlying ht, run_underlying htn, sizeOf, typeInfo, zeroValue, hi, hz, hsize, hby, hzc, asInt, asIntOf, hw, hn0, hneg, h48i, hroom, h63', h48', Question.forced, hfo, newRow, grownCap]
      have hge := grownCap_ge w (n + m) cap e
      have hcm2 := grownCap_le_maxLen w (n + m) cap e (by unfold maxLen; omega)
      have hl := lays cap hge hcm2 (Value.ownBlock (.slice (some ⟨g, 0, none⟩) n cap))
      exact ⟨_, _, hr, hl.1, hl.2⟩
end
theorem own_take {w : World} {base n c k : Nat} {T : TypeId} {A : Option Addr} {vs : List Value} (h : w.ownsRow base T 1 (.slice A n c) n vs) (hk : k ≤ n) : w.ownsRow base T 1 (.slice A k c) k (vs.take k) := by
  have hl : vs.length = n := by have := h.1; omega
  refine ⟨by rw [List.length_take]; omega, ?_⟩
  rcases h.2 with ⟨e, h0⟩ | ⟨g, cap, cur, e, h1, h2, h3, h4, h5, h6⟩
  · injection e with e1 e2 e3
    subst e1; subst e3
    obtain rfl : k = 0 := by omega
    exact .inl ⟨rfl, rfl⟩
  · injection e with e1 e2 e3
    subst e1; subst e3
    refine .inr ⟨g, c, cur, rfl, h1, h2, by omega, h4, h5, ?_⟩
    rw [← h6, List.take_take, Nat.mul_one, Nat.mul_one, Nat.min_eq_left hk]
/-- Binary digits in a row of the call's own. -/
def GivesW (w : World) (p : Nat) (e : Ending) (w' : World) : Prop :=
  ∃ A k c zs, e = .returned (.slice A k c) ∧ w'.ownsRow w.heap.size 4 1 (.slice A k c) k (bools zs) ∧ zs.length = k ∧ Rep 2 zs p ∧ Below w.heap.size w w'
theorem trimmedW {w w0 : World} {n c k p : Nat} {A : Option Addr} {zs : List Nat} (ho : w.ownsRow w0.heap.size 4 1 (.slice A n c) n (bools zs)) (h : ORd w w.heap.size A n c zs) (ht : TrimTo n zs k) (hb : Below w0.heap.size w0 w) (hv : vb 2 zs = p) : GivesW w0 p (.returned (.slice A k c)) w := by
  have hk := ht.le
  have hl := h.len.out
  have e : (zs.take k).length = k := by rw [List.length_take]; omega
  subst hv
  refine ⟨A, k, c, zs.take k, rfl, ?_, e, ⟨fun x hx => h.lim x (List.mem_of_mem_take hx), vb_take_of_zeros (by omega) (fun j h1 h2 => ht.zeros j h1 (by omega)), fun m hm => ?_⟩, hb⟩
  · have := own_take ho hk
    rw [show bools (zs.take k) = (bools zs).take k by simp [bools, List.map_take]]
    exact this
  · rw [getD_take, if_pos (by omega)]
    exact ht.top m (by omega)
set_option maxHeartbeats 4000000 in
theorem ones_own (w : World) (B : Nat) (A : Option Addr) (n c : Nat) (xs : List Nat) (h : DRd w B A n c xs) (hB : B ≤ w.heap.size) (hM : n ≤ 100000000000) :
    Calls Try.prog 29 #[.slice A n c] w (GivesW w (vb 65536 xs)) := by
  obtain ⟨i0, hi, hz0, hz1, hz2⟩ := info_parts infoB
  have hcap := h.cap
  have hxl := Lib.hid h.len.out
  go_enter Try.func29, Try.ntmps29
  go_wp2_with fail
  go_loopw [3, 4] (OnRel n xs w) (fun _ i _ => n - (intOf i).toNat)
  case atStart => exact ⟨0, [], by omega, rfl, World.ownsRow_nil _ _ _ _, rfl, (by intro x hx; cases hx), Below.refl _ _, (by show _ = _; simp [S_zero])⟩
  case round =>
    obtain ⟨k, zs0, hk, rfl, hown0, hzl0, hzd0, hb0, HS0⟩ := hrel
    have hsz0 := hb0.size
    by_cases h1 : k < n
    · obtain ⟨b, off, rfl, hb, hc⟩ := h.rd (by omega)
      have g1 := (hb0.cell (p := ⟨b, off + k, none⟩) (by show b < _; omega)).trans (hc k (by omega))
      have a1 := nth_nn xs k
      have a2 := h.lim.nth k
      have HST := Lib.hid (on_start HS0.out)
      clear hc
      obtain ⟨wo, hwo⟩ : ∃ wo : World, wo = wr := ⟨_, rfl⟩
      go_wp2_with fail
      go_loopw [3, 5, 6] (OiRel k xs w) (fun _ _ j _ => 16 - (intOf j).toNat)
      case atStart => exact ⟨0, nth xs k, zs0, by omega, rfl, rfl, a1, a2, (by show _ < _; exact a2), hown0, (by show _ = _; rw [hzl0.out, Nat.add_zero]), hzd0, hb0, HST.out⟩
      case round =>
        clear hown0 hzl0 hzd0 hb0 hsz0 HST a1 a2 g1
        obtain ⟨t, v, zs, ht, rfl, rfl, v0, v1, hvt, hown, hzl, hzd, hbw, HS⟩ := hrel
        have hsz := hbw.size
        have hzn : zs.length ≤ 16 * n := by have := hzl.out; omega
        by_cases h2 : t < 16
        · have ST := Lib.hid (on_step (xs := xs) hzl.out v0 HS.out)
          have hv2 := Lib.hid (on_half hvt.out h2)
          go_wp2_with (at_builtin; refine wpList_append_own _ rfl _ _ 45 rfl w.heap.size 4 i0 (.bool false) 1 1 Try.underlying45 hi hz0 hz1 hz2 rfl (by decide) _ _ _ rfl (hown.alloc _) ⟨wr.heap.size, 0, none⟩ 1 1 [.bool (v % 2 == 1)] rfl rfl (cell_one_new _ _ _) (fun u hu => by simp at hu; subst hu; rfl) (by unfold maxLen; omega) (by omega) (by first | (simp; omega) | omega) ?_; intro v' w1 hown' hgrow _)
          obtain ⟨ho, hb1⟩ := own_nextB (Int.emod_nonneg _ (by decide)) hbw hown hown' hgrow
          clear hown hown' hgrow
          go_wp2_with fail
          go_roundw
          case rel => exact ⟨t + 1, v / 2, _, by omega, by go_num, rfl, by omega, by omega, hv2, ho, (by show _ = _; rw [List.length_append, hzl.out]; rfl), hzd.snoc2 (by omega), hb1, ST.out⟩
          case measure => simp [intOf]; omega
        · obtain rfl : t = 16 := by omega
          have SN := Lib.hid (on_end v0 hvt.out HS.out)
          go_wp2_with fail
          go_roundw
          case rel => exact ⟨k + 1, zs, by omega, by go_num, hown, (by show _ = _; rw [hzl.out]; omega), hzd, hbw, SN.out⟩
          case measure => simp [intOf]; omega
    · obtain rfl : k = n := by omega
      have HV := Lib.hid (show vb 2 zs0 = vb 65536 xs by unfold vb; rw [hzl0.out, hxl.out]; exact HS0.out)
      obtain ⟨A', c', rfl, hc1, hc2⟩ := own_shape hown0
      have hor := own_ord hown0 hzd0
      have hcz := hor.cap
      have hown1 := hown0
      obtain ⟨q, hq⟩ : ∃ q, q = zs0.length := ⟨_, rfl⟩
      rw [← hq] at hor hcz hown1
      have HOW := Lib.hid hown1
      clear hown1
      rw [← hq]
      obtain ⟨wo, hwo⟩ : ∃ wo : World, wo = wr := ⟨_, rfl⟩
      go_wp2_with fail
      go_loop [3] (OtRel q zs0 A' c') (fun v => slen v)
      case atStart => exact ⟨q, Nat.le_refl _, rfl, fun j h1 h2 => absurd h1 (by omega)⟩
      case round =>
        obtain ⟨e, he, rfl, hz⟩ := hrel
        have HZ := Lib.hid hz
        clear hz
        by_cases h0 : e = 0
        · subst h0
          go_wp2_with fail
          go_ret
          exact trimmedW HOW.out hor ⟨Nat.zero_le _, HZ.out, fun m hm => by omega⟩ hb0 HV.out
        · obtain ⟨b, off, rfl, hb, hc⟩ := hor.rd (by omega)
          obtain ⟨m, rfl⟩ : ∃ m, e = m + 1 := ⟨e - 1, by omega⟩
          have hcell : wr.cell? ⟨b, off + m, none⟩ = some (.bool (bt zs0 m)) := hc m (by omega)
          clear hc h0
          by_cases hx : bt zs0 m = true
          · have HX := Lib.hid (bt_true hx)
            rw [hx] at hcell
            go_wp2_with fail
            go_ret
            exact trimmedW HOW.out hor ⟨by omega, HZ.out, fun i hi => by rw [show i = m by omega, HX.out]; omega⟩ hb0 HV.out
          · have hx' : bt zs0 m = false := by simpa using hx
            have HX := Lib.hid (bt_false hzd0 hx')
            rw [hx'] at hcell
            clear hx
            go_wp2_with fail
            go_round
            case rel => exact ⟨m, by omega, rfl, fun j h1 h2 => by rcases Nat.lt_or_ge m j with h3 | h3; exact HZ.out j (by omega) h2; rw [show j = m by omega]; exact HX.out⟩
            case measure => simp [slen]
end Go.Proofs.Ytpjfoggohhlbdaa
