/- The reference's Ones: binary digits, as lists of bools. -/
import Derived.Test.YtjkogajdpkbjeaaPlus
import Derived.Test.YtjkogajdpkbjeaaBits
import Derived.Deep.QuietTactic
import Derived.BigQuiet
namespace Go.Proofs.Ytjkogajdpkbjeaa
open Go.RowKit
set_option maxHeartbeats 400000
set_option maxRecDepth 100000
set_option linter.unusedSimpArgs false
set_option linter.unusedVariables false

/-- Binary digit j, as a bool. -/
@[irreducible] def bt (xs : List Nat) (j : Nat) : Bool := xs.getD j 0 == 1
theorem bt_true {xs : List Nat} {j : Nat} (h : bt xs j = true) : xs.getD j 0 = 1 := by unfold bt at h; exact beq_iff_eq.1 h
theorem bt_false {xs : List Nat} {j : Nat} (hd : Dig 2 xs) (h : bt xs j = false) : xs.getD j 0 = 0 := by
  unfold bt at h
  have h1 := beq_eq_false_iff_ne.1 h
  have h2 := Dig.at_ hd (by decide) j
  omega
abbrev bools (xs : List Nat) : List Value := xs.map fun (x : Nat) => Value.bool (x == 1)
structure ORd (w : World) (B : Nat) (A : Option Addr) (n c : Nat) (xs : List Nat) : Prop where
  len : Hid (xs.length = n)
  cap : n ≤ c ∧ c ≤ 9223372036854775807
  lim : Dig 2 xs
  rd : Rd w B A n (fun j => .bool (bt xs j))
section
variable {w w' : World} {B B' n m c : Nat} {A : Option Addr} {xs : List Nat}
theorem ORd.keep (h : ORd w B A n c xs) (hk : ∀ p : Addr, p.block < B → w'.cell? p = w.cell? p) : ORd w' B A n c xs := ⟨h.len, h.cap, h.lim, h.rd.keep hk⟩
theorem ORd.more (h : ORd w B A n c xs) (hB : B ≤ B') : ORd w B' A n c xs := ⟨h.len, h.cap, h.lim, h.rd.more hB⟩
theorem ORd.below (h : ORd w B A n c xs) (hb : Below B' w w') (hB : B ≤ B') : ORd w' B A n c xs := ⟨h.len, h.cap, h.lim, h.rd.below hb hB⟩
theorem ORd.alloc (h : ORd w B A n c xs) (hB : B ≤ w.heap.size) (o : Obj) : ORd (w.alloc o) B A n c xs := h.keep fun p hp => World.cell?_alloc_lt w o p (by omega)
end
theorem infoB : (Try.prog.info? 4).map (fun i => (i.zero, i.size, i.bytes)) = some (some (.bool false), 1, 1) := by kernel_rfl
/-- What the call owns, read. -/
theorem own_rd {w : World} {base n c : Nat} {T : TypeId} {A : Option Addr} {vs : List Value} (h : w.ownsRow base T 1 (.slice A n c) n vs) :
    n ≤ c ∧ c ≤ 9223372036854775807 ∧ vs.length = n ∧ Rd w w.heap.size A n (fun j => vs.getD j undef) := by
  have hl : vs.length = n := by have := h.1; omega
  obtain ⟨A', c', e, h1, h2⟩ := own_shape h
  injection e with e1 e2 e3
  subst e3
  refine ⟨h1, h2, hl, fun hn => ?_⟩
  rcases h.2 with ⟨_, h0⟩ | ⟨g, cap, cur, hv, hg, hh, _, _, _, h3⟩
  · omega
  · injection hv with e1 e2 e3
    subst e1
    have hR : Row w g T (vs ++ cur.toList.drop (n * 1)) := by
      unfold Row
      rw [← h3, List.take_append_drop, hh]
    refine ⟨g, 0, rfl, hR.lt, fun j hj => ?_⟩
    show _ = some (vs.getD j undef)
    rw [Nat.zero_add, hR.cell, List.getElem?_append_left (by omega), List.getD_eq_getElem?_getD]
    rw [List.getElem?_eq_getElem (by omega)]
    rfl
theorem own_ord {w : World} {base n c : Nat} {A : Option Addr} {zs : List Nat} (h : w.ownsRow base 4 1 (.slice A n c) n (bools zs)) (hd : Dig 2 zs) : ORd w w.heap.size A n c zs := by
  obtain ⟨h1, h2, h3, h4⟩ := own_rd h
  have hl : zs.length = n := by simpa using h3
  refine ⟨hl, ⟨h1, h2⟩, hd, h4.congr fun j hj => ?_⟩
  unfold bt
  simp [show j < zs.length by omega]
theorem bools_snoc (zs : List Nat) {v : Int} (hv : 0 ≤ v) : bools (zs ++ [v.toNat]) = bools zs ++ [.bool (v == 1)] := by
  obtain ⟨v, rfl⟩ := Int.eq_ofNat_of_zero_le hv
  simp [bools]
  rcases Nat.decEq v 1 with e | e
  · rw [beq_eq_false_iff_ne.2 e, beq_eq_false_iff_ne.2 (by omega)]
  · subst e; rfl
theorem own_nextB {w wr w1 : World} {v v' : Value} {zs : List Nat} {x : Int} {o : Obj} (hx : 0 ≤ x) (hb : Below w.heap.size w wr) (hown : wr.ownsRow w.heap.size 4 1 v zs.length (bools zs))
    (hown' : w1.ownsRow w.heap.size 4 1 v' (zs.length + 1) (bools zs ++ [.bool (x == 1)])) (hg : (wr.alloc o).grownBy w1 v.ownBlock) :
    w1.ownsRow w.heap.size 4 1 v' (zs ++ [x.toNat]).length (bools (zs ++ [x.toNat])) ∧ Below w.heap.size w w1 := by
  refine ⟨by rw [bools_snoc zs hx, List.length_append]; exact hown', ?_⟩
  exact (hb.alloc hb.size o).grown hg (by have := hb.size; simp; omega) (fun k hk => (hown.lt k hk).1)
theorem Dig.snoc2 {zs : List Nat} {x : Nat} (h : Dig 2 zs) (hx : x < 2) : Dig 2 (zs ++ [x]) := by
  intro y hy
  rcases List.mem_append.1 hy with e | e
  · exact h y e
  · rw [List.mem_singleton] at e; omega
/-- What a function gives that makes binary digits. -/
def GivesO (w : World) (p : Nat) (e : Ending) (w' : World) : Prop :=
  ∃ A k c zs, e = .returned (.slice A k c) ∧ ORd w' w'.heap.size A k c zs ∧ Rep 2 zs p ∧ Below w.heap.size w w'
def OnRel (n : Nat) (xs : List Nat) (w : World) (out i : Value) (wr : World) : Prop :=
  ∃ (k : Nat) (zs : List Nat), k ≤ n ∧ i = .int .i64 k ∧ wr.ownsRow w.heap.size 4 1 out zs.length (bools zs) ∧ Hid (zs.length = 16 * k) ∧ Dig 2 zs ∧ Below w.heap.size w wr ∧
    Hid (S 2 (fun i => zs.getD i 0) (16 * k) = S 65536 (fun i => xs.getD i 0) k)
def OiRel (k : Nat) (xs : List Nat) (w : World) (out x j : Value) (wr : World) : Prop :=
  ∃ (t : Nat) (v : Int) (zs : List Nat), t ≤ 16 ∧ j = .int .i64 t ∧ x = .int .i64 v ∧ 0 ≤ v ∧ v < 65536 ∧ Hid (v < 2 ^ (16 - t)) ∧ wr.ownsRow w.heap.size 4 1 out zs.length (bools zs) ∧ Hid (zs.length = 16 * k + t) ∧ Dig 2 zs ∧ Below w.heap.size w wr ∧
    Hid (S 2 (fun i => zs.getD i 0) (16 * k + t) + v.toNat * 2 ^ (16 * k + t) = S 65536 (fun i => xs.getD i 0) (k + 1))
theorem on_start {zs xs : List Nat} {k : Nat} (h : S 2 (fun i => zs.getD i 0) (16 * k) = S 65536 (fun i => xs.getD i 0) k) :
    S 2 (fun i => zs.getD i 0) (16 * k + 0) + (nth xs k).toNat * 2 ^ (16 * k + 0) = S 65536 (fun i => xs.getD i 0) (k + 1) := by
  rw [S_succ, Nat.add_zero, h, show (65536 : Nat) ^ k = 2 ^ (16 * k) by rw [Nat.pow_mul]]
  unfold nth
  rw [Int.toNat_natCast]
theorem on_nat {z d x y P : Nat} (h : d + 2 * y = x) : z + d * P + y * (P * 2) = z + x * P := by subst h; grind
theorem on_step {zs xs : List Nat} {m : Nat} {v : Int} {R : Nat} (hk : zs.length = m) (hv : 0 ≤ v) (h : S 2 (fun i => zs.getD i 0) m + v.toNat * 2 ^ m = R) :
    S 2 (fun i => (zs ++ [(v % 2).toNat]).getD i 0) (m + 1) + (v / 2).toNat * 2 ^ (m + 1) = R := by
  rw [S_snoc hk, Nat.pow_succ, ← h]
  exact on_nat (by omega)
theorem on_half {v : Int} {t : Nat} (h : v < 2 ^ (16 - t)) (ht : t < 16) : v / 2 < 2 ^ (16 - (t + 1)) := by
  rw [show 16 - t = (16 - (t + 1)) + 1 by omega, Int.pow_succ] at h
  omega
theorem on_end {zs xs : List Nat} {k : Nat} {v : Int} (h0 : 0 ≤ v) (h1 : v < 2 ^ (16 - 16)) (h : S 2 (fun i => zs.getD i 0) (16 * k + 16) + v.toNat * 2 ^ (16 * k + 16) = S 65536 (fun i => xs.getD i 0) (k + 1)) :
    S 2 (fun i => zs.getD i 0) (16 * (k + 1)) = S 65536 (fun i => xs.getD i 0) (k + 1) := by
  simp at h1
  obtain rfl : v = 0 := by omega
  rw [← h, show 16 * (k + 1) = 16 * k + 16 by omega]
  simp
def OtRel (n : Nat) (zs : List Nat) (A : Option Addr) (c : Nat) (v : Value) : Prop := ∃ k, k ≤ n ∧ v = .slice A k c ∧ ∀ j, k ≤ j → j < n → zs.getD j 0 = 0
theorem trimmed2 {w w0 : World} {n c k p : Nat} {A : Option Addr} {zs : List Nat} (h : ORd w w.heap.size A n c zs) (ht : TrimTo n zs k) (hb : Below w0.heap.size w0 w) (hv : vb 2 zs = p) : GivesO w0 p (.returned (.slice A k c)) w := by
  have hk := ht.le
  have hl := h.len.out
  have e : (zs.take k).length = k := by rw [List.length_take]; omega
  subst hv
  refine ⟨A, k, c, zs.take k, rfl, ⟨e, ⟨by have := h.cap; omega, h.cap.2⟩, fun x hx => h.lim x (List.mem_of_mem_take hx), ?_⟩, ⟨fun x hx => h.lim x (List.mem_of_mem_take hx), vb_take_of_zeros (by omega) (fun j h1 h2 => ht.zeros j h1 (by omega)), fun m hm => ?_⟩, hb⟩
  · refine (h.rd.take hk).congr fun j hj => ?_
    unfold bt
    rw [getD_take, if_pos hj]
  · rw [getD_take, if_pos (by omega)]
    exact ht.top m (by omega)

set_option maxHeartbeats 4000000 in
theorem ones_any (w : World) (B : Nat) (A : Option Addr) (n c : Nat) (xs : List Nat) (h : DRd w B A n c xs) (hB : B ≤ w.heap.size) (hM : n ≤ 100000000000) :
    Calls Try.prog 31 #[.slice A n c] w (GivesO w (vb 65536 xs)) := by
  obtain ⟨i0, hi, hz0, hz1, hz2⟩ := info_parts infoB
  have hcap := h.cap
  have hxl := Lib.hid h.len.out
  go_enter Try.func31, Try.ntmps31
  go_wp2_with fail
  go_loopw [3, 4] (OnRel n xs w) (fun _ i _ => n - (intOf i).toNat)
  case atStart => exact ⟨0, [], by omega, rfl, World.ownsRow_nil _ _ _ _, rfl, (by intro x hx; cases hx), Below.refl _ _, (by show _ = _; simp [S_zero])⟩
  case round =>
    obtain ⟨k, zs0, hk, rfl, hown0, hzl0, hzd0, hb0, HS0⟩ := hrel
    have hsz0 := hb0.size
    by_cases h1 : k < n
    · obtain ⟨b, off, rfl, hb, hc⟩ := h.rd (by omega)
      have g1 := (hb0.cell (p := ⟨b, off + k, none⟩) (by show b < _; omega)).trans (hc k (by omega))
      have a1 := nth_nn xs k
      have a2 := h.lim.nth k
      have HST := Lib.hid (on_start HS0.out)
      clear hc
      obtain ⟨wo, hwo⟩ : ∃ wo : World, wo = wr := ⟨_, rfl⟩
      go_wp2_with fail
      go_loopw [3, 5, 6] (OiRel k xs w) (fun _ _ j _ => 16 - (intOf j).toNat)
      case atStart => exact ⟨0, nth xs k, zs0, by omega, rfl, rfl, a1, a2, (by show _ < _; exact a2), hown0, (by show _ = _; rw [hzl0.out, Nat.add_zero]), hzd0, hb0, HST.out⟩
      case round =>
        clear hown0 hzl0 hzd0 hb0 hsz0 HST a1 a2 g1
        obtain ⟨t, v, zs, ht, rfl, rfl, v0, v1, hvt, hown, hzl, hzd, hbw, HS⟩ := hrel
        have hsz := hbw.size
        have hzn : zs.length ≤ 16 * n := by have := hzl.out; omega
        by_cases h2 : t < 16
        · have ST := Lib.hid (on_step (xs := xs) hzl.out v0 HS.out)
          have hv2 := Lib.hid (on_half hvt.out h2)
          go_wp2_with (at_builtin; refine wpList_append_own _ rfl _ _ 46 rfl w.heap.size 4 i0 (.bool false) 1 1 Try.underlying46 hi hz0 hz1 hz2 rfl (by decide) _ _ _ rfl (hown.alloc _) ⟨wr.heap.size, 0, none⟩ 1 1 [.bool (v % 2 == 1)] rfl rfl (cell_one_new _ _ _) (fun u hu => by simp at hu; subst hu; rfl) (by unfold maxLen; omega) (by omega) (by first | (simp; omega) | omega) ?_; intro v' w1 hown' hgrow _)
          obtain ⟨ho, hb1⟩ := own_nextB (Int.emod_nonneg _ (by decide)) hbw hown hown' hgrow
          clear hown hown' hgrow
          go_wp2_with fail
          go_roundw
          case rel => exact ⟨t + 1, v / 2, _, by omega, by go_num, rfl, by omega, by omega, hv2, ho, (by show _ = _; rw [List.length_append, hzl.out]; rfl), hzd.snoc2 (by omega), hb1, ST.out⟩
          case measure => simp [intOf]; omega
        · obtain rfl : t = 16 := by omega
          have SN := Lib.hid (on_end v0 hvt.out HS.out)
          go_wp2_with fail
          go_roundw
          case rel => exact ⟨k + 1, zs, by omega, by go_num, hown, (by show _ = _; rw [hzl.out]; omega), hzd, hbw, SN.out⟩
          case measure => simp [intOf]; omega
    · obtain rfl : k = n := by omega
      have HV := Lib.hid (show vb 2 zs0 = vb 65536 xs by unfold vb; rw [hzl0.out, hxl.out]; exact HS0.out)
      obtain ⟨A', c', rfl, hc1, hc2⟩ := own_shape hown0
      have hor := own_ord hown0 hzd0
      have hcz := hor.cap
      obtain ⟨q, hq⟩ : ∃ q, q = zs0.length := ⟨_, rfl⟩
      rw [← hq] at hor hcz
      rw [← hq]
      obtain ⟨wo, hwo⟩ : ∃ wo : World, wo = wr := ⟨_, rfl⟩
      go_wp2_with fail
      go_loop [3] (OtRel q zs0 A' c') (fun v => slen v)
      case atStart => exact ⟨q, Nat.le_refl _, rfl, fun j h1 h2 => absurd h1 (by omega)⟩
      case round =>
        obtain ⟨e, he, rfl, hz⟩ := hrel
        have HZ := Lib.hid hz
        clear hz
        by_cases h0 : e = 0
        · subst h0
          go_wp2_with fail
          go_ret
          exact trimmed2 hor ⟨Nat.zero_le _, HZ.out, fun m hm => by omega⟩ hb0 HV.out
        · obtain ⟨b, off, rfl, hb, hc⟩ := hor.rd (by omega)
          obtain ⟨m, rfl⟩ : ∃ m, e = m + 1 := ⟨e - 1, by omega⟩
          have hcell : wr.cell? ⟨b, off + m, none⟩ = some (.bool (bt zs0 m)) := hc m (by omega)
          clear hc h0
          by_cases hx : bt zs0 m = true
          · have HX := Lib.hid (bt_true hx)
            rw [hx] at hcell
            go_wp2_with fail
            go_ret
            exact trimmed2 hor ⟨by omega, HZ.out, fun i hi => by rw [show i = m by omega, HX.out]; omega⟩ hb0 HV.out
          · have hx' : bt zs0 m = false := by simpa using hx
            have HX := Lib.hid (bt_false hzd0 hx')
            rw [hx'] at hcell
            clear hx
            go_wp2_with fail
            go_round
            case rel => exact ⟨m, by omega, rfl, fun j h1 h2 => by rcases Nat.lt_or_ge m j with h3 | h3; exact HZ.out j (by omega) h2; rw [show j = m by omega]; exact HX.out⟩
            case measure => simp [slen]
end Go.Proofs.Ytjkogajdpkbjeaa
