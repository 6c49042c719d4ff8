/- The reference's Ones: binary digits, as lists of bools. The reference's Halve and Double. The reference's Common: the greatest common divisor. Digits: checkBase, largestPower, slices.Reverse. The reference's Binary and Small. The reference's Figures and Read: digits to a base. The reference's Read and Numbers. Exported function: Digits. The reference's Moved. -/
import Derived.Test.YtpjfoggohhlbdaaVd
import Derived.Test.YtpjfoggohhlbdaaVa
import Derived.Deep.QuietTactic
import Derived.BigQuiet
import Derived.Deep.LoopGhost
import Derived.BigRegion
import Derived.Deep.RegionWith
import Derived.Deep.RegionHeld3
import Derived.Deep.DeepCutAuto
import Derived.Test.YtpjfoggohhlbdaaVc
namespace Go.Proofs.Ytpjfoggohhlbdaa
open Go.RowKit
set_option maxHeartbeats 400000
set_option maxRecDepth 100000
set_option linter.unusedSimpArgs false
set_option linter.unusedVariables false

/-- Binary digit j, as a bool. -/
@[irreducible] def bt (xs : List Nat) (j : Nat) : Bool := xs.getD j 0 == 1
theorem bt_true {xs : List Nat} {j : Nat} (h : bt xs j = true) : xs.getD j 0 = 1 := by unfold bt at h; exact beq_iff_eq.1 h
theorem bt_false {xs : List Nat} {j : Nat} (hd : Dig 2 xs) (h : bt xs j = false) : xs.getD j 0 = 0 := by
  unfold bt at h
  have h1 := beq_eq_false_iff_ne.1 h
  have h2 := Dig.at_ hd (by decide) j
  omega
abbrev bools (xs : List Nat) : List Value := xs.map fun (x : Nat) => Value.bool (x == 1)
structure ORd (w : World) (B : Nat) (A : Option Addr) (n c : Nat) (xs : List Nat) : Prop where
  len : Hid (xs.length = n)
  cap : n ≤ c ∧ c ≤ 9223372036854775807
  lim : Dig 2 xs
  rd : Rd w B A n (fun j => .bool (bt xs j))
section
variable {w w' : World} {B B' n m c : Nat} {A : Option Addr} {xs : List Nat}
theorem ORd.keep (h : ORd w B A n c xs) (hk : ∀ p : Addr, p.block < B → w'.cell? p = w.cell? p) : ORd w' B A n c xs := ⟨h.len, h.cap, h.lim, h.rd.keep hk⟩
theorem ORd.more (h : ORd w B A n c xs) (hB : B ≤ B') : ORd w B' A n c xs := ⟨h.len, h.cap, h.lim, h.rd.more hB⟩
theorem ORd.below (h : ORd w B A n c xs) (hb : Below B' w w') (hB : B ≤ B') : ORd w' B A n c xs := ⟨h.len, h.cap, h.lim, h.rd.below hb hB⟩
theorem ORd.alloc (h : ORd w B A n c xs) (hB : B ≤ w.heap.size) (o : Obj) : ORd (w.alloc o) B A n c xs := h.keep fun p hp => World.cell?_alloc_lt w o p (by omega)
end
theorem infoB : (Try.prog.info? 4).map (fun i => (i.zero, i.size, i.bytes)) = some (some (.bool false), 1, 1) := by kernel_rfl
/-- What the call owns, read. -/
theorem own_rd {w : World} {base n c : Nat} {T : TypeId} {A : Option Addr} {vs : List Value} (h : w.ownsRow base T 1 (.slice A n c) n vs) :
    n ≤ c ∧ c ≤ 9223372036854775807 ∧ vs.length = n ∧ Rd w w.heap.size A n (fun j => vs.getD j undef) := by
  have hl : vs.length = n := by have := h.1; omega
  obtain ⟨A', c', e, h1, h2⟩ := own_shape h
  injection e with e1 e2 e3
  subst e3
  refine ⟨h1, h2, hl, fun hn => ?_⟩
  rcases h.2 with ⟨_, h0⟩ | ⟨g, cap, cur, hv, hg, hh, _, _, _, h3⟩
  · omega
  · injection hv with e1 e2 e3
    subst e1
    have hR : Row w g T (vs ++ cur.toList.drop (n * 1)) := by
      unfold Row
      rw [← h3, List.take_append_drop, hh]
    refine ⟨g, 0, rfl, hR.lt, fun j hj => ?_⟩
    show _ = some (vs.getD j undef)
    rw [Nat.zero_add, hR.cell, List.getElem?_append_left (by omega), List.getD_eq_getElem?_getD]
    rw [List.getElem?_eq_getElem (by omega)]
    rfl
theorem own_ord {w : World} {base n c : Nat} {A : Option Addr} {zs : List Nat} (h : w.ownsRow base 4 1 (.slice A n c) n (bools zs)) (hd : Dig 2 zs) : ORd w w.heap.size A n c zs := by
  obtain ⟨h1, h2, h3, h4⟩ := own_rd h
  have hl : zs.length = n := by simpa using h3
  refine ⟨hl, ⟨h1, h2⟩, hd, h4.congr fun j hj => ?_⟩
  unfold bt
  simp [show j < zs.length by omega]
theorem bools_snoc (zs : List Nat) {v : Int} (hv : 0 ≤ v) : bools (zs ++ [v.toNat]) = bools zs ++ [.bool (v == 1)] := by
  obtain ⟨v, rfl⟩ := Int.eq_ofNat_of_zero_le hv
  simp [bools]
  rcases Nat.decEq v 1 with e | e
  · rw [beq_eq_false_iff_ne.2 e, beq_eq_false_iff_ne.2 (by omega)]
  · subst e; rfl
theorem own_nextB {w wr w1 : World} {v v' : Value} {zs : List Nat} {x : Int} {o : Obj} (hx : 0 ≤ x) (hb : Below w.heap.size w wr) (hown : wr.ownsRow w.heap.size 4 1 v zs.length (bools zs))
    (hown' : w1.ownsRow w.heap.size 4 1 v' (zs.length + 1) (bools zs ++ [.bool (x == 1)])) (hg : (wr.alloc o).grownBy w1 v.ownBlock) :
    w1.ownsRow w.heap.size 4 1 v' (zs ++ [x.toNat]).length (bools (zs ++ [x.toNat])) ∧ Below w.heap.size w w1 := by
  refine ⟨by rw [bools_snoc zs hx, List.length_append]; exact hown', ?_⟩
  exact (hb.alloc hb.size o).grown hg (by have := hb.size; simp; omega) (fun k hk => (hown.lt k hk).1)
theorem Dig.snoc2 {zs : List Nat} {x : Nat} (h : Dig 2 zs) (hx : x < 2) : Dig 2 (zs ++ [x]) := by
  intro y hy
  rcases List.mem_append.1 hy with e | e
  · exact h y e
  · rw [List.mem_singleton] at e; omega
/-- What a function gives that makes binary digits. -/
def GivesO (w : World) (p : Nat) (e : Ending) (w' : World) : Prop :=
  ∃ A k c zs, e = .returned (.slice A k c) ∧ ORd w' w'.heap.size A k c zs ∧ Rep 2 zs p ∧ Below w.heap.size w w'
def OnRel (n : Nat) (xs : List Nat) (w : World) (out i : Value) (wr : World) : Prop :=
  ∃ (k : Nat) (zs : List Nat), k ≤ n ∧ i = .int .i64 k ∧ wr.ownsRow w.heap.size 4 1 out zs.length (bools zs) ∧ Hid (zs.length = 16 * k) ∧ Dig 2 zs ∧ Below w.heap.size w wr ∧
    Hid (S 2 (fun i => zs.getD i 0) (16 * k) = S 65536 (fun i => xs.getD i 0) k)
def OiRel (k : Nat) (xs : List Nat) (w : World) (out x j : Value) (wr : World) : Prop :=
  ∃ (t : Nat) (v : Int) (zs : List Nat), t ≤ 16 ∧ j = .int .i64 t ∧ x = .int .i64 v ∧ 0 ≤ v ∧ v < 65536 ∧ Hid (v < 2 ^ (16 - t)) ∧ wr.ownsRow w.heap.size 4 1 out zs.length (bools zs) ∧ Hid (zs.length = 16 * k + t) ∧ Dig 2 zs ∧ Below w.heap.size w wr ∧
    Hid (S 2 (fun i => zs.getD i 0) (16 * k + t) + v.toNat * 2 ^ (16 * k + t) = S 65536 (fun i => xs.getD i 0) (k + 1))
theorem on_start {zs xs : List Nat} {k : Nat} (h : S 2 (fun i => zs.getD i 0) (16 * k) = S 65536 (fun i => xs.getD i 0) k) :
    S 2 (fun i => zs.getD i 0) (16 * k + 0) + (nth xs k).toNat * 2 ^ (16 * k + 0) = S 65536 (fun i => xs.getD i 0) (k + 1) := by
  rw [S_succ, Nat.add_zero, h, show (65536 : Nat) ^ k = 2 ^ (16 * k) by rw [Nat.pow_mul]]
  unfold nth
  rw [Int.toNat_natCast]
theorem on_nat {z d x y P : Nat} (h : d + 2 * y = x) : z + d * P + y * (P * 2) = z + x * P := by subst h; grind
theorem on_step {zs xs : List Nat} {m : Nat} {v : Int} {R : Nat} (hk : zs.length = m) (hv : 0 ≤ v) (h : S 2 (fun i => zs.getD i 0) m + v.toNat * 2 ^ m = R) :
    S 2 (fun i => (zs ++ [(v % 2).toNat]).getD i 0) (m + 1) + (v / 2).toNat * 2 ^ (m + 1) = R := by
  rw [S_snoc hk, Nat.pow_succ, ← h]
  exact on_nat (by omega)
theorem on_half {v : Int} {t : Nat} (h : v < 2 ^ (16 - t)) (ht : t < 16) : v / 2 < 2 ^ (16 - (t + 1)) := by
  rw [show 16 - t = (16 - (t + 1)) + 1 by omega, Int.pow_succ] at h
  omega
theorem on_end {zs xs : List Nat} {k : Nat} {v : Int} (h0 : 0 ≤ v) (h1 : v < 2 ^ (16 - 16)) (h : S 2 (fun i => zs.getD i 0) (16 * k + 16) + v.toNat * 2 ^ (16 * k + 16) = S 65536 (fun i => xs.getD i 0) (k + 1)) :
    S 2 (fun i => zs.getD i 0) (16 * (k + 1)) = S 65536 (fun i => xs.getD i 0) (k + 1) := by
  simp at h1
  obtain rfl : v = 0 := by omega
  rw [← h, show 16 * (k + 1) = 16 * k + 16 by omega]
  simp
def OtRel (n : Nat) (zs : List Nat) (A : Option Addr) (c : Nat) (v : Value) : Prop := ∃ k, k ≤ n ∧ v = .slice A k c ∧ ∀ j, k ≤ j → j < n → zs.getD j 0 = 0
theorem trimmed2 {w w0 : World} {n c k p : Nat} {A : Option Addr} {zs : List Nat} (h : ORd w w.heap.size A n c zs) (ht : TrimTo n zs k) (hb : Below w0.heap.size w0 w) (hv : vb 2 zs = p) : GivesO w0 p (.returned (.slice A k c)) w := by
  have hk := ht.le
  have hl := h.len.out
  have e : (zs.take k).length = k := by rw [List.length_take]; omega
  subst hv
  refine ⟨A, k, c, zs.take k, rfl, ⟨e, ⟨by have := h.cap; omega, h.cap.2⟩, fun x hx => h.lim x (List.mem_of_mem_take hx), ?_⟩, ⟨fun x hx => h.lim x (List.mem_of_mem_take hx), vb_take_of_zeros (by omega) (fun j h1 h2 => ht.zeros j h1 (by omega)), fun m hm => ?_⟩, hb⟩
  · refine (h.rd.take hk).congr fun j hj => ?_
    unfold bt
    rw [getD_take, if_pos hj]
  · rw [getD_take, if_pos (by omega)]
    exact ht.top m (by omega)
set_option maxHeartbeats 4000000 in
theorem ones_any (w : World) (B : Nat) (A : Option Addr) (n c : Nat) (xs : List Nat) (h : DRd w B A n c xs) (hB : B ≤ w.heap.size) (hM : n ≤ 100000000000) :
    Calls Try.prog 29 #[.slice A n c] w (GivesO w (vb 65536 xs)) := by
  obtain ⟨i0, hi, hz0, hz1, hz2⟩ := info_parts infoB
  have hcap := h.cap
  have hxl := Lib.hid h.len.out
  go_enter Try.func29, Try.ntmps29
  go_wp2_with fail
  go_loopw [3, 4] (OnRel n xs w) (fun _ i _ => n - (intOf i).toNat)
  case atStart => exact ⟨0, [], by omega, rfl, World.ownsRow_nil _ _ _ _, rfl, (by intro x hx; cases hx), Below.refl _ _, (by show _ = _; simp [S_zero])⟩
  case round =>
    obtain ⟨k, zs0, hk, rfl, hown0, hzl0, hzd0, hb0, HS0⟩ := hrel
    have hsz0 := hb0.size
    by_cases h1 : k < n
    · obtain ⟨b, off, rfl, hb, hc⟩ := h.rd (by omega)
      have g1 := (hb0.cell (p := ⟨b, off + k, none⟩) (by show b < _; omega)).trans (hc k (by omega))
      have a1 := nth_nn xs k
      have a2 := h.lim.nth k
      have HST := Lib.hid (on_start HS0.out)
      clear hc
      obtain ⟨wo, hwo⟩ : ∃ wo : World, wo = wr := ⟨_, rfl⟩
      go_wp2_with fail
      go_loopw [3, 5, 6] (OiRel k xs w) (fun _ _ j _ => 16 - (intOf j).toNat)
      case atStart => exact ⟨0, nth xs k, zs0, by omega, rfl, rfl, a1, a2, (by show _ < _; exact a2), hown0, (by show _ = _; rw [hzl0.out, Nat.add_zero]), hzd0, hb0, HST.out⟩
      case round =>
        clear hown0 hzl0 hzd0 hb0 hsz0 HST a1 a2 g1
        obtain ⟨t, v, zs, ht, rfl, rfl, v0, v1, hvt, hown, hzl, hzd, hbw, HS⟩ := hrel
        have hsz := hbw.size
        have hzn : zs.length ≤ 16 * n := by have := hzl.out; omega
        by_cases h2 : t < 16
        · have ST := Lib.hid (on_step (xs := xs) hzl.out v0 HS.out)
          have hv2 := Lib.hid (on_half hvt.out h2)
          go_wp2_with (at_builtin; refine wpList_append_own _ rfl _ _ 45 rfl w.heap.size 4 i0 (.bool false) 1 1 Try.underlying45 hi hz0 hz1 hz2 rfl (by decide) _ _ _ rfl (hown.alloc _) ⟨wr.heap.size, 0, none⟩ 1 1 [.bool (v % 2 == 1)] rfl rfl (cell_one_new _ _ _) (fun u hu => by simp at hu; subst hu; rfl) (by unfold maxLen; omega) (by omega) (by first | (simp; omega) | omega) ?_; intro v' w1 hown' hgrow _)
          obtain ⟨ho, hb1⟩ := own_nextB (Int.emod_nonneg _ (by decide)) hbw hown hown' hgrow
          clear hown hown' hgrow
          go_wp2_with fail
          go_roundw
          case rel => exact ⟨t + 1, v / 2, _, by omega, by go_num, rfl, by omega, by omega, hv2, ho, (by show _ = _; rw [List.length_append, hzl.out]; rfl), hzd.snoc2 (by omega), hb1, ST.out⟩
          case measure => simp [intOf]; omega
        · obtain rfl : t = 16 := by omega
          have SN := Lib.hid (on_end v0 hvt.out HS.out)
          go_wp2_with fail
          go_roundw
          case rel => exact ⟨k + 1, zs, by omega, by go_num, hown, (by show _ = _; rw [hzl.out]; omega), hzd, hbw, SN.out⟩
          case measure => simp [intOf]; omega
    · obtain rfl : k = n := by omega
      have HV := Lib.hid (show vb 2 zs0 = vb 65536 xs by unfold vb; rw [hzl0.out, hxl.out]; exact HS0.out)
      obtain ⟨A', c', rfl, hc1, hc2⟩ := own_shape hown0
      have hor := own_ord hown0 hzd0
      have hcz := hor.cap
      obtain ⟨q, hq⟩ : ∃ q, q = zs0.length := ⟨_, rfl⟩
      rw [← hq] at hor hcz
      rw [← hq]
      obtain ⟨wo, hwo⟩ : ∃ wo : World, wo = wr := ⟨_, rfl⟩
      go_wp2_with fail
      go_loop [3] (OtRel q zs0 A' c') (fun v => slen v)
      case atStart => exact ⟨q, Nat.le_refl _, rfl, fun j h1 h2 => absurd h1 (by omega)⟩
      case round =>
        obtain ⟨e, he, rfl, hz⟩ := hrel
        have HZ := Lib.hid hz
        clear hz
        by_cases h0 : e = 0
        · subst h0
          go_wp2_with fail
          go_ret
          exact trimmed2 hor ⟨Nat.zero_le _, HZ.out, fun m hm => by omega⟩ hb0 HV.out
        · obtain ⟨b, off, rfl, hb, hc⟩ := hor.rd (by omega)
          obtain ⟨m, rfl⟩ : ∃ m, e = m + 1 := ⟨e - 1, by omega⟩
          have hcell : wr.cell? ⟨b, off + m, none⟩ = some (.bool (bt zs0 m)) := hc m (by omega)
          clear hc h0
          by_cases hx : bt zs0 m = true
          · have HX := Lib.hid (bt_true hx)
            rw [hx] at hcell
            go_wp2_with fail
            go_ret
            exact trimmed2 hor ⟨by omega, HZ.out, fun i hi => by rw [show i = m by omega, HX.out]; omega⟩ hb0 HV.out
          · have hx' : bt zs0 m = false := by simpa using hx
            have HX := Lib.hid (bt_false hzd0 hx')
            rw [hx'] at hcell
            clear hx
            go_wp2_with fail
            go_round
            case rel => exact ⟨m, by omega, rfl, fun j h1 h2 => by rcases Nat.lt_or_ge m j with h3 | h3; exact HZ.out j (by omega) h2; rw [show j = m by omega]; exact HX.out⟩
            case measure => simp [slen]
end Go.Proofs.Ytpjfoggohhlbdaa

namespace Go.Proofs.Ytpjfoggohhlbdaa
open Go.RowKit
set_option maxHeartbeats 400000
set_option maxRecDepth 100000
set_option linter.unusedSimpArgs false
set_option linter.unusedVariables false

end Go.Proofs.Ytpjfoggohhlbdaa

namespace Go.Proofs.Ytpjfoggohhlbdaa
open Go.RowKit
set_option maxHeartbeats 400000
set_option maxRecDepth 100000
set_option linter.unusedSimpArgs false
set_option linter.unusedVariables false

theorem rep_nil {b : Nat} {xs : List Nat} {p n : Nat} (h : Rep b xs p) (hl : xs.length = n) (h0 : n = 0) : p = 0 := by
  have hv := h.val
  rw [List.eq_nil_of_length_eq_zero (hl.trans h0), vb_nil] at hv
  exact hv.symm
theorem pow16 (k : Nat) : (65536 : Nat) ^ k = 2 ^ (16 * k) := by rw [Nat.pow_mul]
end Go.Proofs.Ytpjfoggohhlbdaa

namespace Go.Proofs.Ytpjfoggohhlbdaa
open Go.RowKit
set_option maxHeartbeats 400000
set_option maxRecDepth 100000
set_option linter.unusedSimpArgs false
set_option linter.unusedVariables false

theorem checkBase_ok (w : World) (y : Int) (hy : 2 ≤ y ∧ y ≤ 36) :
    Calls Try.prog 122 #[.int .i64 y] w fun e w' => e = .returned (flt 0 0) ∧ Below w.heap.size w w' := by
  go_enter Try.func122, Try.ntmps122
  go_wp2_with fail
  refine bodyPost_ret (v := flt 0 0) (by simp [results, Try.results122, go_sem]) rfl ⟨rfl, ?_⟩
  (repeat (first | exact Below.refl _ _ | refine Below.setCell ?_ (by simp; done) _ | refine Below.alloc ?_ (by first | omega | (simp; done) | (simp; omega)) _))
structure LpIs (y P W : Nat) : Prop where
  pow : P = y ^ W
  lo : 1 ≤ P
  hi : P ≤ 4294967295
  wid : W ≤ 32
theorem LpIs.next {y P W : Nat} (h : LpIs y P W) (hy : 2 ≤ y) (hn : P * y ≤ 4294967295) : LpIs y (P * y) (W + 1) := by
  have e : P * y = y ^ (W + 1) := by rw [Nat.pow_succ, ← h.pow]
  refine ⟨e, ?_, hn, ?_⟩
  · have := Nat.mul_le_mul h.lo (show 1 ≤ y by omega); omega
  · rcases Nat.lt_or_ge W 32 with h1 | h1
    · omega
    · exfalso
      have h2 : 2 ^ 33 ≤ 2 ^ (W + 1) := Nat.pow_le_pow_right (by decide) (by omega)
      have h3 : 2 ^ (W + 1) ≤ y ^ (W + 1) := Nat.pow_le_pow_left hy _
      have h4 : (2 : Nat) ^ 33 = 8589934592 := by decide
      omega
def LpRel (y : Nat) (p e : Value) : Prop := ∃ P W : Nat, p = .int .i64 (P : Int) ∧ e = .int .i64 (W : Int) ∧ LpIs y P W
def LpPost (y : Nat) (w : World) (e : Ending) (w' : World) : Prop :=
  ∃ P W : Nat, e = .returned (.tuple #[.int .u32 (P : Int), .int .i64 (W : Int)]) ∧ w = w' ∧ LpIs y P W ∧ 4294967295 < P * y
theorem lp_big {P y : Nat} (h : P ≤ 4294967295) (hy : y ≤ 36) : (P : Int) * (y : Int) ≤ 154618822620 := by
  have h1 : P * y ≤ 4294967295 * 36 := Nat.mul_le_mul h hy
  omega
set_option maxHeartbeats 1000000 in
theorem largestPower_any (w : World) (y : Nat) (hy : 2 ≤ y ∧ y ≤ 36) :
    Calls Try.prog 123 #[.int .i64 (y : Int)] w (LpPost y w) := by
  go_enter Try.func123, Try.ntmps123
  go_wp2_with fail
  go_loop [4, 5] (LpRel y) (fun p _ => 4294967296 - (intOf p).toNat)
  case atStart => exact ⟨1, 0, rfl, rfl, by simp, by omega, by omega, by omega⟩
  case round =>
    obtain ⟨P, W, rfl, rfl, hI⟩ := hrel
    have hlo := hI.lo
    have hhi := hI.hi
    have hwd := hI.wid
    have h1 := lp_big hI.hi hy.2
    have h0 : 0 ≤ (P : Int) * (y : Int) := Int.mul_nonneg (by omega) (by omega)
    have w1 : IntKind.i64.wrap ((P : Int) * (y : Int)) = ((P * y : Nat) : Int) := by rw [IntWalk.i64_in _ (by omega)]; simp
    have h2 : ((P * y : Nat) : Int) ≤ 154618822620 := by rw [Int.natCast_mul]; exact h1
    have h3 : P + 1 ≤ P * y := by
      have : P * 2 ≤ P * y := Nat.mul_le_mul_left _ hy.1
      omega
    clear h1 h0
    by_cases hx : P * y ≤ 4294967295
    · have HN := Lib.hid (hI.next hy.1 hx)
      have HE : ((P * y : Nat) : Int) ≤ 4294967295 := by omega
      go_wp2_with fail
      go_round
      case rel => exact ⟨P * y, W + 1, rfl, by go_num, HN.out⟩
      case measure => simp [intOf]; omega
    · have HE : 4294967295 < ((P * y : Nat) : Int) := by omega
      have HX := Lib.hid (show 4294967295 < P * y by omega)
      go_wp2_with fail
      go_ret2
      exact ⟨P, W, rfl, rfl, hI, HX.out⟩
/-- The places i and behind n - i are exchanged. -/
def RvIs (n i : Nat) (cs cs' : List Nat) : Prop := cs'.length = n ∧ (∀ t, t < n → cs'.getD t 0 = if t < i ∨ n ≤ t + i then cs.getD (n - 1 - t) 0 else cs.getD t 0)
def RvRel (n : Nat) (cs : List Nat) (g : Nat) (w : World) (i j : Value) (wr : World) : Prop :=
  ∃ (k : Nat) (cs' : List Nat), 2 * k ≤ n + 1 ∧ i = .int .i64 (k : Int) ∧ j = .int .i64 ((n : Int) - 1 - (k : Int)) ∧ R64 wr g cs' ∧ w.grownBy wr (some g) ∧ Hid (RvIs n k cs cs')
def RvPost (cs : List Nat) (g : Nat) (w : World) (e : Ending) (w' : World) : Prop := e = .returned (.tuple #[]) ∧ R64 w' g cs.reverse ∧ w.grownBy w' (some g)
theorem rv_end {n i : Nat} {cs cs' : List Nat} (hl : cs.length = n) (h : RvIs n i cs cs') (hi : n ≤ 2 * i + 1) : cs' = cs.reverse := by
  obtain ⟨h1, h2⟩ := h
  refine List.ext_getElem (by simp; omega) fun t a b => ?_
  have gd : ∀ (l : List Nat) (i : Nat) (hi : i < l.length), l[i] = l.getD i 0 := fun l i hi => by
    rw [List.getD_eq_getElem?_getD, List.getElem?_eq_getElem hi]; rfl
  have h3 := h2 t (by omega)
  rw [List.getElem_reverse, gd cs' t a, gd cs _ (by omega), h3]
  split
  · congr 1; omega
  · congr 1; omega
theorem rv_step {n i : Nat} {cs cs' : List Nat} (hl : cs.length = n) (h : RvIs n i cs cs') (hi : 2 * i + 1 < n) :
    RvIs n (i + 1) cs ((cs'.set i (nth cs' (n - 1 - i)).toNat).set (n - 1 - i) (nth cs' i).toNat) := by
  obtain ⟨h1, h2⟩ := h
  refine ⟨by simp [h1], fun t ht => ?_⟩
  have a1 := h2 i (by omega)
  have a2 := h2 (n - 1 - i) (by omega)
  rw [if_neg (by omega)] at a1
  rw [if_neg (by omega)] at a2
  unfold nth
  rw [Int.toNat_natCast, Int.toNat_natCast, a1, a2, getD_set _ _ _ _ (by simp; omega)]
  by_cases e1 : t = n - 1 - i
  · subst e1
    rw [if_pos rfl, if_pos (by omega)]
    congr 1; omega
  · rw [if_neg (fun e => e1 (by omega)), getD_set _ _ _ _ (by omega)]
    by_cases e2 : t = i
    · subst e2
      rw [if_pos rfl, if_pos (by omega)]
    · rw [if_neg (fun e => e2 (by omega)), h2 t ht]
      by_cases e3 : t < i ∨ n ≤ t + i
      · rw [if_pos e3, if_pos (by omega)]
      · rw [if_neg e3, if_neg (by omega)]
theorem grown_drew {a w : World} {r : Option Nat} (h : a.grownBy w r) : a.grownBy w.drew r := ⟨h.os, h.tape, h.output, h.size, h.block⟩
set_option maxHeartbeats 4000000 in
theorem reverse_any (w : World) (g n c : Nat) (cs : List Nat) (hR : R64 w g cs) (hn : cs.length = n) (hc : n ≤ c ∧ c ≤ 9223372036854775807) :
    Calls Try.prog 125 #[.slice (some ⟨g, 0, none⟩) n c] w (RvPost cs g w) := by
  have HN := Lib.hid hn
  clear hn
  go_enter Try.func125, Try.ntmps125
  go_wp2_with fail
  go_loopw [2, 3] (RvRel n cs g w) (fun i _ _ => n - (intOf i).toNat)
  case atStart => exact ⟨0, cs, by omega, rfl, by simp, hR, World.grownBy.refl _ _, HN.out, fun t ht => by simp; omega⟩
  case round =>
    clear hR
    obtain ⟨k, cs', hk, rfl, rfl, hR, hg, hI⟩ := hrel
    have hlen := Lib.hid hI.out.1
    by_cases h1 : 2 * k + 1 < n
    · obtain ⟨m, hm⟩ : ∃ m, m = n - 1 - k := ⟨_, rfl⟩
      have em : (n : Int) - 1 - (k : Int) = (m : Int) := by omega
      rw [em]
      have g1 := hR.cell (j := k) (by have := hlen.out; omega)
      have g2 := hR.cell (j := m) (by have := hlen.out; omega)
      have f1 := hR.frozen k
      have f2 := hR.frozen m
      have a1 := nth_nn cs' k
      have a2 := nth_nn cs' m
      have hkm : k < m := by omega
      have hmn : m < n := by omega
      have HS := Lib.hid (rv_step HN.out hI.out h1)
      rw [← hm] at HS
      have hne : m ≠ k := by omega
      have HM := Lib.hid hm
      clear hm em
      go_wp2_with fail
      go_region
      all_goals (go_wp2_with fail)
      all_goals go_roundw
      all_goals (first | (case measure => simp [intOf]; omega) | skip)
      all_goals (exact ⟨k + 1, _, by omega, by go_num, congrArg (Value.int .i64) (by have := HM.out; omega), (hR.drew.put k a2).put m a1, grown_set (grown_set (grown_drew hg) _ _) _ _, HS.out⟩)
    · have HE := Lib.hid (rv_end HN.out hI.out (by omega))
      go_wp2_with fail
      go_end0
      exact ⟨rfl, by rw [← HE.out]; exact hR, hg⟩
end Go.Proofs.Ytpjfoggohhlbdaa

namespace Go.Proofs.Ytpjfoggohhlbdaa
open Go.RowKit
set_option maxHeartbeats 400000
set_option maxRecDepth 100000
set_option linter.unusedSimpArgs false
set_option linter.unusedVariables false

def BiRel (n : Nat) (xs : List Nat) (w : World) (out i : Value) (wr : World) : Prop :=
  ∃ (j : Nat) (zs : List Nat), 16 * j ≤ n + 15 ∧ i = .int .i64 (16 * (j : Int)) ∧ wr.ownsRow w.heap.size 3 1 out zs.length (digs zs) ∧ Hid (zs.length = j) ∧ Dig 65536 zs ∧ Below w.heap.size w wr ∧
    Hid (S 65536 (fun i => zs.getD i 0) j = S 2 (fun i => xs.getD i 0) (16 * j))
def BjRel (j : Nat) (xs : List Nat) (x k : Value) : Prop :=
  ∃ (t : Nat) (v : Int), t ≤ 16 ∧ k = .int .i64 ((t : Int) - 1) ∧ x = .int .i64 v ∧ 0 ≤ v ∧ v < 65536 ∧ Hid (v < 2 ^ (16 - t)) ∧ Hid (v.toNat = S 2 (fun i => xs.getD (16 * j + t + i) 0) (16 - t))
theorem bi_front {xs : List Nat} {j t : Nat} {v u : Int} (ht : t < 16) (hv : 0 ≤ v) (hu : u = 2 * v + (xs.getD (16 * j + t) 0 : Nat)) (h : v.toNat = S 2 (fun i => xs.getD (16 * j + (t + 1) + i) 0) (16 - (t + 1))) :
    u.toNat = S 2 (fun i => xs.getD (16 * j + t + i) 0) (16 - t) := by
  rw [show 16 - t = (16 - (t + 1)) + 1 by omega, S_front, S_ext (g := fun i => xs.getD (16 * j + (t + 1) + i) 0) (fun i _ => by congr 1; omega), ← h]
  simp only [Nat.add_zero]
  omega
theorem bi_lim {v u : Int} {t d : Nat} (ht : t < 16) (hv : v < 2 ^ (16 - (t + 1))) (hu : u = 2 * v + (d : Nat)) (hd : d ≤ 1) : u < 2 ^ (16 - t) := by
  rw [show 16 - t = (16 - (t + 1)) + 1 by omega, Int.pow_succ]
  omega
theorem bi_small {v : Int} {t : Nat} (h : v < 2 ^ (16 - t)) : v < 65536 := by
  have : (2 : Int) ^ (16 - t) ≤ 2 ^ 16 := by
    have := Nat.pow_le_pow_right (n := 2) (by decide) (show 16 - t ≤ 16 by omega)
    exact_mod_cast this
  have e : (2 : Int) ^ 16 = 65536 := by decide
  omega
theorem bi_next {zs xs : List Nat} {j : Nat} {v : Int} (hz : zs.length = j) (h : S 65536 (fun i => zs.getD i 0) j = S 2 (fun i => xs.getD i 0) (16 * j)) (hv : v.toNat = S 2 (fun i => xs.getD (16 * j + 0 + i) 0) (16 - 0)) :
    S 65536 (fun i => (zs ++ [v.toNat]).getD i 0) (j + 1) = S 2 (fun i => xs.getD i 0) (16 * (j + 1)) := by
  rw [S_snoc hz, show 16 * (j + 1) = 16 * j + 16 by omega, S_add, h, hv, show (65536 : Nat) ^ j = 2 ^ (16 * j) by rw [Nat.pow_mul]]
  simp only [Nat.add_zero, Nat.sub_zero, Nat.mul_comm]
set_option maxHeartbeats 4000000 in
theorem binary_any (w : World) (B : Nat) (A : Option Addr) (n c : Nat) (xs : List Nat) (h : ORd w B A n c xs) (hB : B ≤ w.heap.size) (hM : n ≤ 100000000000) :
    Calls Try.prog 65 #[.slice A n c] w (GivesN w (vb 2 xs)) := by
  obtain ⟨i0, hi, hz0, hz1, hz2⟩ := info_parts info64
  have hcap := h.cap
  have hxl := Lib.hid h.len.out
  go_enter Try.func65, Try.ntmps65
  go_wp2_with fail
  go_loopw [3, 4] (BiRel n xs w) (fun _ i _ => n + 16 - (intOf i).toNat)
  case atStart => exact ⟨0, [], by omega, rfl, World.ownsRow_nil _ _ _ _, rfl, Dig.nil, Below.refl _ _, (by show _ = _; simp [S_zero])⟩
  case round =>
    obtain ⟨j, zs, hj, rfl, hown, hzl, hzd, hbw, HS⟩ := hrel
    have hsz := hbw.size
    have hzn : zs.length ≤ n := by have := hzl.out; omega
    by_cases h1 : 16 * j < n
    · obtain ⟨b, off, rfl, hb, hc⟩ := h.rd (by omega)
      have HC := Lib.hid (show ∀ i, i < n → wr.cell? ⟨b, off + i, none⟩ = some (.bool (bt xs i)) from fun i hi => (hbw.cell (p := ⟨b, off + i, none⟩) (by show b < _; omega)).trans (hc i hi))
      clear hc
      obtain ⟨wo, hwo⟩ : ∃ wo : World, wo = wr := ⟨_, rfl⟩
      go_wp2_with fail
      go_loop [5, 6] (BjRel j xs) (fun _ k => (intOf k + 1).toNat)
      case atStart => exact ⟨16, 0, by omega, rfl, rfl, by omega, by omega, (by show _ < _; decide), (by show _ = _; simp [S_zero])⟩
      case round =>
        obtain ⟨t, v, ht, rfl, rfl, v0, v1, hvl, hvs⟩ := hrel
        by_cases h2 : t = 0
        · subst h2
          have SN := Lib.hid (bi_next hzl.out HS.out hvs.out)
          clear HC
          go_wp2_with (at_builtin; refine wpList_append_own _ rfl _ _ 35 rfl w.heap.size 3 i0 (.int .i64 0) 1 8 Try.underlying35 hi hz0 hz1 hz2 rfl (by decide) _ _ _ rfl (hown.alloc _) ⟨wr.heap.size, 0, none⟩ 1 1 [.int .i64 v] rfl rfl (cell_one_new _ _ _) (fun u hu => by simp at hu; subst hu; rfl) (by unfold maxLen; omega) (by omega) (by first | (simp; omega) | omega) ?_; intro v' w1 hown' hgrow _)
          obtain ⟨ho, hb1⟩ := own_next v0 hbw hown hown' hgrow
          clear hown hown' hgrow
          go_wp2_with fail
          go_roundw
          case rel => exact ⟨j + 1, _, by omega, by go_num, ho, (by show _ = _; rw [List.length_append, hzl.out]; rfl), hzd.snoc (by omega), hb1, SN.out⟩
          case measure => simp [intOf]; omega
        · obtain ⟨s, rfl⟩ : ∃ s, t = s + 1 := ⟨t - 1, by omega⟩
          have ei : ((s + 1 : Nat) : Int) - 1 = (s : Int) := by omega
          rw [ei]
          clear ei h2
          by_cases h3 : 16 * j + s < n
          · have g1 := HC.out (16 * j + s) h3
            by_cases hx : bt xs (16 * j + s) = true
            · have HX := bt_true hx
              have SV := Lib.hid (bi_front (u := 2 * v + 1) (by omega) v0 (by rw [HX]; rfl) hvs.out)
              have SL := Lib.hid (bi_lim (u := 2 * v + 1) (d := 1) (by omega) hvl.out (by rfl) (by omega))
              have s1 := bi_small SL.out
              rw [hx] at g1
              clear HX hx
              go_wp2_with fail
              go_round
              case rel => exact ⟨s, 2 * v + 1, by omega, rfl, by go_num, by omega, s1, SL, SV⟩
              case measure => first | (simp [intOf]; done) | (simp [intOf]; omega)
            · have hx' : bt xs (16 * j + s) = false := by simpa using hx
              have HX := bt_false h.lim hx'
              have SV := Lib.hid (bi_front (u := 2 * v) (by omega) v0 (by rw [HX]; omega) hvs.out)
              have SL := Lib.hid (bi_lim (u := 2 * v) (d := 0) (by omega) hvl.out (by omega) (by omega))
              have s1 := bi_small SL.out
              rw [hx'] at g1
              clear HX hx hx'
              go_wp2_with fail
              go_round
              case rel => exact ⟨s, 2 * v, by omega, rfl, by go_num, by omega, s1, SL, SV⟩
              case measure => first | (simp [intOf]; done) | (simp [intOf]; omega)
          · have HX : xs.getD (16 * j + s) 0 = 0 := getD_none (by rw [hxl.out]; omega)
            have SV := Lib.hid (bi_front (u := 2 * v) (by omega) v0 (by rw [HX]; omega) hvs.out)
            have SL := Lib.hid (bi_lim (u := 2 * v) (d := 0) (by omega) hvl.out (by omega) (by omega))
            have s1 := bi_small SL.out
            clear HX
            go_wp2_with fail
            go_round
            case rel => exact ⟨s, 2 * v, by omega, rfl, by go_num, by omega, s1, SL, SV⟩
            case measure => first | (simp [intOf]; done) | (simp [intOf]; omega)
    · have HV := Lib.hid (show vb 65536 zs = vb 2 xs by rw [← vb_len (b := 2) (xs := xs) (n := 16 * j) (by rw [hxl.out]; omega), ← HS.out]; unfold vb; rw [hzl.out])
      obtain ⟨A', c', rfl, hc1, hc2⟩ := own_shape hown
      have hdr := own_drd hown hzd
      go_wp2_with fail
      refine (trimD_any _ _ _ _ _ _ hdr).mono ?_
      rintro e w' ⟨t, rfl, ht, rfl⟩
      go_wp2_with fail
      go_ret
      exact gives_own hown hzd ht hbw HV.out
def SmlRel (N : Nat) (w : World) (n out : Value) (wr : World) : Prop :=
  ∃ (m : Nat) (zs : List Nat), n = .int .i64 (m : Int) ∧ m ≤ 9223372036854775807 ∧ wr.ownsRow w.heap.size 3 1 out zs.length (digs zs) ∧ zs.length ≤ 4 ∧ Dig 65536 zs ∧ Below w.heap.size w wr ∧ Hid (vb 65536 zs + 65536 ^ zs.length * m = N) ∧ Hid (m = 0 → Top zs)
theorem sml_len {N m l v : Nat} (h : v + 65536 ^ l * m = N) (hm : 0 < m) (hN : N ≤ 9223372036854775807) : l < 4 := by
  rcases Nat.lt_or_ge l 4 with e | e
  · exact e
  · exfalso
    have h1 : 65536 ^ 4 ≤ 65536 ^ l := Nat.pow_le_pow_right (by decide) e
    have h2 : 65536 ^ l * 1 ≤ 65536 ^ l * m := Nat.mul_le_mul_left _ hm
    have h3 : (65536 : Nat) ^ 4 = 18446744073709551616 := by decide
    omega
theorem sml_nat {v P d m m' N : Nat} (h : v + P * m = N) (e : d + 65536 * m' = m) : v + P * d + P * 65536 * m' = N := by subst e; rw [← h]; grind
theorem sml_step {N m : Nat} {zs : List Nat} (h : vb 65536 zs + 65536 ^ zs.length * m = N) : vb 65536 (zs ++ [((m : Int) % 65536).toNat]) + 65536 ^ (zs ++ [((m : Int) % 65536).toNat]).length * (m / 65536) = N := by
  rw [vb_snoc, List.length_append, List.length_singleton, Nat.pow_succ]
  exact sml_nat h (by omega)
theorem sml_top {m : Nat} {zs : List Nat} (hm : 0 < m) (h : m / 65536 = 0) : Top (zs ++ [((m : Int) % 65536).toNat]) := by
  intro i hi
  rw [List.length_append, List.length_singleton] at hi
  obtain rfl : i = zs.length := by omega
  rw [getD_append, if_neg (by omega), Nat.sub_self]
  show ((m : Int) % 65536).toNat ≠ 0
  omega
set_option maxHeartbeats 1000000 in
theorem small_any (w : World) (N : Nat) (hN : N ≤ 9223372036854775807) :
    Calls Try.prog 89 #[.int .i64 (N : Int)] w (GivesN w N) := by
  obtain ⟨i0, hi, hz0, hz1, hz2⟩ := info_parts info64
  go_enter Try.func89, Try.ntmps89
  go_wp2_with fail
  go_loopw [0, 3] (SmlRel N w) (fun n _ _ => (intOf n).toNat)
  case atStart => exact ⟨N, [], rfl, hN, World.ownsRow_nil _ _ _ _, by simp, Dig.nil, Below.refl _ _, (by show _ = _; simp [vb_nil]), fun _ => Top.nil⟩
  case round =>
    obtain ⟨m, zs, rfl, hm, hown, hzl, hzd, hbw, HS, HT⟩ := hrel
    have hsz := hbw.size
    by_cases h0 : m = 0
    · subst h0
      obtain ⟨A', c', rfl, hc1, hc2⟩ := own_shape hown
      have hdr := own_drd hown hzd
      have HR := Lib.hid (show Rep 65536 zs N from ⟨hzd, by have := HS.out; simpa using this, HT.out rfl⟩)
      go_wp2_with fail
      go_ret
      exact ⟨_, _, _, _, rfl, hdr, HR.out, hbw⟩
    · have hl := sml_len HS.out (by omega) hN
      have ST := Lib.hid (sml_step HS.out)
      have TT := Lib.hid (fun e => sml_top (zs := zs) (show 0 < m by omega) e)
      have hm0 : 0 < (m : Int) := by omega
      clear h0
      go_wp2_with (at_builtin; refine wpList_append_own _ rfl _ _ 35 rfl w.heap.size 3 i0 (.int .i64 0) 1 8 Try.underlying35 hi hz0 hz1 hz2 rfl (by decide) _ _ _ rfl (hown.alloc _) ⟨wr.heap.size, 0, none⟩ 1 1 [.int .i64 ((m : Int) % 65536)] rfl rfl (cell_one_new _ _ _) (fun u hu => by simp at hu; subst hu; rfl) (by unfold maxLen; omega) (by omega) (by first | (simp; omega) | omega) ?_; intro v' w1 hown' hgrow _)
      obtain ⟨ho, hb1⟩ := own_next (Int.emod_nonneg _ (by decide)) hbw hown hown' hgrow
      clear hown hown' hgrow
      go_wp2_with fail
      go_roundw
      case rel => exact ⟨m / 65536, _, by go_num, by omega, ho, by simp; omega, hzd.snoc (by omega), hb1, ST.out, TT.out⟩
      case measure => simp [intOf]; omega
end Go.Proofs.Ytpjfoggohhlbdaa

namespace Go.Proofs.Ytpjfoggohhlbdaa
open Go.RowKit
set_option maxHeartbeats 400000
set_option maxRecDepth 100000
set_option linter.unusedSimpArgs false
set_option linter.unusedVariables false

theorem Dig.wide {y : Nat} {zs : List Nat} (h : Dig y zs) (hy : y ≤ 65536) : Dig 65536 zs := fun x hx => by have := h x hx; omega
theorem Dig.push {y : Nat} {zs : List Nat} {x : Nat} (h : Dig y zs) (hx : x < y) : Dig y (zs ++ [x]) := by
  intro z hz
  rcases List.mem_append.1 hz with e | e
  · exact h z e
  · rw [List.mem_singleton] at e; omega
theorem fg_step {v y p : Nat} {zs : List Nat} (h : v * y ^ zs.length + vb y zs = p) : v / y * y ^ (zs ++ [v % y]).length + vb y (zs ++ [v % y]) = p := by
  rw [vb_snoc, List.length_append, List.length_singleton, Nat.pow_succ, ← h]
  have e := Nat.mod_add_div v y
  generalize y ^ zs.length = P at *
  generalize vb y zs = u at *
  generalize hm : v % y = r at *
  generalize v / y = q at *
  subst e
  grind
theorem fg_len {v y p l u M : Nat} (h : v * y ^ l + u = p) (hv : 0 < v) (hy : 2 ≤ y) (hp : p < 65536 ^ M) : l < 16 * M := by
  have h1 : 1 * y ^ l ≤ v * y ^ l := Nat.mul_le_mul_right _ hv
  have h2 : 2 ^ l ≤ y ^ l := Nat.pow_le_pow_left hy _
  rw [pow16] at hp
  exact (Nat.pow_lt_pow_iff_right (by decide : 1 < 2)).1 (by omega)
end Go.Proofs.Ytpjfoggohhlbdaa

namespace Go.Proofs.Ytpjfoggohhlbdaa
open Go.RowKit
set_option maxHeartbeats 400000
set_option maxRecDepth 100000
set_option linter.unusedSimpArgs false
set_option linter.unusedVariables false

/-- The value of the first i digits, the most significant one first. -/
def hv (y : Nat) (xs : List Nat) (i : Nat) : Nat := vb y (xs.take i).reverse
end Go.Proofs.Ytpjfoggohhlbdaa

namespace Go.Proofs.Ytpjfoggohhlbdaa
open Go.RowKit
set_option maxHeartbeats 400000
set_option maxRecDepth 100000
set_option linter.unusedSimpArgs false
set_option linter.unusedVariables false

def DgPost (y p : Nat) (w : World) (e : Ending) (w' : World) : Prop :=
  ∃ A k c zs, e = .returned (.tuple #[.slice A k c, flt 0 0]) ∧ DRd w' w'.heap.size A k c zs ∧ Rep y zs.reverse p ∧ Below w.heap.size w w'
def DgRel (y p g B3 : Nat) (W2 : World) (v : Nat) (s10 s11 : Value) (wr : World) : Prop :=
  ∃ A k c cs zs, s10 = .slice A k c ∧ (0 < k → A = some ⟨g, 0, none⟩ ∧ R32 wr g cs) ∧ k ≤ cs.length ∧ k ≤ c ∧ c ≤ 9223372036854775807 ∧ Lim cs ∧ Hid (Rep 4294967296 (cs.take k) v) ∧
    wr.ownsRow B3 3 1 s11 zs.length (digs zs) ∧ Dig y zs ∧ Below W2.heap.size W2 wr ∧ B3 ≤ wr.heap.size ∧ Hid (v * y ^ zs.length + vb y zs = p)
def DjRel (y L W g B3 u : Nat) (W2 : World) (cs : List Nat) (s11 s12 s42 : Value) (wr : World) : Prop :=
  ∃ j t zs, j ≤ W ∧ s42 = .int .i64 ((j : Nat) : Int) ∧ s12 = .int .i64 ((t : Nat) : Int) ∧ t ≤ 4294967295 ∧ Hid (t < y ^ (W - j)) ∧ wr.ownsRow B3 3 1 s11 zs.length (digs zs) ∧ Hid (zs.length = L + j) ∧ Dig y zs ∧
    Below W2.heap.size W2 wr ∧ B3 ≤ wr.heap.size ∧ R32 wr g cs ∧ Hid (t * y ^ (L + j) + vb y zs = u)
theorem own_snocN {w1 : World} {B x : Nat} {v' : Value} {zs : List Nat} (hown' : w1.ownsRow B 3 1 v' (zs.length + 1) (digs zs ++ [.int .i64 (x : Int)])) : w1.ownsRow B 3 1 v' (zs ++ [x]).length (digs (zs ++ [x])) := by rw [List.length_append]; simpa [digs] using hown'
theorem dj_step {t y L j u : Nat} {zs : List Nat} (hl : zs.length = L + j) (h : t * y ^ (L + j) + vb y zs = u) : t / y * y ^ (L + (j + 1)) + vb y (zs ++ [t % y]) = u := by
  rw [← hl] at h
  have := fg_step h
  rw [List.length_append, List.length_singleton, hl] at this
  exact this
theorem dj_div {t y W j : Nat} (h : t < y ^ (W - j)) (hj : j < W) (hy : 0 < y) : t / y < y ^ (W - (j + 1)) := by
  rw [show W - j = (W - (j + 1)) + 1 by omega, Nat.pow_succ] at h
  exact Nat.div_lt_of_lt_mul (by rw [Nat.mul_comm]; exact h)
theorem ds_val {k : Nat} {cs cs' : List Nat} {P : Nat} {r : Int} {v : Nat} (h : DsIs k cs (P : Int) 0 r cs') (hk : k ≤ cs.length) (hv : vb 4294967296 (cs.take k) = v) : vb 4294967296 (cs'.take k) * P + r.toNat = v := by
  obtain ⟨h1, _, _, h4⟩ := h
  simp only [Nat.zero_add, Nat.sub_zero, Int.toNat_natCast] at h4
  have e : ∀ l : List Nat, k ≤ l.length → vb 4294967296 (l.take k) = S 4294967296 (fun t => l.getD t 0) k := fun l hl => by
    have el : (l.take k).length = k := by rw [List.length_take]; omega
    unfold vb
    rw [el]
    exact S_ext fun j hj => by rw [getD_take, if_pos hj]
  rw [e cs' (by omega), h4, ← e cs hk, hv]
theorem dg_next {q P r v W L y z z' p : Nat} (hq : q * P + r = v) (hP : P = y ^ W) (hz : 0 * y ^ (L + W) + z' = r * y ^ L + z) (h : v * y ^ L + z = p) : q * y ^ (L + W) + z' = p := by
  rw [Nat.zero_mul, Nat.zero_add] at hz
  rw [← h, ← hq, hz, Nat.pow_add, hP]
  generalize y ^ L = X
  generalize y ^ W = Y
  grind
theorem trimmedG {y n k p : Nat} {cs : List Nat} (h : TrimTo n cs k) (hl : cs.length = n) (hd : Dig y cs) (hv : vb y cs = p) : Rep y (cs.take k) p := by
  have e : (cs.take k).length = k := by rw [List.length_take]; have := h.le; omega
  refine ⟨fun x hx => hd x (List.mem_of_mem_take hx), by rw [← hv]; exact vb_take_of_zeros (by have := h.le; omega) (fun j h1 h2 => h.zeros j h1 (by omega)), fun m hm => ?_⟩
  rw [getD_take, if_pos (by omega)]
  exact h.top m (by omega)
theorem reverse_nil (w : World) (A : Option Addr) (c : Nat) (hc : c ≤ 9223372036854775807) :
    Calls Try.prog 125 #[.slice A 0 c] w fun e w' => e = .returned (.tuple #[]) ∧ w = w' := by
  go_enter Try.func125, Try.ntmps125
  go_wp2_with fail
  refine wp_loop_rounds 1 ?_
  rw [rounds_succ]
  go_wp2_with fail
  go_end0
  exact ⟨rfl, rfl⟩
theorem R64.lift {w : World} {g : Nat} {cs : List Nat} (h : R64 w g cs) (hd : Dig 65536 cs) {k c : Nat} (hl : cs.length = k) (hc : k ≤ c ∧ c ≤ 9223372036854775807) : DRd w w.heap.size (some ⟨g, 0, none⟩) k c cs := h.drdAll hd h.lt hl hc
theorem rep_pos4 {xs : List Nat} {p n : Nat} (h : Rep 4294967296 xs p) (hl : xs.length = n) (h0 : 0 < n) : 0 < p := by
  rcases Nat.eq_zero_or_pos p with e | e
  · exfalso
    subst e
    have := h.length_le (m := 0) (by decide) (by decide)
    omega
  · exact e
theorem drd_cap0 {w : World} {A : Option Addr} {c : Nat} (hc : c ≤ 9223372036854775807) : DRd w w.heap.size A 0 c [] := ⟨rfl, ⟨Nat.zero_le _, hc⟩, Dig.nil, fun h => absurd h (by omega)⟩
set_option maxHeartbeats 8000000 in
theorem digits_ok (w : World) (B : Nat) (A : Option Addr) (n c y : Nat) (xs : List Nat) (h : LRd w B A n c xs) (hB : B ≤ w.heap.size) (hx : vld xs = true) (hy : 2 ≤ y ∧ y ≤ 36) :
    Calls Try.prog 101 #[.slice A n c, .int .i64 (y : Int)] w (DgPost y (vb 4294967296 xs) w) := by
  obtain ⟨i0, hi, iz0, iz1, iz2⟩ := info_parts info64
  have h1 := fun (o : Obj) => h.below (bl1 w o) hB
  have hn : n ≤ 600 := by have := (vld_top hx).2; have := h.len.out; omega
  obtain ⟨p, hp⟩ : ∃ p, p = vb 4294967296 xs := ⟨_, rfl⟩
  obtain ⟨M, hMM⟩ : ∃ M, M = 1200 := ⟨_, rfl⟩
  have HPM := Lib.hid (show p < 65536 ^ M by rw [hp, ← big65 hMM]; exact vld_lt h.lim hx)
  have hM : M ≤ 1200 := by omega
  have HP := Lib.hid hp
  have HT := Lib.hid (vld_top hx).1
  rw [← hp]
  clear hp hMM
  go_enter Try.func101, Try.ntmps101
  go_wp2_with fail
  refine (checkOne_ok _ B A n c xs (h1 _) (by simp; omega) hx).mono ?_
  rintro e w1 ⟨rfl, hb⟩
  obtain ⟨hc, hf⟩ := bcell hb
  have hz : w.heap.size < w1.heap.size := by have := hb.size; simp at this; omega
  have hb' : Below w.heap.size w w1 := (bl1 w _).trans (hb.mono (by simp))
  go_wp2_with fail
  refine (checkBase_ok _ (y : Int) (by omega)).mono ?_
  rintro e w2 ⟨rfl, hb2⟩
  obtain ⟨hc2, hf2⟩ := bcell hb2
  have hz2 : w1.heap.size < w2.heap.size := by have := hb2.size; simp at this; omega
  have hbw2 : Below w.heap.size w w2 := (hb'.alloc (by omega) _).trans (hb2.mono (by simp; omega))
  have c0 : w2.cell? ⟨w.heap.size, 0, none⟩ = some (.int .i64 0) := by rw [hc2 w.heap.size 0 (by first | omega | (simp; omega))]; simp [go_sem, hc, hz]
  have c1 : w2.cell? ⟨w.heap.size, 1, none⟩ = some (.int .i64 0) := by rw [hc2 w.heap.size 1 (by first | omega | (simp; omega))]; simp [go_sem, hc, hz]
  have f0 : w2.frozen? ⟨w.heap.size, 0, none⟩ = false := by rw [hf2 w.heap.size 0 (by first | omega | (simp; omega))]; simp [go_sem, hf, hz]
  have f1 : w2.frozen? ⟨w.heap.size, 1, none⟩ = false := by rw [hf2 w.heap.size 1 (by first | omega | (simp; omega))]; simp [go_sem, hf, hz]
  have h2 := fun (o : Obj) => (h.below hbw2 hB).alloc (by omega) o
  clear hc hf hc2 hf2 hb hb2 hb'
  go_wp2_with fail
  refine (largestPower_any _ y hy).mono ?_
  rintro e w' ⟨P, W, rfl, rfl, hLP, hLP2⟩
  have hP0 := hLP.lo
  have hP1 := hLP.hi
  have hW := hLP.wid
  go_wp2_with fail
  refine (clone_any _ B A n c xs (h2 _) (by first | omega | (simp; omega)) (by omega)).mono ?_
  rintro e w3 ⟨A1, c3, rfl, hcn, hcm, hb3, hcl⟩
  obtain ⟨W2, hW2⟩ : ∃ W2 : World, W2 = w2.alloc (.cells #[.int .i64 0, .int .i64 0] 26) := ⟨_, rfl⟩
  rw [← hW2] at hb3 hcl
  have hWs : W2.heap.size = w2.heap.size + 1 := by rw [hW2]; simp
  have hzz2 : w.heap.size < w2.heap.size := by omega
  have C0 : W2.cell? ⟨w.heap.size, 0, none⟩ = some (.int .i64 0) := by rw [hW2, World.cell?_alloc_lt _ _ _ hzz2]; exact c0
  have C1 : W2.cell? ⟨w.heap.size, 1, none⟩ = some (.int .i64 0) := by rw [hW2, World.cell?_alloc_lt _ _ _ hzz2]; exact c1
  have F0 : W2.frozen? ⟨w.heap.size, 0, none⟩ = false := by rw [hW2, World.frozen?_alloc_past _ _ _ hzz2]; exact f0
  have F1 : W2.frozen? ⟨w.heap.size, 1, none⟩ = false := by rw [hW2, World.frozen?_alloc_past _ _ _ hzz2]; exact f1
  have hbW : Below w.heap.size w W2 := by rw [hW2]; exact hbw2.alloc (by omega) _
  have hs3 := hb3.size
  have hl := h.len.out
  have HLx := Lib.hid h.lim
  obtain ⟨g, hg⟩ : ∃ g, 0 < n → A1 = some ⟨g, 0, none⟩ ∧ W2.heap.size ≤ g ∧ g < w3.heap.size ∧ R32 w3 g xs := by
    rcases Nat.eq_zero_or_pos n with e | e
    · exact ⟨0, fun h => absurd h (by omega)⟩
    · obtain ⟨g, a1, a2, a3⟩ := hcl e
      exact ⟨g, fun _ => ⟨a1, a2, a3.lt, a3⟩⟩
  have HGB := Lib.hid (show 0 < n → W2.heap.size ≤ g ∧ g < w3.heap.size from fun e => ⟨(hg e).2.1, (hg e).2.2.1⟩)
  have HG1 := Lib.hid (show 0 < n → A1 = some ⟨g, 0, none⟩ ∧ R32 w3 g xs from fun e => ⟨(hg e).1, (hg e).2.2.2⟩)
  have hn0 : 0 < n ∨ n = 0 := by omega
  obtain ⟨B3, hB3⟩ : ∃ B3, B3 = w3.heap.size := ⟨_, rfl⟩
  have hB3' : B3 ≤ w3.heap.size := by omega
  have hB3W : W2.heap.size ≤ B3 := by omega
  rw [← hB3] at HGB
  clear c0 c1 f0 f1 hW2 hcl hg h2 h1 h hbw2 hB3
  go_wp2_with fail
  go_loopg [10, 11] p (fun v s10 s11 wr => (0 < n ∨ v = 0) ∧ DgRel y p g B3 W2 v s10 s11 wr)
  case atStart =>
    refine ⟨?_, A1, n, c3, xs, [], rfl, HG1.out, by omega, hcn, hcm, HLx.out, ?_, World.ownsRow_nil _ _ _ _, (by intro x hx; cases hx), hb3, hB3', (by show _ = _; simp [vb_nil])⟩
    · rcases hn0 with e | e
      · exact .inl e
      · right; rw [HP.out, List.eq_nil_of_length_eq_zero (hl.trans e), vb_nil]
    · show Rep _ _ _
      rw [List.take_of_length_le (by omega)]
      exact ⟨HLx.out, HP.out.symm, HT.out⟩
  case round =>
    clear HG1 hb3 hB3' hs3 hcn hcm hl HLx HT hn0
    obtain ⟨hnv, A2, k, c4, cs, zs, rfl, hR, hkc, hk4, hc4, hcl, hCr, hown, hzd, hbw, hB3r, HS⟩ := hrel
    have hsz := hbw.size
    by_cases h0 : k = 0
    · have HV0 := Lib.hid (rep_nil hCr.out (show (cs.take k).length = k by rw [List.length_take]; omega) h0)
      subst h0
      have HVal := Lib.hid (show vb y zs = p by have := HS.out; rw [HV0.out] at this; simpa using this)
      obtain ⟨A5, c5, rfl, hc1, hc2⟩ := own_shape hown
      have hzw := hzd.wide (show y ≤ 65536 by omega)
      have hdr := own_drd hown hzw
      have hcd := hdr.cap
      obtain ⟨q, hq⟩ : ∃ q, q = zs.length := ⟨_, rfl⟩
      have HQ := Lib.hid hq
      have HO := Lib.hid hown
      rw [← hq] at hdr hcd
      rw [← hq]
      clear hq hown hR hCr HS HV0
      obtain ⟨wo, hwo⟩ : ∃ wo : World, wo = wr := ⟨_, rfl⟩
      go_wp2_with fail
      go_loop [11] (OtRel q zs A5 c5) (fun v => slen v)
      case atStart => exact ⟨q, Nat.le_refl _, rfl, fun j h1 h2 => absurd h1 (by omega)⟩
      case round =>
        obtain ⟨e, he, rfl, hz⟩ := hrel
        have HZ := Lib.hid hz
        clear hz
        obtain ⟨hc6, hf6⟩ := bcell hbw
        have d0 := (hc6 w.heap.size 0 (by omega)).trans C0
        have d1 := (hc6 w.heap.size 1 (by omega)).trans C1
        have g0 := (hf6 w.heap.size 0 (by omega)).trans F0
        have g1 := (hf6 w.heap.size 1 (by omega)).trans F1
        clear hc6 hf6
        by_cases h0 : e = 0
        · subst h0
          have HR := Lib.hid (trimmedG (y := y) (p := p) ⟨Nat.zero_le _, HZ.out, fun m hm => by omega⟩ HQ.out.symm hzd HVal.out)
          go_wp2_with fail
          refine (reverse_nil _ A5 c5 (by omega)).mono ?_
          rintro e w' ⟨rfl, rfl⟩
          go_wp2_with fail
          refine bodyPost_ret (v := .tuple #[.slice A5 0 c5, flt 0 0]) (by simp [results, Try.results101, go_sem, d0, d1]) rfl ⟨A5, 0, c5, [], rfl, drd_cap0 (by omega), ?_, ?_⟩
          · have := HR.out; simpa using this
          · (repeat (first | exact Below.refl _ _ | exact hbW | refine Below.setCell ?_ (by simp; done) _ | refine Below.trans ?_ (Below.mono hbw (by first | omega | (simp; done) | (simp; omega)))))
        · obtain ⟨gg, rfl, hgg, hRR, _⟩ := R64.of_own HO.out (by rw [← HQ.out]; omega)
          obtain ⟨m, rfl⟩ : ∃ m, e = m + 1 := ⟨e - 1, by omega⟩
          have hcell := hRR.cell (j := m) (by rw [← HQ.out]; omega)
          have l1 := nth_nn zs m
          have l2 := hdr.lim.nth m
          clear h0
          by_cases hx0 : nth zs m = 0
          · have hx' : (nth zs m == 0) = true := beq_iff_eq.2 hx0
            have HX := Lib.hid (nth_zero hx0)
            clear hx0
            go_wp2_with fail
            go_round
            case rel => exact ⟨m, by omega, rfl, fun j h1 h2 => by rcases Nat.lt_or_ge m j with h3 | h3; exact HZ.out j (by omega) h2; rw [show j = m by omega]; exact HX.out⟩
            case measure => simp [slen]
          · have hx' : (nth zs m == 0) = false := beq_eq_false_iff_ne.2 hx0
            have HX := Lib.hid (nth_pos hx0)
            clear hx0
            have HR := Lib.hid (trimmedG (y := y) (p := p) (k := m + 1) ⟨by omega, HZ.out, fun i hi => by rw [show i = m by omega]; exact HX.out⟩ HQ.out.symm hzd HVal.out)
            have hpre := hRR.pre (m + 1)
            have hpl : (zs.take (m + 1)).length = m + 1 := by rw [List.length_take, ← HQ.out]; omega
            have hggw : w.heap.size < gg := by omega
            have hne : gg ≠ w.heap.size := by omega
            go_wp2_with fail
            refine (reverse_any wr gg (m + 1) c5 _ hpre hpl (by omega)).mono ?_
            rintro e w7 ⟨rfl, hR7, hg7⟩
            have hb7 : Below W2.heap.size W2 w7 := hbw.grown hg7 hsz (fun k hk => by injection hk with hk; omega)
            obtain ⟨hc6, hf6⟩ := bcell hb7
            have d0 := (hc6 w.heap.size 0 (by omega)).trans C0
            have d1 := (hc6 w.heap.size 1 (by omega)).trans C1
            have g0 := (hf6 w.heap.size 0 (by omega)).trans F0
            have g1 := (hf6 w.heap.size 1 (by omega)).trans F1
            clear hc6 hf6
            have hrl : (zs.take (m + 1)).reverse.length = m + 1 := by rw [List.length_reverse, hpl]
            have hrd : Dig 65536 (zs.take (m + 1)).reverse := fun x hx => hzw x (List.mem_of_mem_take (List.mem_reverse.1 hx))
            have hR8 := (hR7.far (p := ⟨w.heap.size, 0, none⟩) hne (.int .i64 0)).far (p := ⟨w.heap.size, 1, none⟩) hne (.int .i64 0)
            have hL8 := Lib.hid (hR8.lift hrd (c := c5) hrl (by omega))
            clear hrd hR7 hpre
            go_wp2_with fail
            refine bodyPost_ret (v := .tuple #[.slice (some ⟨gg, 0, none⟩) (m + 1) c5, flt 0 0]) (by simp [results, Try.results101, go_sem, d0, d1]) rfl ⟨_, m + 1, c5, _, rfl, hL8.out, ?_, ?_⟩
            · rw [List.reverse_reverse]; exact HR.out
            · (repeat (first | exact Below.refl _ _ | exact hbW | refine Below.setCell ?_ (by simp; done) _ | refine Below.trans ?_ (Below.mono hb7 (by first | omega | (simp; done) | (simp; omega)))))
    · have hk0 : 0 < k := by omega
      have hv0 := rep_pos4 hCr.out (show (cs.take k).length = k by rw [List.length_take]; omega) hk0
      have hnn : 0 < n := by omega
      obtain ⟨hgl, hgh⟩ := HGB.out hnn
      have hRb := (hR hk0).2
      have hAe := (hR hk0).1
      clear hR
      subst hAe
      have hL := fg_len HS.out hv0 hy.1 HPM.out
      clear h0 hnv
      go_wp2_with fail
      refine (divideBySmall_any wr g k c4 cs (P : Int) hRb hcl hkc (by omega) ⟨hk4, hc4⟩).mono ?_
      rintro e w5 ⟨r, cs', rfl, r0, r1, hR5, hL5, hg5, hD5⟩
      have hlen5 := hD5.1
      have HD := Lib.hid (ds_val hD5 hkc hCr.out.val)
      have hown5 := hown.kept hg5 (.inr (fun e => by have := hown.lt _ e; omega))
      have hb5 : Below W2.heap.size W2 w5 := hbw.grown hg5 hsz (fun k hk => by injection hk with hk; omega)
      have hs5 : B3 ≤ w5.heap.size := by have := hg5.size; omega
      have hgw5 := hR5.lt
      have hl5 := hR5.lrd0 hL5 (B := w5.heap.size) (n := k) (c := c4) hgw5 (by omega) ⟨hk4, hc4⟩
      obtain ⟨rn, rfl⟩ := Int.eq_ofNat_of_zero_le r0
      rw [Int.toNat_natCast] at HD
      have hrn : rn < P := by omega
      clear hown hbw hRb hg5 hD5 r0 r1
      go_wp2_with fail
      refine (trim_any _ _ _ k c4 _ hl5).mono ?_
      rintro e w' ⟨t, rfl, ht5, rfl⟩
      have htk := ht5.le
      have HQ5 := Lib.hid (show Rep 4294967296 (cs'.take t) (vb 4294967296 (cs'.take k)) by
        have := trimmed ht5 hl5.len.out hl5.lim
        rwa [List.take_take, Nat.min_eq_left htk] at this)
      obtain ⟨q, hq⟩ : ∃ q, q = vb 4294967296 (cs'.take k) := ⟨_, rfl⟩
      rw [← hq] at HD HQ5
      have HMs := Lib.hid (show q < gk by
        have h5 := HD.out
        have h6 : q * 2 ≤ q * P := Nat.mul_le_mul_left _ (by
          have h7 := hLP2
          rcases Nat.lt_or_ge P 2 with e | e
          · exfalso
            have : P * y ≤ 1 * 36 := Nat.mul_le_mul (by omega) hy.2
            omega
          · exact e)
        omega)
      have HRn := Lib.hid (show rn < y ^ (W - 0) by rw [Nat.sub_zero, ← hLP.pow]; exact hrn)
      obtain ⟨L, hLL⟩ : ∃ L, L = zs.length := ⟨_, rfl⟩
      have HLL := Lib.hid hLL
      rw [← hLL] at hL
      clear hl5 ht5 hq hLL hcl hCr
      obtain ⟨wo, hwo⟩ : ∃ wo : World, wo = w5 := ⟨_, rfl⟩
      go_wp2_with fail
      go_loopw [11, 12, 42] (DjRel y L W g B3 (rn * y ^ L + vb y zs) W2 cs') (fun _ _ j _ => W - (intOf j).toNat)
      case atStart => exact ⟨0, rn, zs, Nat.zero_le _, rfl, rfl, by omega, HRn, hown5, (by show _ = _; rw [HLL.out]; rfl), hzd, hb5, hs5, hR5, (by show _ = _; rw [Nat.add_zero])⟩
      case round =>
        clear hown5 hb5 hs5 hR5 hgw5 hsz HRn
        obtain ⟨j, t2, zs2, hj, rfl, rfl, ht2, htl, hown, hzl, hzd2, hbw, hB3w, hR6, HS2⟩ := hrel
        have hsz := hbw.size
        have hzn : zs2.length ≤ 20000 := by have := hzl.out; omega
        by_cases h2 : j < W
        · have ST := Lib.hid (dj_step hzl.out HS2.out)
          have HDv := Lib.hid (dj_div htl.out h2 (by omega))
          have hml : t2 % y < y := Nat.mod_lt _ (by omega)
          have hdl : t2 / y ≤ t2 := Nat.div_le_self _ _
          have hyf : ((y : Int) == 0) = false := beq_eq_false_iff_ne.2 (by omega)
          have hq1 : 0 ≤ (t2 : Int) / (y : Int) ∧ (t2 : Int) / (y : Int) ≤ 4294967295 := ⟨Int.ediv_nonneg (by omega) (by omega), by rw [← Int.natCast_ediv]; omega⟩
          go_wp2_with (at_builtin; refine wpList_append_own _ rfl _ _ 34 rfl B3 3 i0 (.int .i64 0) 1 8 Try.underlying34 hi iz0 iz1 iz2 rfl (by decide) _ _ _ rfl (hown.alloc _) ⟨wr.heap.size, 0, none⟩ 1 1 [.int .i64 ((t2 : Int) % (y : Int))] rfl rfl (cell_one_new _ _ _) (fun u hu => by simp at hu; subst hu; rfl) (by unfold maxLen; omega) (by omega) (by first | (simp; omega) | omega) ?_; intro v' w1 hown' hgrow _)
          rw [show ((t2 : Int) % (y : Int)) = ((t2 % y : Nat) : Int) by simp] at hown'
          have ho := own_snocN hown'
          have hb1 : Below W2.heap.size W2 w1 := (hbw.alloc hsz _).grown hgrow (by simp; omega) (fun k hk => by have := (hown.lt k hk).1; omega)
          have hR7 := (hR6.alloc _).grown hgrow (fun e => by have := (hown.lt _ e.symm).1; omega)
          have hB4 : B3 ≤ w1.heap.size := by have := hgrow.size; simp at this; omega
          clear hown hown' hgrow hR6
          go_wp2_with fail
          go_roundw
          case rel => exact ⟨j + 1, t2 / y, _, by omega, by go_num, by first | rfl | simp, by omega, HDv, ho, (by show _ = _; rw [List.length_append, hzl.out]; rfl), hzd2.push hml, hb1, hB4, hR7, ST.out⟩
          case measure => simp [intOf]; omega
        · obtain rfl : j = W := by omega
          have HT0 := Lib.hid (show t2 = 0 by have := htl.out; rw [Nat.sub_self] at this; simpa using this)
          have HN := Lib.hid (show q * y ^ zs2.length + vb y zs2 = p by
            rw [hzl.out]
            exact dg_next HD.out hLP.pow (by have := HS2.out; rw [HT0.out] at this; exact this) (by rw [HLL.out]; exact HS.out))
          have hkc2 : t ≤ cs'.length := by omega
          have htc : t ≤ c4 := by omega
          go_wp2_with fail
          go_roundg q
          case measure => exact HMs.out
          case rel => exact ⟨.inl hnn, _, t, c4, cs', zs2, rfl, fun _ => ⟨rfl, hR6⟩, hkc2, htc, hc4, hL5, HQ5, hown, hzd2, hbw, hB3w, HN⟩
end Go.Proofs.Ytpjfoggohhlbdaa

namespace Go.Proofs.Ytpjfoggohhlbdaa
open Go.RowKit
set_option maxHeartbeats 400000
set_option maxRecDepth 100000
set_option linter.unusedSimpArgs false
set_option linter.unusedVariables false

def movedV (p : Nat) (s : Int) : Nat := if s < 0 then p / 2 ^ (-s).toNat else p * 2 ^ s.toNat
theorem nil_drd (w : World) : DRd w w.heap.size none 0 0 [] := ⟨rfl, by omega, Dig.nil, fun h0 => absurd h0 (by omega)⟩
theorem nil_repD : Rep 65536 [] 0 := ⟨Dig.nil, rfl, Top.nil⟩
theorem nil_gives {w w' : World} (h : Below w.heap.size w w') : GivesN w 0 (.returned (.slice none 0 0)) w' := ⟨none, 0, 0, [], rfl, nil_drd _, nil_repD, h⟩
theorem mkB (n : Nat) (hn : n ≤ 17592186044416) (w : World) :
    (Instr.makeSlice 45 (.int .i64 (n : Int)) (.int .i64 (n : Int))).run Try.prog w = .ok (.slice (some ⟨w.heap.size, 0, none⟩) n n) (w.alloc (.cells (List.replicate n (Value.bool false)).toArray 4)) := by
  obtain ⟨i, hi, hz, hs, hb⟩ := info_parts infoB
  have hr := run_make (P := Try.prog) w 45 4 i (.bool false) Try.underlying45 hi hz .i64 .i64 (n : Int) (n : Int) (by omega) (by omega) (by rw [hb]; omega) (by omega)
  rw [hr, hs]
  simp only [Int.toNat_natCast, Nat.mul_one]
  congr 3
  have := toList_madeCells_one (Value.bool false) n
  rw [← this]
  simp [Value.cells]
theorem own_made (w : World) (t : TypeId) (n : Nat) (v : Value) (hn : n ≤ 1000000000) : (w.alloc (.cells (List.replicate n v).toArray t)).ownsRow w.heap.size t 1 (.slice (some ⟨w.heap.size, 0, none⟩) n n) n (List.replicate n v) :=
  ⟨by simp, .inr ⟨w.heap.size, n, (List.replicate n v).toArray, rfl, Nat.le_refl _, heap_alloc_new w _, Nat.le_refl _, by unfold maxLen; omega, by simp, by simp⟩⟩
theorem ORd.news {w : World} {B b off n c : Nat} {xs : List Nat} (h : ORd w B (some ⟨b, off, none⟩) n c xs) : ∀ j u, (bools xs)[j]? = some u → w.cell? ((⟨b, off, none⟩ : Addr).add j) = some u := by
  intro j u hu
  rw [add_mk]
  have hj : j < xs.length := by
    rcases Nat.lt_or_ge j xs.length with e | e
    · exact e
    · rw [List.getElem?_eq_none (by simpa using e)] at hu; cases hu
  obtain ⟨b', off', e, _, hc⟩ := h.rd (by have := h.len.out; omega)
  injection e with e; injection e with e1 e2; subst e1; subst e2
  rw [hc j (by have := h.len.out; omega)]
  rw [List.getElem?_map, List.getElem?_eq_getElem hj] at hu
  show some (Value.bool (bt xs j)) = some u
  unfold bt
  rw [List.getD_eq_getElem?_getD, List.getElem?_eq_getElem hj]
  exact hu
theorem bools_one (xs : List Nat) : ∀ u ∈ bools xs, u.oneCell' = true := by
  intro u hu
  obtain ⟨x, _, rfl⟩ := List.mem_map.1 hu
  rfl
theorem bools_rep (n : Nat) (zs : List Nat) : List.replicate n (Value.bool false) ++ bools zs = bools (List.replicate n 0 ++ zs) := by
  unfold bools
  rw [List.map_append, List.map_replicate]
  rfl
theorem vb_zeros (b n : Nat) (zs : List Nat) : vb b (List.replicate n 0 ++ zs) = vb b zs * b ^ n := by
  rw [vb_append, List.length_replicate, Nat.mul_comm (b ^ n)]
  have : vb b (List.replicate n 0) = 0 := by
    unfold vb
    rw [S_zeros (m := 0) (Nat.zero_le _) (fun j _ _ => replicate_getD _ _)]; rfl
  omega
theorem vb_drop {zs : List Nat} (h : Dig 2 zs) (N : Nat) (hN : N ≤ zs.length) : vb 2 (zs.drop N) = vb 2 zs / 2 ^ N := by
  have e : vb 2 zs = vb 2 (zs.take N) + 2 ^ N * vb 2 (zs.drop N) := by
    have h1 := vb_append (b := 2) (zs.take N) (zs.drop N)
    rw [List.take_append_drop, List.length_take, Nat.min_eq_left hN] at h1
    exact h1
  have h2 : vb 2 (zs.take N) < 2 ^ N := by
    have h3 := vb_lt (b := 2) (xs := zs.take N) (by decide) (fun x hx => h x (List.mem_of_mem_take hx))
    rwa [List.length_take, Nat.min_eq_left hN] at h3
  rw [e, Nat.add_comm, Nat.mul_add_div (Nat.two_pow_pos _), Nat.div_eq_of_lt h2]; rfl
theorem ORd.drop {w : World} {B b off n c N : Nat} {zs : List Nat} (h : ORd w B (some ⟨b, off, none⟩) n c zs) (hN : N < n) : ORd w B (some ⟨b, off + N, none⟩) (n - N) (c - N) (zs.drop N) := by
  have hl := h.len.out
  have hc := h.cap
  refine ⟨by show _ = _; rw [List.length_drop]; omega, by omega, fun x hx => h.lim x (List.mem_of_mem_drop hx), fun hn => ?_⟩
  obtain ⟨b', off', e, hb, hcell⟩ := h.rd (by omega)
  injection e with e; injection e with e1 e2; subst e1; subst e2
  refine ⟨b, off + N, rfl, hb, fun j hj => ?_⟩
  have := hcell (N + j) (by omega)
  rw [show off + N + j = off + (N + j) by omega, this]
  show some (Value.bool (bt zs (N + j))) = some (Value.bool (bt (zs.drop N) j))
  unfold bt
  rw [getD_drop]
theorem moved_zero (s : Int) : movedV 0 s = 0 := by unfold movedV; split <;> simp
theorem moved_low {p k : Nat} {s : Int} (hp : p < 2 ^ k) (hs : s ≤ -(k : Int)) (hk : 0 < k) : movedV p s = 0 := by
  unfold movedV
  rw [if_pos (by omega)]
  refine Nat.div_eq_of_lt (Nat.lt_of_lt_of_le hp (Nat.pow_le_pow_right (by decide) (by omega)))
theorem moved_neg (p N : Nat) (hN : 0 < N) : movedV p (-(N : Int)) = p / 2 ^ N := by unfold movedV; rw [if_pos (by omega)]; simp
theorem moved_pos (p N : Nat) : movedV p (N : Int) = p * 2 ^ N := by unfold movedV; rw [if_neg (by omega)]; simp
theorem digD_len2 {xs zs : List Nat} {p n k : Nat} (h : Rep 65536 xs p) (hl : xs.length = n) (h2 : Rep 2 zs p) (hl2 : zs.length = k) : k ≤ 16 * n := by
  rw [← hl2]
  refine h2.length_le (by decide) ?_
  rw [Nat.pow_mul, ← hl]
  exact h.lt_pow (by decide)
set_option maxHeartbeats 4000000 in
theorem moved_any (w : World) (B : Nat) (A : Option Addr) (n c p : Nat) (s : Int) (xs : List Nat) (h : DRd w B A n c xs) (hB : B ≤ w.heap.size) (hM : n ≤ 1000000) (hr : Rep 65536 xs p) (hs : s ≤ 1000000 ∨ p = 0) (hi : -9223372036854775808 ≤ s ∧ s ≤ 9223372036854775807) :
    Calls Try.prog 47 #[.slice A n c, .int .i64 s] w (GivesN w (movedV p s)) := by
  obtain ⟨i0, hi0, hz0, hz1, hz2⟩ := info_parts infoB
  have HX := Lib.hid hr
  have HS := Lib.hid hs
  clear hr hs
  go_enter Try.func47, Try.ntmps47
  go_wp2_with fail
  refine (ones_any w B A n c xs h hB (by omega)).mono ?_
  rintro e w2 ⟨A1, k, c1, zs, rfl, hO, hOr, hb⟩
  rw [HX.out.val] at hOr
  have HO := Lib.hid hOr
  have hk := digD_len2 HX.out h.len.out hOr hO.len.out
  have hcap := hO.cap
  have hsz := hb.size
  clear hOr
  by_cases h0 : k = 0
  · subst h0
    have HP := Lib.hid (show p = 0 from by have := HO.out.val; rw [← this, List.eq_nil_of_length_eq_zero hO.len.out, vb_nil])
    go_wp2_with fail
    go_ret
    rw [HP.out, moved_zero]
    exact nil_gives hb
  · have hk0 : 0 < k := by omega
    have hkf : ((k : Int) == 0) = false := beq_eq_false_iff_ne.2 (by omega)
    have hlt := Lib.hid (show p < 2 ^ k by have := HO.out.lt_pow (by decide); rwa [hO.len.out] at this)
    have hs : s ≤ 1000000 := by
      rcases HS.out with e | e
      · exact e
      · exfalso
        have h7 := HO.out
        rw [e] at h7
        have h8 := h7.length_le (m := 0) (by decide) (by decide)
        have := hO.len.out
        omega
    clear h0
    by_cases h1 : s ≤ -(k : Int)
    · go_wp2_with fail
      go_ret
      rw [moved_low hlt.out h1 hk0]
      exact nil_gives hb
    · obtain ⟨b, off, rfl, hbb, _⟩ := hO.rd hk0
      by_cases h2 : s < 0
      · obtain ⟨N, rfl⟩ : ∃ N : Nat, s = -(N : Int) := ⟨(-s).toNat, by omega⟩
        have hN0 : 0 < N := by omega
        have hNk : N < k := by omega
        have hD := hO.drop hNk
        have HV := Lib.hid (show vb 2 (zs.drop N) = movedV p (-(N : Int)) by rw [vb_drop hO.lim N (by have := hO.len.out; omega), HO.out.val, moved_neg p N hN0])
        go_wp2_with fail
        refine (binary_any w2 _ _ (k - N) (c1 - N) (zs.drop N) hD (Nat.le_refl _) (by omega)).mono ?_
        rintro e w3 ⟨A3, k3, c3, us, rfl, hU, hUr, hb3⟩
        rw [HV.out] at hUr
        go_wp2_with fail
        go_ret
        exact ⟨_, _, _, _, rfl, hU, hUr, hb.trans (hb3.mono hsz)⟩
      · obtain ⟨N, rfl⟩ : ∃ N : Nat, s = (N : Int) := ⟨s.toNat, by omega⟩
        have hN : N ≤ 1000000 := by omega
        have hmk := mkB N (by omega)
        have hown := own_made w2 4 N (.bool false) (by omega)
        have HN := Lib.hid (hO.alloc (Nat.le_refl _) (.cells (List.replicate N (Value.bool false)).toArray 4)).news
        go_wp2_with (at_builtin; refine wpList_append_own_at _ rfl _ _ 45 rfl w2.heap.size 4 i0 (.bool false) 1 1 Try.underlying45 hi0 hz0 hz1 hz2 rfl (by decide) _ N (List.replicate N (.bool false)) rfl hown ⟨b, off, none⟩ k c1 (bools zs) rfl ?c1 HN.out (bools_one zs) ?c3 ?c4 ?c5 ?_)
        case c1 => rw [List.length_map, hO.len.out]; omega
        case c3 => unfold maxLen; omega
        case c4 => omega
        case c5 => simp
        intro v' w3 hown3 hgr _ _
        rw [bools_rep] at hown3
        obtain ⟨A', c', rfl, hc1, hc2⟩ := own_shape hown3
        have hb3 : Below w2.heap.size w2 w3 := (bl1 w2 _).grown hgr (by simp) (fun k hk => by simp [Value.ownBlock] at hk; omega)
        have hdz : Dig 2 (List.replicate N 0 ++ zs) := by
          intro x hx
          rcases List.mem_append.1 hx with e | e
          · have := List.eq_of_mem_replicate e; omega
          · exact hO.lim x e
        have hor := own_ord hown3 hdz
        have HV := Lib.hid (show vb 2 (List.replicate N 0 ++ zs) = movedV p (N : Int) by rw [vb_zeros, HO.out.val, moved_pos])
        clear hown3 hgr HN hown hmk
        go_wp2_with fail
        refine (binary_any w3 _ _ (N + k) c' _ hor (Nat.le_refl _) (by omega)).mono ?_
        rintro e w4 ⟨A3, k3, c3, us, rfl, hU, hUr, hb4⟩
        rw [HV.out] at hUr
        go_wp2_with fail
        go_ret
        exact ⟨_, _, _, _, rfl, hU, hUr, (hb.trans (hb3.mono hsz)).trans (hb4.mono (by have := hb3.size; omega))⟩
end Go.Proofs.Ytpjfoggohhlbdaa
