/- The reference's Ones: binary digits, as lists of bools. The reference's Halve and Double. The reference's Common: the greatest common divisor. Digits: checkBase, largestPower, slices.Reverse. The reference's Binary and Small. The reference's Figures and Read: digits to a base. The reference's Read and Numbers. Exported function: Digits. The reference's Moved. -/
import Derived.Test.YtfgkhdpdjclmkaaGreatBd
import Derived.Test.YtfgkhdpdjclmkaaGreatBa
import Derived.Deep.QuietTactic
import Derived.BigQuiet
import Derived.Deep.LoopGhost
import Derived.BigRegion
import Derived.Deep.RegionWith
import Derived.Deep.RegionHeld3
import Derived.Deep.DeepCutAuto
import Derived.Test.YtfgkhdpdjclmkaaGreatBc
namespace Go.Proofs.YtfgkhdpdjclmkaaGreat
open Go.RowKit
set_option maxHeartbeats 400000
set_option maxRecDepth 100000
set_option linter.unusedSimpArgs false
set_option linter.unusedVariables false

/-- Binary digit j, as a bool. -/
@[irreducible] def bt (xs : List Nat) (j : Nat) : Bool := xs.getD j 0 == 1
theorem bt_true {xs : List Nat} {j : Nat} (h : bt xs j = true) : xs.getD j 0 = 1 := by unfold bt at h; exact beq_iff_eq.1 h
theorem bt_false {xs : List Nat} {j : Nat} (hd : Dig 2 xs) (h : bt xs j = false) : xs.getD j 0 = 0 := by
  unfold bt at h
  have h1 := beq_eq_false_iff_ne.1 h
  have h2 := Dig.at_ hd (by decide) j
  omega
abbrev bools (xs : List Nat) : List Value := xs.map fun (x : Nat) => Value.bool (x == 1)
structure ORd (w : World) (B : Nat) (A : Option Addr) (n c : Nat) (xs : List Nat) : Prop where
  len : Hid (xs.length = n)
  cap : n ≤ c ∧ c ≤ 9223372036854775807
  lim : Dig 2 xs
  rd : Rd w B A n (fun j => .bool (bt xs j))
section
variable {w w' : World} {B B' n m c : Nat} {A : Option Addr} {xs : List Nat}
theorem ORd.keep (h : ORd w B A n c xs) (hk : ∀ p : Addr, p.block < B → w'.cell? p = w.cell? p) : ORd w' B A n c xs := ⟨h.len, h.cap, h.lim, h.rd.keep hk⟩
theorem ORd.more (h : ORd w B A n c xs) (hB : B ≤ B') : ORd w B' A n c xs := ⟨h.len, h.cap, h.lim, h.rd.more hB⟩
theorem ORd.below (h : ORd w B A n c xs) (hb : Below B' w w') (hB : B ≤ B') : ORd w' B A n c xs := ⟨h.len, h.cap, h.lim, h.rd.below hb hB⟩
theorem ORd.alloc (h : ORd w B A n c xs) (hB : B ≤ w.heap.size) (o : Obj) : ORd (w.alloc o) B A n c xs := h.keep fun p hp => World.cell?_alloc_lt w o p (by omega)
end
theorem infoB : (Tryz.prog.info? 4).map (fun i => (i.zero, i.size, i.bytes)) = some (some (.bool false), 1, 1) := by kernel_rfl
/-- What the call owns, read. -/
theorem own_rd {w : World} {base n c : Nat} {T : TypeId} {A : Option Addr} {vs : List Value} (h : w.ownsRow base T 1 (.slice A n c) n vs) :
    n ≤ c ∧ c ≤ 9223372036854775807 ∧ vs.length = n ∧ Rd w w.heap.size A n (fun j => vs.getD j undef) := by
  have hl : vs.length = n := by have := h.1; omega
  obtain ⟨A', c', e, h1, h2⟩ := own_shape h
  injection e with e1 e2 e3
  subst e3
  refine ⟨h1, h2, hl, fun hn => ?_⟩
  rcases h.2 with ⟨_, h0⟩ | ⟨g, cap, cur, hv, hg, hh, _, _, _, h3⟩
  · omega
  · injection hv with e1 e2 e3
    subst e1
    have hR : Row w g T (vs ++ cur.toList.drop (n * 1)) := by
      unfold Row
      rw [← h3, List.take_append_drop, hh]
    refine ⟨g, 0, rfl, hR.lt, fun j hj => ?_⟩
    show _ = some (vs.getD j undef)
    rw [Nat.zero_add, hR.cell, List.getElem?_append_left (by omega), List.getD_eq_getElem?_getD]
    rw [List.getElem?_eq_getElem (by omega)]
    rfl
theorem own_ord {w : World} {base n c : Nat} {A : Option Addr} {zs : List Nat} (h : w.ownsRow base 4 1 (.slice A n c) n (bools zs)) (hd : Dig 2 zs) : ORd w w.heap.size A n c zs := by
  obtain ⟨h1, h2, h3, h4⟩ := own_rd h
  have hl : zs.length = n := by simpa using h3
  refine ⟨hl, ⟨h1, h2⟩, hd, h4.congr fun j hj => ?_⟩
  unfold bt
  simp [show j < zs.length by omega]
theorem bools_snoc (zs : List Nat) {v : Int} (hv : 0 ≤ v) : bools (zs ++ [v.toNat]) = bools zs ++ [.bool (v == 1)] := by
  obtain ⟨v, rfl⟩ := Int.eq_ofNat_of_zero_le hv
  simp [bools]
  rcases Nat.decEq v 1 with e | e
  · rw [beq_eq_false_iff_ne.2 e, beq_eq_false_iff_ne.2 (by omega)]
  · subst e; rfl
theorem own_nextB {w wr w1 : World} {v v' : Value} {zs : List Nat} {x : Int} {o : Obj} (hx : 0 ≤ x) (hb : Below w.heap.size w wr) (hown : wr.ownsRow w.heap.size 4 1 v zs.length (bools zs))
    (hown' : w1.ownsRow w.heap.size 4 1 v' (zs.length + 1) (bools zs ++ [.bool (x == 1)])) (hg : (wr.alloc o).grownBy w1 v.ownBlock) :
    w1.ownsRow w.heap.size 4 1 v' (zs ++ [x.toNat]).length (bools (zs ++ [x.toNat])) ∧ Below w.heap.size w w1 := by
  refine ⟨by rw [bools_snoc zs hx, List.length_append]; exact hown', ?_⟩
  exact (hb.alloc hb.size o).grown hg (by have := hb.size; simp; omega) (fun k hk => (hown.lt k hk).1)
theorem Dig.snoc2 {zs : List Nat} {x : Nat} (h : Dig 2 zs) (hx : x < 2) : Dig 2 (zs ++ [x]) := by
  intro y hy
  rcases List.mem_append.1 hy with e | e
  · exact h y e
  · rw [List.mem_singleton] at e; omega
/-- What a function gives that makes binary digits. -/
def GivesO (w : World) (p : Nat) (e : Ending) (w' : World) : Prop :=
  ∃ A k c zs, e = .returned (.slice A k c) ∧ ORd w' w'.heap.size A k c zs ∧ Rep 2 zs p ∧ Below w.heap.size w w'
def OnRel (n : Nat) (xs : List Nat) (w : World) (out i : Value) (wr : World) : Prop :=
  ∃ (k : Nat) (zs : List Nat), k ≤ n ∧ i = .int .i64 k ∧ wr.ownsRow w.heap.size 4 1 out zs.length (bools zs) ∧ Hid (zs.length = 16 * k) ∧ Dig 2 zs ∧ Below w.heap.size w wr ∧
    Hid (S 2 (fun i => zs.getD i 0) (16 * k) = S 65536 (fun i => xs.getD i 0) k)
def OiRel (k : Nat) (xs : List Nat) (w : World) (out x j : Value) (wr : World) : Prop :=
  ∃ (t : Nat) (v : Int) (zs : List Nat), t ≤ 16 ∧ j = .int .i64 t ∧ x = .int .i64 v ∧ 0 ≤ v ∧ v < 65536 ∧ Hid (v < 2 ^ (16 - t)) ∧ wr.ownsRow w.heap.size 4 1 out zs.length (bools zs) ∧ Hid (zs.length = 16 * k + t) ∧ Dig 2 zs ∧ Below w.heap.size w wr ∧
    Hid (S 2 (fun i => zs.getD i 0) (16 * k + t) + v.toNat * 2 ^ (16 * k + t) = S 65536 (fun i => xs.getD i 0) (k + 1))
theorem on_start {zs xs : List Nat} {k : Nat} (h : S 2 (fun i => zs.getD i 0) (16 * k) = S 65536 (fun i => xs.getD i 0) k) :
    S 2 (fun i => zs.getD i 0) (16 * k + 0) + (nth xs k).toNat * 2 ^ (16 * k + 0) = S 65536 (fun i => xs.getD i 0) (k + 1) := by
  rw [S_succ, Nat.add_zero, h, show (65536 : Nat) ^ k = 2 ^ (16 * k) by rw [Nat.pow_mul]]
  unfold nth
  rw [Int.toNat_natCast]
theorem on_nat {z d x y P : Nat} (h : d + 2 * y = x) : z + d * P + y * (P * 2) = z + x * P := by subst h; grind
theorem on_step {zs xs : List Nat} {m : Nat} {v : Int} {R : Nat} (hk : zs.length = m) (hv : 0 ≤ v) (h : S 2 (fun i => zs.getD i 0) m + v.toNat * 2 ^ m = R) :
    S 2 (fun i => (zs ++ [(v % 2).toNat]).getD i 0) (m + 1) + (v / 2).toNat * 2 ^ (m + 1) = R := by
  rw [S_snoc hk, Nat.pow_succ, ← h]
  exact on_nat (by omega)
theorem on_half {v : Int} {t : Nat} (h : v < 2 ^ (16 - t)) (ht : t < 16) : v / 2 < 2 ^ (16 - (t + 1)) := by
  rw [show 16 - t = (16 - (t + 1)) + 1 by omega, Int.pow_succ] at h
  omega
theorem on_end {zs xs : List Nat} {k : Nat} {v : Int} (h0 : 0 ≤ v) (h1 : v < 2 ^ (16 - 16)) (h : S 2 (fun i => zs.getD i 0) (16 * k + 16) + v.toNat * 2 ^ (16 * k + 16) = S 65536 (fun i => xs.getD i 0) (k + 1)) :
    S 2 (fun i => zs.getD i 0) (16 * (k + 1)) = S 65536 (fun i => xs.getD i 0) (k + 1) := by
  simp at h1
  obtain rfl : v = 0 := by omega
  rw [← h, show 16 * (k + 1) = 16 * k + 16 by omega]
  simp
def OtRel (n : Nat) (zs : List Nat) (A : Option Addr) (c : Nat) (v : Value) : Prop := ∃ k, k ≤ n ∧ v = .slice A k c ∧ ∀ j, k ≤ j → j < n → zs.getD j 0 = 0
theorem trimmed2 {w w0 : World} {n c k p : Nat} {A : Option Addr} {zs : List Nat} (h : ORd w w.heap.size A n c zs) (ht : TrimTo n zs k) (hb : Below w0.heap.size w0 w) (hv : vb 2 zs = p) : GivesO w0 p (.returned (.slice A k c)) w := by
  have hk := ht.le
  have hl := h.len.out
  have e : (zs.take k).length = k := by rw [List.length_take]; omega
  subst hv
  refine ⟨A, k, c, zs.take k, rfl, ⟨e, ⟨by have := h.cap; omega, h.cap.2⟩, fun x hx => h.lim x (List.mem_of_mem_take hx), ?_⟩, ⟨fun x hx => h.lim x (List.mem_of_mem_take hx), vb_take_of_zeros (by omega) (fun j h1 h2 => ht.zeros j h1 (by omega)), fun m hm => ?_⟩, hb⟩
  · refine (h.rd.take hk).congr fun j hj => ?_
    unfold bt
    rw [getD_take, if_pos hj]
  · rw [getD_take, if_pos (by omega)]
    exact ht.top m (by omega)
set_option maxHeartbeats 4000000 in
theorem ones_any (w : World) (B : Nat) (A : Option Addr) (n c : Nat) (xs : List Nat) (h : DRd w B A n c xs) (hB : B ≤ w.heap.size) (hM : n ≤ 100000000000) :
    Calls Tryz.prog 111 #[.slice A n c] w (GivesO w (vb 65536 xs)) := by
  obtain ⟨i0, hi, hz0, hz1, hz2⟩ := info_parts infoB
  have hcap := h.cap
  have hxl := Lib.hid h.len.out
  go_enter Tryz.func111, Tryz.ntmps111
  go_wp2_with fail
  go_loopw [3, 4] (OnRel n xs w) (fun _ i _ => n - (intOf i).toNat)
  case atStart => exact ⟨0, [], by omega, rfl, World.ownsRow_nil _ _ _ _, rfl, (by intro x hx; cases hx), Below.refl _ _, (by show _ = _; simp [S_zero])⟩
  case round =>
    obtain ⟨k, zs0, hk, rfl, hown0, hzl0, hzd0, hb0, HS0⟩ := hrel
    have hsz0 := hb0.size
    by_cases h1 : k < n
    · obtain ⟨b, off, rfl, hb, hc⟩ := h.rd (by omega)
      have g1 := (hb0.cell (p := ⟨b, off + k, none⟩) (by show b < _; omega)).trans (hc k (by omega))
      have a1 := nth_nn xs k
      have a2 := h.lim.nth k
      have HST := Lib.hid (on_start HS0.out)
      clear hc
      obtain ⟨wo, hwo⟩ : ∃ wo : World, wo = wr := ⟨_, rfl⟩
      go_wp2_with fail
      go_loopw [3, 5, 6] (OiRel k xs w) (fun _ _ j _ => 16 - (intOf j).toNat)
      case atStart => exact ⟨0, nth xs k, zs0, by omega, rfl, rfl, a1, a2, (by show _ < _; exact a2), hown0, (by show _ = _; rw [hzl0.out, Nat.add_zero]), hzd0, hb0, HST.out⟩
      case round =>
        clear hown0 hzl0 hzd0 hb0 hsz0 HST a1 a2 g1
        obtain ⟨t, v, zs, ht, rfl, rfl, v0, v1, hvt, hown, hzl, hzd, hbw, HS⟩ := hrel
        have hsz := hbw.size
        have hzn : zs.length ≤ 16 * n := by have := hzl.out; omega
        by_cases h2 : t < 16
        · have ST := Lib.hid (on_step (xs := xs) hzl.out v0 HS.out)
          have hv2 := Lib.hid (on_half hvt.out h2)
          go_wp2_with (at_builtin; refine wpList_append_own _ rfl _ _ 109 rfl w.heap.size 4 i0 (.bool false) 1 1 Tryz.underlying109 hi hz0 hz1 hz2 rfl (by decide) _ _ _ rfl (hown.alloc _) ⟨wr.heap.size, 0, none⟩ 1 1 [.bool (v % 2 == 1)] rfl rfl (cell_one_new _ _ _) (fun u hu => by simp at hu; subst hu; rfl) (by unfold maxLen; omega) (by omega) (by first | (simp; omega) | omega) ?_; intro v' w1 hown' hgrow _)
          obtain ⟨ho, hb1⟩ := own_nextB (Int.emod_nonneg _ (by decide)) hbw hown hown' hgrow
          clear hown hown' hgrow
          go_wp2_with fail
          go_roundw
          case rel => exact ⟨t + 1, v / 2, _, by omega, by go_num, rfl, by omega, by omega, hv2, ho, (by show _ = _; rw [List.length_append, hzl.out]; rfl), hzd.snoc2 (by omega), hb1, ST.out⟩
          case measure => simp [intOf]; omega
        · obtain rfl : t = 16 := by omega
          have SN := Lib.hid (on_end v0 hvt.out HS.out)
          go_wp2_with fail
          go_roundw
          case rel => exact ⟨k + 1, zs, by omega, by go_num, hown, (by show _ = _; rw [hzl.out]; omega), hzd, hbw, SN.out⟩
          case measure => simp [intOf]; omega
    · obtain rfl : k = n := by omega
      have HV := Lib.hid (show vb 2 zs0 = vb 65536 xs by unfold vb; rw [hzl0.out, hxl.out]; exact HS0.out)
      obtain ⟨A', c', rfl, hc1, hc2⟩ := own_shape hown0
      have hor := own_ord hown0 hzd0
      have hcz := hor.cap
      obtain ⟨q, hq⟩ : ∃ q, q = zs0.length := ⟨_, rfl⟩
      rw [← hq] at hor hcz
      rw [← hq]
      obtain ⟨wo, hwo⟩ : ∃ wo : World, wo = wr := ⟨_, rfl⟩
      go_wp2_with fail
      go_loop [3] (OtRel q zs0 A' c') (fun v => slen v)
      case atStart => exact ⟨q, Nat.le_refl _, rfl, fun j h1 h2 => absurd h1 (by omega)⟩
      case round =>
        obtain ⟨e, he, rfl, hz⟩ := hrel
        have HZ := Lib.hid hz
        clear hz
        by_cases h0 : e = 0
        · subst h0
          go_wp2_with fail
          go_ret
          exact trimmed2 hor ⟨Nat.zero_le _, HZ.out, fun m hm => by omega⟩ hb0 HV.out
        · obtain ⟨b, off, rfl, hb, hc⟩ := hor.rd (by omega)
          obtain ⟨m, rfl⟩ : ∃ m, e = m + 1 := ⟨e - 1, by omega⟩
          have hcell : wr.cell? ⟨b, off + m, none⟩ = some (.bool (bt zs0 m)) := hc m (by omega)
          clear hc h0
          by_cases hx : bt zs0 m = true
          · have HX := Lib.hid (bt_true hx)
            rw [hx] at hcell
            go_wp2_with fail
            go_ret
            exact trimmed2 hor ⟨by omega, HZ.out, fun i hi => by rw [show i = m by omega, HX.out]; omega⟩ hb0 HV.out
          · have hx' : bt zs0 m = false := by simpa using hx
            have HX := Lib.hid (bt_false hzd0 hx')
            rw [hx'] at hcell
            clear hx
            go_wp2_with fail
            go_round
            case rel => exact ⟨m, by omega, rfl, fun j h1 h2 => by rcases Nat.lt_or_ge m j with h3 | h3; exact HZ.out j (by omega) h2; rw [show j = m by omega]; exact HX.out⟩
            case measure => simp [slen]
theorem hv_nat {b n k y r u v : Nat} {xs rs : List Nat} (hk : k + 1 ≤ n) (hn : n ≤ rs.length) (e : u + y * v = r * b + xs.getD k 0)
    (h4 : S b (fun t => rs.getD (k + 1 + t) 0) (n - (k + 1)) * y + r = S b (fun t => xs.getD (k + 1 + t) 0) (n - (k + 1))) :
    S b (fun t => (rs.set k v).getD (k + t) 0) (n - k) * y + u = S b (fun t => xs.getD (k + t) 0) (n - k) := by
  rw [show n - k = (n - (k + 1)) + 1 by omega, S_front, S_front, getD_set _ _ _ _ (by omega), if_pos (by omega)]
  rw [S_ext (f := fun i => (rs.set k v).getD (k + (i + 1)) 0) (g := fun t => rs.getD (k + 1 + t) 0) (fun i hi => by rw [getD_set _ _ _ _ (by omega), if_neg (by omega)]; congr 1; omega)]
  rw [S_ext (f := fun i => xs.getD (k + (i + 1)) 0) (g := fun t => xs.getD (k + 1 + t) 0) (fun i hi => by congr 1; omega)]
  simp only [Nat.add_zero]
  rw [← h4]
  generalize xs.getD k 0 = x at *
  clear h4 hk hn
  grind
def HvIs (n y : Nat) (xs : List Nat) (k : Nat) (r : Int) (rs : List Nat) : Prop :=
  rs.length = n ∧ S 65536 (fun t => rs.getD (k + t) 0) (n - k) * y + r.toNat = S 65536 (fun t => xs.getD (k + t) 0) (n - k)
theorem hv_div (a : Nat) (y : Nat) (r : Int) (hr : 0 ≤ r) (b : Nat) :
    ((r * b + (a : Int)) % (y : Int)).toNat + y * ((r * b + (a : Int)) / (y : Int)).toNat = r.toNat * b + a := by
  obtain ⟨r, rfl⟩ := Int.eq_ofNat_of_zero_le hr
  rw [← Int.natCast_mul, ← Int.natCast_add, ← Int.natCast_ediv, ← Int.natCast_emod]
  simp only [Int.toNat_natCast]
  exact Nat.mod_add_div _ _
theorem hv_step {n k y : Nat} {xs rs : List Nat} {r : Int} (hk : k + 1 ≤ n) (hr : 0 ≤ r) (h : HvIs n y xs (k + 1) r rs) :
    HvIs n y xs k ((r * 65536 + nth xs k) % (y : Int)) (rs.set k ((r * 65536 + nth xs k) / (y : Int)).toNat) := by
  obtain ⟨h1, h4⟩ := h
  refine ⟨by rw [List.length_set, h1], ?_⟩
  have e := hv_div (xs.getD k 0) y r hr 65536
  unfold nth
  exact hv_nat hk (by omega) e h4
theorem hv_lim (hi lo : Int) (y : Nat) (hy : 0 < y ∧ y ≤ 65536) (hx : 0 ≤ hi ∧ hi < (y : Int)) (hc : 0 ≤ lo ∧ lo < 65536) :
    0 ≤ (hi * 65536 + lo) / (y : Int) ∧ (hi * 65536 + lo) / (y : Int) < 65536 ∧ 0 ≤ (hi * 65536 + lo) % (y : Int) ∧ (hi * 65536 + lo) % (y : Int) < y :=
  ⟨Int.ediv_nonneg (by omega) (by omega), Int.ediv_lt_of_lt_mul (by omega) (by omega), Int.emod_nonneg _ (by omega), Int.emod_lt_of_pos _ (by omega)⟩
theorem hv_last {n y : Nat} {xs rs : List Nat} {r : Int} (hx : xs.length = n) (hr : 0 ≤ r) (hy : r < (y : Int)) (h : HvIs n y xs 0 r rs) : vb 65536 rs = vb 65536 xs / y ∧ r = ((vb 65536 xs % y : Nat) : Int) := by
  obtain ⟨h1, h4⟩ := h
  simp only [Nat.zero_add, Nat.sub_zero] at h4
  rw [vb_len (xs := rs) (by omega), vb_len (xs := xs) (by omega)] at h4
  obtain ⟨r, rfl⟩ := Int.eq_ofNat_of_zero_le hr
  simp only [Int.toNat_natCast] at h4
  have hy' : r < y := by omega
  rw [← h4]
  constructor
  · rw [Nat.mul_comm, Nat.mul_add_div (by omega), Nat.div_eq_of_lt hy', Nat.add_zero]
  · rw [Nat.mul_comm, Nat.mul_add_mod, Nat.mod_eq_of_lt hy']
def HvRel (n y : Nat) (xs : List Nat) (w : World) (rest i : Value) (wr : World) : Prop :=
  ∃ (k : Nat) (r : Int) (rs : List Nat), k ≤ n ∧ i = .int .i64 ((k : Int) - 1) ∧ rest = .int .i64 r ∧ 0 ≤ r ∧ r < (y : Int) ∧ R64 wr w.heap.size rs ∧ Dig 65536 rs ∧ Below w.heap.size w wr ∧ Hid (HvIs n y xs k r rs)
def HvPost (w : World) (p y : Nat) (e : Ending) (w' : World) : Prop :=
  ∃ A k c zs, e = .returned (.tuple #[.slice A k c, .int .i64 ((p % y : Nat) : Int)]) ∧ DRd w' w'.heap.size A k c zs ∧ Rep 65536 zs (p / y) ∧ Below w.heap.size w w'
set_option maxHeartbeats 1000000 in
theorem halve_any (w : World) (B : Nat) (A : Option Addr) (n c y : Nat) (xs : List Nat) (h : DRd w B A n c xs) (hB : B ≤ w.heap.size) (hn : n ≤ 1000000000000) (hy : 0 < y ∧ y ≤ 65536) :
    Calls Tryz.prog 103 #[.slice A n c, .int .i64 (y : Int)] w (HvPost w (vb 65536 xs) y) := by
  have hcap := h.cap
  have hxl := Lib.hid h.len.out
  have hmk := mk64 n (by omega)
  have hr0 := R64.new w n
  have hy0 : ((y : Int) == 0) = false := beq_eq_false_iff_ne.2 (by omega)
  have hy1 : 0 < (y : Int) ∧ (y : Int) ≤ 65536 := by omega
  go_enter Tryz.func103, Tryz.ntmps103
  go_wp2_with fail
  go_loopw [7, 8] (HvRel n y xs w) (fun _ i _ => (intOf i + 1).toNat)
  case atStart => exact ⟨n, 0, List.replicate n 0, Nat.le_refl _, rfl, rfl, by omega, by omega, hr0, Dig.zeros _, bl1 _ _, ⟨by simp, by simp [S_zero]⟩⟩
  case round =>
    clear hr0
    obtain ⟨k, r, rs, hk, rfl, rfl, r0, r1, hR, hd, hbw, HI⟩ := hrel
    have hlen := Lib.hid HI.out.1
    have hlt := hR.lt
    by_cases h0 : k = 0
    · subst h0
      obtain ⟨hv1, hr2⟩ := hv_last hxl.out r0 r1 HI.out
      have HV := Lib.hid hv1
      clear hv1 HI
      subst hr2
      have hdr := hR.drdAll hd (B := wr.heap.size) (c := n) hlt hlen (by omega)
      go_wp2_with fail
      refine (trimD_any _ _ _ _ _ _ hdr).mono ?_
      rintro e w' ⟨t, rfl, ht, rfl⟩
      go_wp2_with fail
      go_ret2
      obtain ⟨A', k', c', zs, he, g1, g2, g3⟩ := gives_rowD hR hd hlen ht (c := n) (by omega) hbw HV.out
      injection he with he
      injection he with he1 he2 he3
      subst he1; subst he2; subst he3
      exact ⟨_, _, _, _, rfl, g1, g2, g3⟩
    · obtain ⟨j, rfl⟩ : ∃ j, k = j + 1 := ⟨k - 1, by omega⟩
      have ei : ((j + 1 : Nat) : Int) - 1 = (j : Int) := by omega
      rw [ei]
      clear ei h0
      obtain ⟨b, off, rfl, hb, hc⟩ := h.rd (by omega)
      have g1 := (hbw.cell (p := ⟨b, off + j, none⟩) (by show b < _; omega)).trans (hc j (by omega))
      have g3 := hR.cell (j := j) (by have := hlen.out; omega)
      have g4 := hR.frozen j
      have a1 := nth_nn xs j
      have a2 := h.lim.nth j
      have hq := hv_lim r (nth xs j) y hy ⟨r0, r1⟩ ⟨a1, a2⟩
      have ST := Lib.hid (hv_step hk r0 HI.out)
      have b1 : 0 ≤ r * 65536 + nth xs j := by omega
      have b2 : r * 65536 + nth xs j < 4294967296 := by omega
      clear hc
      go_wp2_with fail
      go_roundw
      case rel => exact ⟨j, _, _, by omega, rfl, rfl, hq.2.2.1, hq.2.2.2, hR.put _ hq.1, hd.set (by omega), hbw.setCell (Nat.le_refl _) _, ST.out⟩
      case measure => first | (simp [intOf]; done) | (simp [intOf]; omega)
theorem dbl_nat {b k c d r x z s : Nat} {e : Nat} (h : z + c * b ^ k = 2 * s + e) (hh : r + b * d = 2 * x + c) : z + r * b ^ k + d * b ^ (k + 1) = 2 * (s + x * b ^ k) + e := by
  rw [Nat.pow_succ]
  generalize b ^ k = P at *
  grind
def DbRel (n e0 : Nat) (xs : List Nat) (w : World) (carry out i : Value) (wr : World) : Prop :=
  ∃ (k : Nat) (c : Int) (zs : List Nat), k ≤ n ∧ i = .int .i64 k ∧ carry = .int .i64 c ∧ 0 ≤ c ∧ c ≤ 1 ∧ wr.ownsRow w.heap.size 3 1 out zs.length (digs zs) ∧ Hid (zs.length = k) ∧ Dig 65536 zs ∧ Below w.heap.size w wr ∧
    Hid (S 65536 (fun i => zs.getD i 0) k + c.toNat * 65536 ^ k = 2 * S 65536 (fun i => xs.getD i 0) k + e0)
theorem dbl_step {zs xs : List Nat} {k e0 : Nat} {c t : Int} (hk : zs.length = k) (hc : 0 ≤ c) (ht : t = 2 * nth xs k + c)
    (h : S 65536 (fun i => zs.getD i 0) k + c.toNat * 65536 ^ k = 2 * S 65536 (fun i => xs.getD i 0) k + e0) :
    S 65536 (fun i => (zs ++ [(t % 65536).toNat]).getD i 0) (k + 1) + (t / 65536).toNat * 65536 ^ (k + 1) = 2 * S 65536 (fun i => xs.getD i 0) (k + 1) + e0 := by
  rw [S_snoc hk, S_succ]
  refine dbl_nat h ?_
  unfold nth at ht
  omega
theorem dbl_last0 {xs zs : List Nat} {n e0 : Nat} (hr : zs.length = n) (hx : xs.length = n)
    (h : S 65536 (fun i => zs.getD i 0) n + (0 : Int).toNat * 65536 ^ n = 2 * S 65536 (fun i => xs.getD i 0) n + e0) : vb 65536 zs = 2 * vb 65536 xs + e0 := by
  rw [vb_len (xs := xs) (by omega), vb_len (xs := zs) (by omega)] at h
  simpa using h
theorem dbl_last1 {xs zs : List Nat} {n e0 : Nat} (hr : zs.length = n) (hx : xs.length = n)
    (h : S 65536 (fun i => zs.getD i 0) n + (1 : Int).toNat * 65536 ^ n = 2 * S 65536 (fun i => xs.getD i 0) n + e0) : vb 65536 (zs ++ [(1 : Int).toNat]) = 2 * vb 65536 xs + e0 := by
  rw [vb_len (xs := xs) (by omega), vb_len (xs := zs) (by omega)] at h
  rw [vb_snoc, hr]
  simp only [show (1 : Int).toNat = 1 from rfl] at *
  omega
set_option maxHeartbeats 1000000 in
theorem double_any (w : World) (B : Nat) (A : Option Addr) (n c : Nat) (one : Bool) (xs : List Nat) (h : DRd w B A n c xs) (hB : B ≤ w.heap.size) (hn : n ≤ 1000000000000) :
    Calls Tryz.prog 104 #[.slice A n c, .bool one] w (GivesN w (2 * vb 65536 xs + one.toNat)) := by
  obtain ⟨i0, hi, hz0, hz1, hz2⟩ := info_parts info64
  have hcap := h.cap
  have hxl := Lib.hid h.len.out
  obtain ⟨e0, he0⟩ : ∃ e0 : Nat, e0 = one.toNat := ⟨_, rfl⟩
  rw [← he0]
  cases one
  all_goals
    go_enter Tryz.func104, Tryz.ntmps104
    go_wp2_with fail
    go_loopw [5, 6, 7] (DbRel n e0 xs w) (fun _ _ i _ => n - (intOf i).toNat)
    case atStart => exact ⟨0, _, [], by omega, rfl, rfl, by decide, by decide, World.ownsRow_nil _ _ _ _, rfl, Dig.nil, Below.refl _ _, (by show _ = _; simp [S_zero, he0])⟩
    case round =>
      obtain ⟨j, q, zs, hj, rfl, rfl, q0, q1, hown, hzl, hzd, hbw, HS⟩ := hrel
      have hzn : zs.length ≤ n := by have := hzl.out; omega
      have hsz := hbw.size
      by_cases h1 : j < n
      · obtain ⟨b, off, rfl, hb, hc⟩ := h.rd (by omega)
        have g1 := (hbw.cell (p := ⟨b, off + j, none⟩) (by show b < _; omega)).trans (hc j (by omega))
        have a1 := nth_nn xs j
        have a2 := h.lim.nth j
        clear hc
        have ST := Lib.hid (dbl_step (t := 2 * nth xs j + q) hzl.out q0 rfl HS.out)
        go_wp2_with (at_builtin; refine wpList_append_own _ rfl _ _ 38 rfl w.heap.size 3 i0 (.int .i64 0) 1 8 Tryz.underlying38 hi hz0 hz1 hz2 rfl (by decide) _ _ _ rfl (hown.alloc _) ⟨wr.heap.size, 0, none⟩ 1 1 [.int .i64 ((2 * nth xs j + q) % 65536)] rfl rfl (cell_one_new _ _ _) (fun u hu => by simp at hu; subst hu; rfl) (by unfold maxLen; omega) (by omega) (by first | (simp; omega) | omega) ?_; intro v' w1 hown' hgrow _)
        obtain ⟨ho, hb1⟩ := own_next (Int.emod_nonneg _ (by decide)) hbw hown hown' hgrow
        clear hown hown' hgrow
        go_wp2_with fail
        go_roundw
        case rel => exact ⟨j + 1, _, _, by omega, by go_num, rfl, Int.ediv_nonneg (by omega) (by decide), by omega, ho, (by show _ = _; rw [List.length_append, hzl.out]; rfl), hzd.snoc (by omega), hb1, ST.out⟩
        case measure => simp [intOf]; omega
      · obtain rfl : j = n := by omega
        by_cases hq : q = 0
        · subst hq
          have HV := Lib.hid (dbl_last0 (xs := xs) hzl.out hxl.out HS.out)
          obtain ⟨A', c', rfl, hc1, hc2⟩ := own_shape hown
          have hdr := own_drd hown hzd
          go_wp2_with fail
          refine (trimD_any _ _ _ _ _ _ hdr).mono ?_
          rintro e w' ⟨t, rfl, ht, rfl⟩
          go_wp2_with fail
          go_ret
          exact gives_own hown hzd ht hbw HV.out
        · obtain rfl : q = 1 := by omega
          have HV := Lib.hid (dbl_last1 (xs := xs) hzl.out hxl.out HS.out)
          clear hq
          go_wp2_with (at_builtin; refine wpList_append_own _ rfl _ _ 38 rfl w.heap.size 3 i0 (.int .i64 0) 1 8 Tryz.underlying38 hi hz0 hz1 hz2 rfl (by decide) _ _ _ rfl (hown.alloc _) ⟨wr.heap.size, 0, none⟩ 1 1 [.int .i64 1] rfl rfl (cell_one_new _ _ _) (fun u hu => by simp at hu; subst hu; rfl) (by unfold maxLen; omega) (by omega) (by first | (simp; omega) | omega) ?_; intro v' w1 hown' hgrow _)
          obtain ⟨ho, hb1⟩ := own_next (by decide) hbw hown hown' hgrow
          clear hown hown' hgrow
          have hzd1 : Dig 65536 (zs ++ [(1 : Int).toNat]) := hzd.snoc (by decide)
          obtain ⟨A', c', rfl, hc1, hc2⟩ := own_shape ho
          have hdr := own_drd ho hzd1
          go_wp2_with fail
          refine (trimD_any _ _ _ _ _ _ hdr).mono ?_
          rintro e w' ⟨t, rfl, ht, rfl⟩
          go_wp2_with fail
          go_ret
          exact gives_own ho hzd1 ht hb1 HV.out
theorem halve2_any (w : World) (B : Nat) (A : Option Addr) (n c : Nat) (xs : List Nat) (h : DRd w B A n c xs) (hB : B ≤ w.heap.size) (hn : n ≤ 1000000000000) :
    Calls Tryz.prog 103 #[.slice A n c, .int .i64 2] w (HvPost w (vb 65536 xs) 2) :=
  halve_any w B A n c 2 xs h hB hn (by decide)
theorem par_nth {xs : List Nat} {p : Nat} (h : Rep 65536 xs p) : nth xs 0 % 2 = ((p % 2 : Nat) : Int) := by
  have hv := h.val
  unfold nth
  cases xs with
  | nil => rw [vb_nil] at hv; subst hv; rfl
  | cons x xs => rw [vb_cons] at hv; simp only [List.getD_cons_zero]; omega
theorem rep_nil {b : Nat} {xs : List Nat} {p n : Nat} (h : Rep b xs p) (hl : xs.length = n) (h0 : n = 0) : p = 0 := by
  have hv := h.val
  rw [List.eq_nil_of_length_eq_zero (hl.trans h0), vb_nil] at hv
  exact hv.symm
theorem rep_posD {xs : List Nat} {p n : Nat} (h : Rep 65536 xs p) (hl : xs.length = n) (h0 : 0 < n) : 0 < p := by
  rcases Nat.eq_zero_or_pos p with e | e
  · exfalso
    subst e
    have := h.length_le (m := 0) (by decide) (by decide)
    omega
  · exact e
theorem rep_lenD {xs : List Nat} {v n M : Nat} (h : Rep 65536 xs v) (hl : xs.length = n) (hv : v < 65536 ^ M) : n ≤ M := by
  rw [← hl]; exact h.length_le (by decide) hv
theorem rep_lt {xs : List Nat} {v n M : Nat} (h : Rep 65536 xs v) (hl : xs.length = n) (hn : n ≤ M) : v < 65536 ^ M :=
  Nat.lt_of_lt_of_le (h.lt_pow (by decide)) (Nat.pow_le_pow_right (by decide) (by omega))
theorem gcd_both {p q t g : Nat} (h : 2 ^ t * Nat.gcd p q = g) (hp : p % 2 = 0) (hq : q % 2 = 0) : 2 ^ (t + 1) * Nat.gcd (p / 2) (q / 2) = g := by
  rw [← h, Nat.pow_succ, Nat.mul_assoc, ← Nat.gcd_mul_left, show 2 * (p / 2) = p by omega, show 2 * (q / 2) = q by omega]
theorem two_co {q : Nat} (h : q % 2 = 1) : Nat.Coprime 2 q := by
  show Nat.gcd 2 q = 1
  rw [Nat.gcd_rec, h]; rfl
theorem gcd_l {p q t g : Nat} (h : 2 ^ t * Nat.gcd p q = g) (hp : p % 2 = 0) (hq : q % 2 = 1) : 2 ^ t * Nat.gcd (p / 2) q = g := by
  rw [← h, ← Nat.Coprime.gcd_mul_left_cancel (p / 2) (two_co hq), show 2 * (p / 2) = p by omega]
theorem gcd_r {p q t g : Nat} (h : 2 ^ t * Nat.gcd p q = g) (hp : p % 2 = 1) (hq : q % 2 = 0) : 2 ^ t * Nat.gcd p (q / 2) = g := by
  rw [← h, ← Nat.Coprime.gcd_mul_left_cancel_right (q / 2) (two_co hp), show 2 * (q / 2) = q by omega]
theorem gcd_subl {p q t g : Nat} (h : 2 ^ t * Nat.gcd p q = g) (hq : q ≤ p) : 2 ^ t * Nat.gcd (p - q) q = g := by
  rw [← h, Nat.gcd_sub_self_left hq]
theorem gcd_subr {p q t g : Nat} (h : 2 ^ t * Nat.gcd p q = g) (hq : p ≤ q) : 2 ^ t * Nat.gcd p (q - p) = g := by
  rw [← h, Nat.gcd_comm, Nat.gcd_sub_self_left hq, Nat.gcd_comm]
theorem pow16 (k : Nat) : (65536 : Nat) ^ k = 2 ^ (16 * k) := by rw [Nat.pow_mul]
theorem twos_lt {t g M p q : Nat} (h : 2 ^ t * Nat.gcd p q = g) (hp : 0 < p) (hg : g < 65536 ^ M) : t + 1 ≤ 16 * M := by
  have h1 : 0 < Nat.gcd p q := Nat.gcd_pos_of_pos_left _ hp
  have h2 : 2 ^ t * 1 ≤ 2 ^ t * Nat.gcd p q := Nat.mul_le_mul_left _ h1
  rw [pow16] at hg
  have h3 : 2 ^ t < 2 ^ (16 * M) := by omega
  have := (Nat.pow_lt_pow_iff_right (by decide : 1 < 2)).1 h3
  omega
theorem gcd_end {p q t g : Nat} (h : 2 ^ t * Nat.gcd p q = g) (h0 : p = 0 ∨ q = 0) : 2 ^ t * (p + q) = g := by
  rw [← h]
  rcases h0 with rfl | rfl
  · simp
  · simp
theorem pow_part {t v g N : Nat} (h : 2 ^ t * v = g) (hg : g < N) : v < N := by
  have h1 : 1 * v ≤ 2 ^ t * v := Nat.mul_le_mul_right _ (Nat.one_le_two_pow)
  omega
theorem dbl_pow {t v g : Nat} (h : 2 ^ (t + 1) * v = g) : 2 ^ t * (2 * v + false.toNat) = g := by
  rw [← h, Nat.pow_succ, Nat.mul_assoc]; rfl
theorem gcd_lt {p q M : Nat} (hp : p < 65536 ^ M) (hq : q < 65536 ^ M) : Nat.gcd p q < 65536 ^ M := by
  rcases Nat.eq_zero_or_pos p with rfl | e
  · rw [Nat.gcd_zero_left]; exact hq
  · exact Nat.lt_of_le_of_lt (Nat.gcd_le_left _ e) hp
def CoRel (M G : Nat) (W : World) (v : Nat) (s0 s1 s5 : Value) (wr : World) : Prop :=
  ∃ A1 k1 c1 xs A2 k2 c2 ys p q, ∃ t : Nat, s0 = .slice A1 k1 c1 ∧ s1 = .slice A2 k2 c2 ∧ s5 = .int .i64 (t : Int) ∧ k1 ≤ M ∧ k2 ≤ M ∧ t ≤ 16 * M ∧ DRd wr wr.heap.size A1 k1 c1 xs ∧ DRd wr wr.heap.size A2 k2 c2 ys ∧
    Hid (Rep 65536 xs p) ∧ Hid (Rep 65536 ys q) ∧ Hid (2 ^ t * Nat.gcd p q = G) ∧ Hid (v = p + q) ∧ Below W.heap.size W wr
def CtRel (G : Nat) (W : World) (s5 s6 : Value) (wr : World) : Prop :=
  ∃ A k c zs v, ∃ t : Nat, s5 = .int .i64 (t : Int) ∧ s6 = .slice A k c ∧ t ≤ 100000000 ∧ DRd wr wr.heap.size A k c zs ∧ Hid (Rep 65536 zs v) ∧ Hid (2 ^ t * v = G) ∧ Below W.heap.size W wr
set_option maxHeartbeats 4000000 in
theorem common_any (w : World) (B : Nat) (A D : Option Addr) (n m c d M p0 q0 : Nat) (xs ys : List Nat) (h : DRd w B A n c xs) (k : DRd w B D m d ys) (hB : B ≤ w.heap.size) (hn : n ≤ M) (hm : m ≤ M) (hM : M ≤ 1000000) (hx : Rep 65536 xs p0) (hy : Rep 65536 ys q0) :
    Calls Tryz.prog 56 #[.slice A n c, .slice D m d] w (GivesN w (Nat.gcd p0 q0)) := by
  have HX := Lib.hid hx
  have HY := Lib.hid hy
  obtain ⟨G, hG⟩ : ∃ G, G = Nat.gcd p0 q0 := ⟨_, rfl⟩
  have HG := Lib.hid hG
  have HGM := Lib.hid (show G < 65536 ^ M by rw [hG]; exact gcd_lt (rep_lt hx h.len.out hn) (rep_lt hy k.len.out hm))
  rw [← hG]
  clear hx hy hG
  have h1 := h.more hB
  have k1 := k.more hB
  go_enter Tryz.func56, Tryz.ntmps56
  go_wp2_with fail
  go_loopg [0, 1, 5] (p0 + q0) (fun v s0 s1 s5 wr => CoRel M G w v s0 s1 s5 wr)
  case atStart => exact ⟨_, _, _, _, _, _, _, _, p0, q0, 0, rfl, rfl, rfl, hn, hm, Nat.zero_le _, h1, k1, HX, HY, (by show _ = _; rw [HG.out]; simp), rfl, Below.refl _ _⟩
  case round =>
    clear h k h1 k1 HX HY HG
    obtain ⟨A1, k1, c1, xs, A2, k2, c2, ys, p, q, t, rfl, rfl, rfl, hk1, hk2, ht, hX, hY, hXr, hYr, hT, hv, hbw⟩ := hrel
    have hcx := hX.cap
    have hcy := hY.cap
    have hsz := hbw.size
    by_cases hex : k1 = 0 ∨ (0 < k1 ∧ k2 = 0)
    · have HE := Lib.hid (gcd_end hT.out (show p = 0 ∨ q = 0 by
        rcases hex with e | e
        · exact .inl (rep_nil hXr.out hX.len.out e)
        · exact .inr (rep_nil hYr.out hY.len.out e.2)))
      obtain ⟨wo, hwo⟩ : ∃ wo : World, wo = wr := ⟨_, rfl⟩
      obtain ⟨N, hN⟩ : ∃ N, N = max k1 k2 := ⟨_, rfl⟩
      have hN1 : k1 ≤ N ∧ k2 ≤ N ∧ (N = k1 ∨ N = k2) ∧ N ≤ M := by omega
      have HP := Lib.hid (plus_any wr wr.heap.size A1 A2 k1 k2 c1 c2 N xs ys hX hY (Nat.le_refl _) hN1.1 hN1.2.1 (by omega) hN1.2.2.1)
      clear hN
      rcases hex with rfl | ⟨hk0, rfl⟩
      all_goals
        go_wp2_with fail
        refine HP.out.mono ?_
        rintro e w1 ⟨A3, k3, c3, zs, rfl, hZ, hZr, hb1⟩
        rw [hXr.out.val, hYr.out.val] at hZr
        have HZ := Lib.hid hZr
        have hb2 := hbw.trans (hb1.mono hsz)
        clear hZr
        go_wp2_with fail
        go_loopw [5, 6] (CtRel G w) (fun s _ _ => (intOf s).toNat)
        case atStart => exact ⟨_, _, _, _, _, t, rfl, rfl, by omega, hZ, HZ, HE, hb2⟩
        case round =>
          clear hZ HZ HE HP hb2 hb1
          obtain ⟨A4, k4, c4, us, v, s, rfl, rfl, hs, hU, hUr, hS, hbz⟩ := hrel
          have hcu := hU.cap
          have hsz2 := hbz.size
          have hk4 : k4 ≤ M := rep_lenD hUr.out hU.len.out (pow_part hS.out HGM.out)
          by_cases h0 : s = 0
          · subst h0
            have HF := Lib.hid (show v = G by have := hS.out; simpa using this)
            go_wp2_with fail
            go_ret
            exact ⟨_, _, _, _, rfl, hU, by rw [← HF.out]; exact hUr.out, hbz⟩
          · obtain ⟨j, rfl⟩ : ∃ j, s = j + 1 := ⟨s - 1, by omega⟩
            clear h0
            have hs0 : 0 < ((j + 1 : Nat) : Int) := by omega
            go_wp2_with fail
            refine (double_any _ _ A4 k4 c4 false us hU (Nat.le_refl _) (by omega)).mono ?_
            rintro e w3 ⟨A5, k5, c5, vs, rfl, hV, hVr, hb3⟩
            rw [hUr.out.val] at hVr
            have HV := Lib.hid hVr
            clear hVr
            go_wp2_with fail
            go_roundw
            case rel => exact ⟨_, _, _, _, _, j, by go_num, rfl, by omega, hV, HV, dbl_pow hS.out, hbz.trans (hb3.mono (by omega))⟩
            case measure => first | (simp [intOf]; done) | (simp [intOf]; omega)
    · have hk10 : 0 < k1 := by omega
      have hk20 : 0 < k2 := by omega
      clear hex
      have hp0 := rep_posD hXr.out hX.len.out hk10
      have hq0 := rep_posD hYr.out hY.len.out hk20
      obtain ⟨b, off, rfl, hb, hc⟩ := hX.rd hk10
      obtain ⟨b', off', rfl, hb', hc'⟩ := hY.rd hk20
      have g1 := hc 0 hk10
      have g2 := hc' 0 hk20
      rw [Nat.add_zero] at g1 g2
      clear hc hc'
      have a1 := nth_nn xs 0
      have a2 := hX.lim.nth 0
      have a3 := nth_nn ys 0
      have a4 := hY.lim.nth 0
      have par1 := par_nth hXr.out
      have par2 := par_nth hYr.out
      by_cases e1 : p % 2 = 0
      · have f1 : (nth xs 0 % 2 == 0) = true := beq_iff_eq.2 (by omega)
        by_cases e2 : q % 2 = 0
        · have f2 : (nth ys 0 % 2 == 0) = true := beq_iff_eq.2 (by omega)
          have HN := Lib.hid (gcd_both hT.out e1 e2)
          have ht1 := twos_lt hT.out hp0 HGM.out
          have HM := Lib.hid (show p / 2 + q / 2 < gk by have := hv.out; omega)
          clear par1 par2 e1 e2 hp0 hq0
          go_wp2_with fail
          refine (halve2_any _ _ _ k1 c1 xs hX (Nat.le_refl _) (by omega)).mono ?_
          rintro e w1 ⟨A3, k3, c3, zs, rfl, hZ, hZr, hb1⟩
          rw [hXr.out.val] at hZr
          have HZ := Lib.hid hZr
          clear hZr
          have hz1 := hb1.size
          have hY1 := (hY.below hb1 (Nat.le_refl _)).more hz1
          go_wp2_with fail
          refine (halve2_any _ _ _ k2 c2 ys hY1 (Nat.le_refl _) (by omega)).mono ?_
          rintro e w2 ⟨A4, k4, c4, us, rfl, hU, hUr, hb2⟩
          rw [hYr.out.val] at hUr
          have HU := Lib.hid hUr
          clear hUr
          have hz2 := hb2.size
          have hZ1 := (hZ.below hb2 (Nat.le_refl _)).more hz2
          have hk3 : k3 ≤ M := Nat.le_trans (HZ.out.length_le (by decide) (Nat.lt_of_le_of_lt (Nat.div_le_self _ _) (hXr.out.lt_pow (by decide))) |> fun e => by have := hZ.len.out; have := hX.len.out; omega) hk1
          have hk4 : k4 ≤ M := Nat.le_trans (HU.out.length_le (by decide) (Nat.lt_of_le_of_lt (Nat.div_le_self _ _) (hYr.out.lt_pow (by decide))) |> fun e => by have := hU.len.out; have := hY.len.out; omega) hk2
          go_wp2_with fail
          go_roundg (p / 2 + q / 2)
          case measure => exact HM.out
          case rel => exact ⟨_, _, _, _, _, _, _, _, _, _, t + 1, rfl, rfl, by go_num, hk3, hk4, ht1, hZ1, hU, HZ, HU, HN, rfl, (hbw.trans (hb1.mono (by omega))).trans (hb2.mono (by omega))⟩
        · have f2 : (nth ys 0 % 2 == 0) = false := beq_eq_false_iff_ne.2 (by omega)
          have HN := Lib.hid (gcd_l hT.out e1 (by omega))
          have HM := Lib.hid (show p / 2 + q < gk by have := hv.out; omega)
          clear par1 par2 e1 e2 hp0 hq0
          go_wp2_with fail
          refine (halve2_any _ _ _ k1 c1 xs hX (Nat.le_refl _) (by omega)).mono ?_
          rintro e w1 ⟨A3, k3, c3, zs, rfl, hZ, hZr, hb1⟩
          rw [hXr.out.val] at hZr
          have HZ := Lib.hid hZr
          clear hZr
          have hz1 := hb1.size
          have hY1 := (hY.below hb1 (Nat.le_refl _)).more hz1
          have hk3 : k3 ≤ M := Nat.le_trans (HZ.out.length_le (by decide) (Nat.lt_of_le_of_lt (Nat.div_le_self _ _) (hXr.out.lt_pow (by decide))) |> fun e => by have := hZ.len.out; have := hX.len.out; omega) hk1
          go_wp2_with fail
          go_roundg (p / 2 + q)
          case measure => exact HM.out
          case rel => exact ⟨_, _, _, _, _, _, _, _, _, _, t, rfl, rfl, rfl, hk3, hk2, ht, hZ, hY1, HZ, hYr, HN, rfl, hbw.trans (hb1.mono (by omega))⟩
      · have f1 : (nth xs 0 % 2 == 0) = false := beq_eq_false_iff_ne.2 (by omega)
        by_cases e2 : q % 2 = 0
        · have f2 : (nth ys 0 % 2 == 0) = true := beq_iff_eq.2 (by omega)
          have HN := Lib.hid (gcd_r hT.out (by omega) e2)
          have HM := Lib.hid (show p + q / 2 < gk by have := hv.out; omega)
          clear par1 par2 e1 e2 hp0 hq0
          go_wp2_with fail
          refine (halve2_any _ _ _ k2 c2 ys hY (Nat.le_refl _) (by omega)).mono ?_
          rintro e w2 ⟨A4, k4, c4, us, rfl, hU, hUr, hb2⟩
          rw [hYr.out.val] at hUr
          have HU := Lib.hid hUr
          clear hUr
          have hz2 := hb2.size
          have hX1 := (hX.below hb2 (Nat.le_refl _)).more hz2
          have hk4 : k4 ≤ M := Nat.le_trans (HU.out.length_le (by decide) (Nat.lt_of_le_of_lt (Nat.div_le_self _ _) (hYr.out.lt_pow (by decide))) |> fun e => by have := hU.len.out; have := hY.len.out; omega) hk2
          go_wp2_with fail
          go_roundg (p + q / 2)
          case measure => exact HM.out
          case rel => exact ⟨_, _, _, _, _, _, _, _, _, _, t, rfl, rfl, rfl, hk1, hk4, ht, hX1, hU, hXr, HU, HN, rfl, hbw.trans (hb2.mono (by omega))⟩
        · have f2 : (nth ys 0 % 2 == 0) = false := beq_eq_false_iff_ne.2 (by omega)
          have HC := Lib.hid (compareD_any wr wr.heap.size _ _ k1 k2 c1 c2 xs ys hX hY)
          clear par1 par2 e1 e2
          go_wp2_with fail
          refine HC.out.mono ?_
          rintro e w1 ⟨r, rfl, hr, u, rfl⟩
          have HV := Lib.hid (cmp_rep (by decide) hr hX.len.out hY.len.out hXr.out hYr.out)
          clear HC hr
          have hX1 := hX.drewN u
          have hY1 := hY.drewN u
          have hb1 := below_drewN hbw u
          by_cases hr0 : 0 ≤ r
          · have hle : q ≤ p := by have := HV.out; unfold CmpV at this; omega
            have HN := Lib.hid (gcd_subl hT.out hle)
            have HM := Lib.hid (show p - q + q < gk by have := hv.out; omega)
            have hkk : k2 ≤ k1 := by have := hYr.out.length_le (by decide) (Nat.lt_of_le_of_lt hle (hXr.out.lt_pow (by decide))); have := hX.len.out; have := hY.len.out; omega
            go_wp2_with fail
            refine (minus_any _ _ _ _ k1 k2 c1 c2 xs ys hX1 hY1 (Nat.le_refl _) hkk (by omega) (by rw [hXr.out.val, hYr.out.val]; exact hle)).mono ?_
            rintro e w2 ⟨A4, k4, c4, us, rfl, hU, hUr, hb2⟩
            rw [hXr.out.val, hYr.out.val] at hUr
            have HU := Lib.hid hUr
            clear hUr
            have hz2 := hb2.size
            have hY2 := (hY1.below hb2 (Nat.le_refl _)).more hz2
            have hk4 : k4 ≤ M := Nat.le_trans (HU.out.length_le (by decide) (Nat.lt_of_le_of_lt (Nat.sub_le _ _) (hXr.out.lt_pow (by decide))) |> fun e => by have := hU.len.out; have := hX.len.out; omega) hk1
            go_wp2_with fail
            go_roundg (p - q + q)
            case measure => exact HM.out
            case rel => exact ⟨_, _, _, _, _, _, _, _, _, _, t, rfl, rfl, rfl, hk4, hk2, ht, hU, hY2, HU, hYr, HN, rfl, hb1.trans (hb2.mono hb1.size)⟩
          · have hle : p ≤ q := by have := HV.out; unfold CmpV at this; omega
            have HN := Lib.hid (gcd_subr hT.out hle)
            have HM := Lib.hid (show p + (q - p) < gk by have := hv.out; omega)
            have hkk : k1 ≤ k2 := by have := hXr.out.length_le (by decide) (Nat.lt_of_le_of_lt hle (hYr.out.lt_pow (by decide))); have := hX.len.out; have := hY.len.out; omega
            go_wp2_with fail
            refine (minus_any _ _ _ _ k2 k1 c2 c1 ys xs hY1 hX1 (Nat.le_refl _) hkk (by omega) (by rw [hXr.out.val, hYr.out.val]; exact hle)).mono ?_
            rintro e w2 ⟨A4, k4, c4, us, rfl, hU, hUr, hb2⟩
            rw [hXr.out.val, hYr.out.val] at hUr
            have HU := Lib.hid hUr
            clear hUr
            have hz2 := hb2.size
            have hX2 := (hX1.below hb2 (Nat.le_refl _)).more hz2
            have hk4 : k4 ≤ M := Nat.le_trans (HU.out.length_le (by decide) (Nat.lt_of_le_of_lt (Nat.sub_le _ _) (hYr.out.lt_pow (by decide))) |> fun e => by have := hU.len.out; have := hY.len.out; omega) hk2
            go_wp2_with fail
            go_roundg (p + (q - p))
            case measure => exact HM.out
            case rel => exact ⟨_, _, _, _, _, _, _, _, _, _, t, rfl, rfl, rfl, hk1, hk4, ht, hX2, hU, hXr, HU, HN, rfl, hb1.trans (hb2.mono hb1.size)⟩
theorem checkBase_ok (w : World) (y : Int) (hy : 2 ≤ y ∧ y ≤ 36) :
    Calls Tryz.prog 140 #[.int .i64 y] w fun e w' => e = .returned (flt 0 0) ∧ Below w.heap.size w w' := by
  go_enter Tryz.func140, Tryz.ntmps140
  go_wp2_with fail
  refine bodyPost_ret (v := flt 0 0) (by simp [results, Tryz.results140, go_sem]) rfl ⟨rfl, ?_⟩
  (repeat (first | exact Below.refl _ _ | refine Below.setCell ?_ (by simp; done) _ | refine Below.alloc ?_ (by first | omega | (simp; done) | (simp; omega)) _))
structure LpIs (y P W : Nat) : Prop where
  pow : P = y ^ W
  lo : 1 ≤ P
  hi : P ≤ 4294967295
  wid : W ≤ 32
theorem LpIs.next {y P W : Nat} (h : LpIs y P W) (hy : 2 ≤ y) (hn : P * y ≤ 4294967295) : LpIs y (P * y) (W + 1) := by
  have e : P * y = y ^ (W + 1) := by rw [Nat.pow_succ, ← h.pow]
  refine ⟨e, ?_, hn, ?_⟩
  · have := Nat.mul_le_mul h.lo (show 1 ≤ y by omega); omega
  · rcases Nat.lt_or_ge W 32 with h1 | h1
    · omega
    · exfalso
      have h2 : 2 ^ 33 ≤ 2 ^ (W + 1) := Nat.pow_le_pow_right (by decide) (by omega)
      have h3 : 2 ^ (W + 1) ≤ y ^ (W + 1) := Nat.pow_le_pow_left hy _
      have h4 : (2 : Nat) ^ 33 = 8589934592 := by decide
      omega
def LpRel (y : Nat) (p e : Value) : Prop := ∃ P W : Nat, p = .int .i64 (P : Int) ∧ e = .int .i64 (W : Int) ∧ LpIs y P W
def LpPost (y : Nat) (w : World) (e : Ending) (w' : World) : Prop :=
  ∃ P W : Nat, e = .returned (.tuple #[.int .u32 (P : Int), .int .i64 (W : Int)]) ∧ w = w' ∧ LpIs y P W ∧ 4294967295 < P * y
theorem lp_big {P y : Nat} (h : P ≤ 4294967295) (hy : y ≤ 36) : (P : Int) * (y : Int) ≤ 154618822620 := by
  have h1 : P * y ≤ 4294967295 * 36 := Nat.mul_le_mul h hy
  omega
set_option maxHeartbeats 1000000 in
theorem largestPower_any (w : World) (y : Nat) (hy : 2 ≤ y ∧ y ≤ 36) :
    Calls Tryz.prog 141 #[.int .i64 (y : Int)] w (LpPost y w) := by
  go_enter Tryz.func141, Tryz.ntmps141
  go_wp2_with fail
  go_loop [4, 5] (LpRel y) (fun p _ => 4294967296 - (intOf p).toNat)
  case atStart => exact ⟨1, 0, rfl, rfl, by simp, by omega, by omega, by omega⟩
  case round =>
    obtain ⟨P, W, rfl, rfl, hI⟩ := hrel
    have hlo := hI.lo
    have hhi := hI.hi
    have hwd := hI.wid
    have h1 := lp_big hI.hi hy.2
    have h0 : 0 ≤ (P : Int) * (y : Int) := Int.mul_nonneg (by omega) (by omega)
    have w1 : IntKind.i64.wrap ((P : Int) * (y : Int)) = ((P * y : Nat) : Int) := by rw [IntWalk.i64_in _ (by omega)]; simp
    have h2 : ((P * y : Nat) : Int) ≤ 154618822620 := by rw [Int.natCast_mul]; exact h1
    have h3 : P + 1 ≤ P * y := by
      have : P * 2 ≤ P * y := Nat.mul_le_mul_left _ hy.1
      omega
    clear h1 h0
    by_cases hx : P * y ≤ 4294967295
    · have HN := Lib.hid (hI.next hy.1 hx)
      have HE : ((P * y : Nat) : Int) ≤ 4294967295 := by omega
      go_wp2_with fail
      go_round
      case rel => exact ⟨P * y, W + 1, rfl, by go_num, HN.out⟩
      case measure => simp [intOf]; omega
    · have HE : 4294967295 < ((P * y : Nat) : Int) := by omega
      have HX := Lib.hid (show 4294967295 < P * y by omega)
      go_wp2_with fail
      go_ret2
      exact ⟨P, W, rfl, rfl, hI, HX.out⟩
/-- The places i and behind n - i are exchanged. -/
def RvIs (n i : Nat) (cs cs' : List Nat) : Prop := cs'.length = n ∧ (∀ t, t < n → cs'.getD t 0 = if t < i ∨ n ≤ t + i then cs.getD (n - 1 - t) 0 else cs.getD t 0)
def RvRel (n : Nat) (cs : List Nat) (g : Nat) (w : World) (i j : Value) (wr : World) : Prop :=
  ∃ (k : Nat) (cs' : List Nat), 2 * k ≤ n + 1 ∧ i = .int .i64 (k : Int) ∧ j = .int .i64 ((n : Int) - 1 - (k : Int)) ∧ R64 wr g cs' ∧ w.grownBy wr (some g) ∧ Hid (RvIs n k cs cs')
def RvPost (cs : List Nat) (g : Nat) (w : World) (e : Ending) (w' : World) : Prop := e = .returned (.tuple #[]) ∧ R64 w' g cs.reverse ∧ w.grownBy w' (some g)
theorem rv_end {n i : Nat} {cs cs' : List Nat} (hl : cs.length = n) (h : RvIs n i cs cs') (hi : n ≤ 2 * i + 1) : cs' = cs.reverse := by
  obtain ⟨h1, h2⟩ := h
  refine List.ext_getElem (by simp; omega) fun t a b => ?_
  have gd : ∀ (l : List Nat) (i : Nat) (hi : i < l.length), l[i] = l.getD i 0 := fun l i hi => by
    rw [List.getD_eq_getElem?_getD, List.getElem?_eq_getElem hi]; rfl
  have h3 := h2 t (by omega)
  rw [List.getElem_reverse, gd cs' t a, gd cs _ (by omega), h3]
  split
  · congr 1; omega
  · congr 1; omega
theorem rv_step {n i : Nat} {cs cs' : List Nat} (hl : cs.length = n) (h : RvIs n i cs cs') (hi : 2 * i + 1 < n) :
    RvIs n (i + 1) cs ((cs'.set i (nth cs' (n - 1 - i)).toNat).set (n - 1 - i) (nth cs' i).toNat) := by
  obtain ⟨h1, h2⟩ := h
  refine ⟨by simp [h1], fun t ht => ?_⟩
  have a1 := h2 i (by omega)
  have a2 := h2 (n - 1 - i) (by omega)
  rw [if_neg (by omega)] at a1
  rw [if_neg (by omega)] at a2
  unfold nth
  rw [Int.toNat_natCast, Int.toNat_natCast, a1, a2, getD_set _ _ _ _ (by simp; omega)]
  by_cases e1 : t = n - 1 - i
  · subst e1
    rw [if_pos rfl, if_pos (by omega)]
    congr 1; omega
  · rw [if_neg (fun e => e1 (by omega)), getD_set _ _ _ _ (by omega)]
    by_cases e2 : t = i
    · subst e2
      rw [if_pos rfl, if_pos (by omega)]
    · rw [if_neg (fun e => e2 (by omega)), h2 t ht]
      by_cases e3 : t < i ∨ n ≤ t + i
      · rw [if_pos e3, if_pos (by omega)]
      · rw [if_neg e3, if_neg (by omega)]
theorem grown_drew {a w : World} {r : Option Nat} (h : a.grownBy w r) : a.grownBy w.drew r := ⟨h.os, h.tape, h.output, h.size, h.block⟩
set_option maxHeartbeats 4000000 in
theorem reverse_any (w : World) (g n c : Nat) (cs : List Nat) (hR : R64 w g cs) (hn : cs.length = n) (hc : n ≤ c ∧ c ≤ 9223372036854775807) :
    Calls Tryz.prog 142 #[.slice (some ⟨g, 0, none⟩) n c] w (RvPost cs g w) := by
  have HN := Lib.hid hn
  clear hn
  go_enter Tryz.func142, Tryz.ntmps142
  go_wp2_with fail
  go_loopw [2, 3] (RvRel n cs g w) (fun i _ _ => n - (intOf i).toNat)
  case atStart => exact ⟨0, cs, by omega, rfl, by simp, hR, World.grownBy.refl _ _, HN.out, fun t ht => by simp; omega⟩
  case round =>
    clear hR
    obtain ⟨k, cs', hk, rfl, rfl, hR, hg, hI⟩ := hrel
    have hlen := Lib.hid hI.out.1
    by_cases h1 : 2 * k + 1 < n
    · obtain ⟨m, hm⟩ : ∃ m, m = n - 1 - k := ⟨_, rfl⟩
      have em : (n : Int) - 1 - (k : Int) = (m : Int) := by omega
      rw [em]
      have g1 := hR.cell (j := k) (by have := hlen.out; omega)
      have g2 := hR.cell (j := m) (by have := hlen.out; omega)
      have f1 := hR.frozen k
      have f2 := hR.frozen m
      have a1 := nth_nn cs' k
      have a2 := nth_nn cs' m
      have hkm : k < m := by omega
      have hmn : m < n := by omega
      have HS := Lib.hid (rv_step HN.out hI.out h1)
      rw [← hm] at HS
      have hne : m ≠ k := by omega
      have HM := Lib.hid hm
      clear hm em
      go_wp2_with fail
      go_region
      all_goals (go_wp2_with fail)
      all_goals go_roundw
      all_goals (first | (case measure => simp [intOf]; omega) | skip)
      all_goals (exact ⟨k + 1, _, by omega, by go_num, congrArg (Value.int .i64) (by have := HM.out; omega), (hR.drew.put k a2).put m a1, grown_set (grown_set (grown_drew hg) _ _) _ _, HS.out⟩)
    · have HE := Lib.hid (rv_end HN.out hI.out (by omega))
      go_wp2_with fail
      go_end0
      exact ⟨rfl, by rw [← HE.out]; exact hR, hg⟩
def BiRel (n : Nat) (xs : List Nat) (w : World) (out i : Value) (wr : World) : Prop :=
  ∃ (j : Nat) (zs : List Nat), 16 * j ≤ n + 15 ∧ i = .int .i64 (16 * (j : Int)) ∧ wr.ownsRow w.heap.size 3 1 out zs.length (digs zs) ∧ Hid (zs.length = j) ∧ Dig 65536 zs ∧ Below w.heap.size w wr ∧
    Hid (S 65536 (fun i => zs.getD i 0) j = S 2 (fun i => xs.getD i 0) (16 * j))
def BjRel (j : Nat) (xs : List Nat) (x k : Value) : Prop :=
  ∃ (t : Nat) (v : Int), t ≤ 16 ∧ k = .int .i64 ((t : Int) - 1) ∧ x = .int .i64 v ∧ 0 ≤ v ∧ v < 65536 ∧ Hid (v < 2 ^ (16 - t)) ∧ Hid (v.toNat = S 2 (fun i => xs.getD (16 * j + t + i) 0) (16 - t))
theorem bi_front {xs : List Nat} {j t : Nat} {v u : Int} (ht : t < 16) (hv : 0 ≤ v) (hu : u = 2 * v + (xs.getD (16 * j + t) 0 : Nat)) (h : v.toNat = S 2 (fun i => xs.getD (16 * j + (t + 1) + i) 0) (16 - (t + 1))) :
    u.toNat = S 2 (fun i => xs.getD (16 * j + t + i) 0) (16 - t) := by
  rw [show 16 - t = (16 - (t + 1)) + 1 by omega, S_front, S_ext (g := fun i => xs.getD (16 * j + (t + 1) + i) 0) (fun i _ => by congr 1; omega), ← h]
  simp only [Nat.add_zero]
  omega
theorem bi_lim {v u : Int} {t d : Nat} (ht : t < 16) (hv : v < 2 ^ (16 - (t + 1))) (hu : u = 2 * v + (d : Nat)) (hd : d ≤ 1) : u < 2 ^ (16 - t) := by
  rw [show 16 - t = (16 - (t + 1)) + 1 by omega, Int.pow_succ]
  omega
theorem bi_small {v : Int} {t : Nat} (h : v < 2 ^ (16 - t)) : v < 65536 := by
  have : (2 : Int) ^ (16 - t) ≤ 2 ^ 16 := by
    have := Nat.pow_le_pow_right (n := 2) (by decide) (show 16 - t ≤ 16 by omega)
    exact_mod_cast this
  have e : (2 : Int) ^ 16 = 65536 := by decide
  omega
theorem bi_next {zs xs : List Nat} {j : Nat} {v : Int} (hz : zs.length = j) (h : S 65536 (fun i => zs.getD i 0) j = S 2 (fun i => xs.getD i 0) (16 * j)) (hv : v.toNat = S 2 (fun i => xs.getD (16 * j + 0 + i) 0) (16 - 0)) :
    S 65536 (fun i => (zs ++ [v.toNat]).getD i 0) (j + 1) = S 2 (fun i => xs.getD i 0) (16 * (j + 1)) := by
  rw [S_snoc hz, show 16 * (j + 1) = 16 * j + 16 by omega, S_add, h, hv, show (65536 : Nat) ^ j = 2 ^ (16 * j) by rw [Nat.pow_mul]]
  simp only [Nat.add_zero, Nat.sub_zero, Nat.mul_comm]
set_option maxHeartbeats 4000000 in
theorem binary_any (w : World) (B : Nat) (A : Option Addr) (n c : Nat) (xs : List Nat) (h : ORd w B A n c xs) (hB : B ≤ w.heap.size) (hM : n ≤ 100000000000) :
    Calls Tryz.prog 84 #[.slice A n c] w (GivesN w (vb 2 xs)) := by
  obtain ⟨i0, hi, hz0, hz1, hz2⟩ := info_parts info64
  have hcap := h.cap
  have hxl := Lib.hid h.len.out
  go_enter Tryz.func84, Tryz.ntmps84
  go_wp2_with fail
  go_loopw [3, 4] (BiRel n xs w) (fun _ i _ => n + 16 - (intOf i).toNat)
  case atStart => exact ⟨0, [], by omega, rfl, World.ownsRow_nil _ _ _ _, rfl, Dig.nil, Below.refl _ _, (by show _ = _; simp [S_zero])⟩
  case round =>
    obtain ⟨j, zs, hj, rfl, hown, hzl, hzd, hbw, HS⟩ := hrel
    have hsz := hbw.size
    have hzn : zs.length ≤ n := by have := hzl.out; omega
    by_cases h1 : 16 * j < n
    · obtain ⟨b, off, rfl, hb, hc⟩ := h.rd (by omega)
      have HC := Lib.hid (show ∀ i, i < n → wr.cell? ⟨b, off + i, none⟩ = some (.bool (bt xs i)) from fun i hi => (hbw.cell (p := ⟨b, off + i, none⟩) (by show b < _; omega)).trans (hc i hi))
      clear hc
      obtain ⟨wo, hwo⟩ : ∃ wo : World, wo = wr := ⟨_, rfl⟩
      go_wp2_with fail
      go_loop [5, 6] (BjRel j xs) (fun _ k => (intOf k + 1).toNat)
      case atStart => exact ⟨16, 0, by omega, rfl, rfl, by omega, by omega, (by show _ < _; decide), (by show _ = _; simp [S_zero])⟩
      case round =>
        obtain ⟨t, v, ht, rfl, rfl, v0, v1, hvl, hvs⟩ := hrel
        by_cases h2 : t = 0
        · subst h2
          have SN := Lib.hid (bi_next hzl.out HS.out hvs.out)
          clear HC
          go_wp2_with (at_builtin; refine wpList_append_own _ rfl _ _ 38 rfl w.heap.size 3 i0 (.int .i64 0) 1 8 Tryz.underlying38 hi hz0 hz1 hz2 rfl (by decide) _ _ _ rfl (hown.alloc _) ⟨wr.heap.size, 0, none⟩ 1 1 [.int .i64 v] rfl rfl (cell_one_new _ _ _) (fun u hu => by simp at hu; subst hu; rfl) (by unfold maxLen; omega) (by omega) (by first | (simp; omega) | omega) ?_; intro v' w1 hown' hgrow _)
          obtain ⟨ho, hb1⟩ := own_next v0 hbw hown hown' hgrow
          clear hown hown' hgrow
          go_wp2_with fail
          go_roundw
          case rel => exact ⟨j + 1, _, by omega, by go_num, ho, (by show _ = _; rw [List.length_append, hzl.out]; rfl), hzd.snoc (by omega), hb1, SN.out⟩
          case measure => simp [intOf]; omega
        · obtain ⟨s, rfl⟩ : ∃ s, t = s + 1 := ⟨t - 1, by omega⟩
          have ei : ((s + 1 : Nat) : Int) - 1 = (s : Int) := by omega
          rw [ei]
          clear ei h2
          by_cases h3 : 16 * j + s < n
          · have g1 := HC.out (16 * j + s) h3
            by_cases hx : bt xs (16 * j + s) = true
            · have HX := bt_true hx
              have SV := Lib.hid (bi_front (u := 2 * v + 1) (by omega) v0 (by rw [HX]; rfl) hvs.out)
              have SL := Lib.hid (bi_lim (u := 2 * v + 1) (d := 1) (by omega) hvl.out (by rfl) (by omega))
              have s1 := bi_small SL.out
              rw [hx] at g1
              clear HX hx
              go_wp2_with fail
              go_round
              case rel => exact ⟨s, 2 * v + 1, by omega, rfl, by go_num, by omega, s1, SL, SV⟩
              case measure => first | (simp [intOf]; done) | (simp [intOf]; omega)
            · have hx' : bt xs (16 * j + s) = false := by simpa using hx
              have HX := bt_false h.lim hx'
              have SV := Lib.hid (bi_front (u := 2 * v) (by omega) v0 (by rw [HX]; omega) hvs.out)
              have SL := Lib.hid (bi_lim (u := 2 * v) (d := 0) (by omega) hvl.out (by omega) (by omega))
              have s1 := bi_small SL.out
              rw [hx'] at g1
              clear HX hx hx'
              go_wp2_with fail
              go_round
              case rel => exact ⟨s, 2 * v, by omega, rfl, by go_num, by omega, s1, SL, SV⟩
              case measure => first | (simp [intOf]; done) | (simp [intOf]; omega)
          · have HX : xs.getD (16 * j + s) 0 = 0 := getD_none (by rw [hxl.out]; omega)
            have SV := Lib.hid (bi_front (u := 2 * v) (by omega) v0 (by rw [HX]; omega) hvs.out)
            have SL := Lib.hid (bi_lim (u := 2 * v) (d := 0) (by omega) hvl.out (by omega) (by omega))
            have s1 := bi_small SL.out
            clear HX
            go_wp2_with fail
            go_round
            case rel => exact ⟨s, 2 * v, by omega, rfl, by go_num, by omega, s1, SL, SV⟩
            case measure => first | (simp [intOf]; done) | (simp [intOf]; omega)
    · have HV := Lib.hid (show vb 65536 zs = vb 2 xs by rw [← vb_len (b := 2) (xs := xs) (n := 16 * j) (by rw [hxl.out]; omega), ← HS.out]; unfold vb; rw [hzl.out])
      obtain ⟨A', c', rfl, hc1, hc2⟩ := own_shape hown
      have hdr := own_drd hown hzd
      go_wp2_with fail
      refine (trimD_any _ _ _ _ _ _ hdr).mono ?_
      rintro e w' ⟨t, rfl, ht, rfl⟩
      go_wp2_with fail
      go_ret
      exact gives_own hown hzd ht hbw HV.out
def SmlRel (N : Nat) (w : World) (n out : Value) (wr : World) : Prop :=
  ∃ (m : Nat) (zs : List Nat), n = .int .i64 (m : Int) ∧ m ≤ 9223372036854775807 ∧ wr.ownsRow w.heap.size 3 1 out zs.length (digs zs) ∧ zs.length ≤ 4 ∧ Dig 65536 zs ∧ Below w.heap.size w wr ∧ Hid (vb 65536 zs + 65536 ^ zs.length * m = N) ∧ Hid (m = 0 → Top zs)
theorem sml_len {N m l v : Nat} (h : v + 65536 ^ l * m = N) (hm : 0 < m) (hN : N ≤ 9223372036854775807) : l < 4 := by
  rcases Nat.lt_or_ge l 4 with e | e
  · exact e
  · exfalso
    have h1 : 65536 ^ 4 ≤ 65536 ^ l := Nat.pow_le_pow_right (by decide) e
    have h2 : 65536 ^ l * 1 ≤ 65536 ^ l * m := Nat.mul_le_mul_left _ hm
    have h3 : (65536 : Nat) ^ 4 = 18446744073709551616 := by decide
    omega
theorem sml_nat {v P d m m' N : Nat} (h : v + P * m = N) (e : d + 65536 * m' = m) : v + P * d + P * 65536 * m' = N := by subst e; rw [← h]; grind
theorem sml_step {N m : Nat} {zs : List Nat} (h : vb 65536 zs + 65536 ^ zs.length * m = N) : vb 65536 (zs ++ [((m : Int) % 65536).toNat]) + 65536 ^ (zs ++ [((m : Int) % 65536).toNat]).length * (m / 65536) = N := by
  rw [vb_snoc, List.length_append, List.length_singleton, Nat.pow_succ]
  exact sml_nat h (by omega)
theorem sml_top {m : Nat} {zs : List Nat} (hm : 0 < m) (h : m / 65536 = 0) : Top (zs ++ [((m : Int) % 65536).toNat]) := by
  intro i hi
  rw [List.length_append, List.length_singleton] at hi
  obtain rfl : i = zs.length := by omega
  rw [getD_append, if_neg (by omega), Nat.sub_self]
  show ((m : Int) % 65536).toNat ≠ 0
  omega
set_option maxHeartbeats 1000000 in
theorem small_any (w : World) (N : Nat) (hN : N ≤ 9223372036854775807) :
    Calls Tryz.prog 40 #[.int .i64 (N : Int)] w (GivesN w N) := by
  obtain ⟨i0, hi, hz0, hz1, hz2⟩ := info_parts info64
  go_enter Tryz.func40, Tryz.ntmps40
  go_wp2_with fail
  go_loopw [0, 3] (SmlRel N w) (fun n _ _ => (intOf n).toNat)
  case atStart => exact ⟨N, [], rfl, hN, World.ownsRow_nil _ _ _ _, by simp, Dig.nil, Below.refl _ _, (by show _ = _; simp [vb_nil]), fun _ => Top.nil⟩
  case round =>
    obtain ⟨m, zs, rfl, hm, hown, hzl, hzd, hbw, HS, HT⟩ := hrel
    have hsz := hbw.size
    by_cases h0 : m = 0
    · subst h0
      obtain ⟨A', c', rfl, hc1, hc2⟩ := own_shape hown
      have hdr := own_drd hown hzd
      have HR := Lib.hid (show Rep 65536 zs N from ⟨hzd, by have := HS.out; simpa using this, HT.out rfl⟩)
      go_wp2_with fail
      go_ret
      exact ⟨_, _, _, _, rfl, hdr, HR.out, hbw⟩
    · have hl := sml_len HS.out (by omega) hN
      have ST := Lib.hid (sml_step HS.out)
      have TT := Lib.hid (fun e => sml_top (zs := zs) (show 0 < m by omega) e)
      have hm0 : 0 < (m : Int) := by omega
      clear h0
      go_wp2_with (at_builtin; refine wpList_append_own _ rfl _ _ 38 rfl w.heap.size 3 i0 (.int .i64 0) 1 8 Tryz.underlying38 hi hz0 hz1 hz2 rfl (by decide) _ _ _ rfl (hown.alloc _) ⟨wr.heap.size, 0, none⟩ 1 1 [.int .i64 ((m : Int) % 65536)] rfl rfl (cell_one_new _ _ _) (fun u hu => by simp at hu; subst hu; rfl) (by unfold maxLen; omega) (by omega) (by first | (simp; omega) | omega) ?_; intro v' w1 hown' hgrow _)
      obtain ⟨ho, hb1⟩ := own_next (Int.emod_nonneg _ (by decide)) hbw hown hown' hgrow
      clear hown hown' hgrow
      go_wp2_with fail
      go_roundw
      case rel => exact ⟨m / 65536, _, by go_num, by omega, ho, by simp; omega, hzd.snoc (by omega), hb1, ST.out, TT.out⟩
      case measure => simp [intOf]; omega
theorem Dig.wide {y : Nat} {zs : List Nat} (h : Dig y zs) (hy : y ≤ 65536) : Dig 65536 zs := fun x hx => by have := h x hx; omega
theorem Dig.push {y : Nat} {zs : List Nat} {x : Nat} (h : Dig y zs) (hx : x < y) : Dig y (zs ++ [x]) := by
  intro z hz
  rcases List.mem_append.1 hz with e | e
  · exact h z e
  · rw [List.mem_singleton] at e; omega
theorem fg_step {v y p : Nat} {zs : List Nat} (h : v * y ^ zs.length + vb y zs = p) : v / y * y ^ (zs ++ [v % y]).length + vb y (zs ++ [v % y]) = p := by
  rw [vb_snoc, List.length_append, List.length_singleton, Nat.pow_succ, ← h]
  have e := Nat.mod_add_div v y
  generalize y ^ zs.length = P at *
  generalize vb y zs = u at *
  generalize hm : v % y = r at *
  generalize v / y = q at *
  subst e
  grind
theorem fg_len {v y p l u M : Nat} (h : v * y ^ l + u = p) (hv : 0 < v) (hy : 2 ≤ y) (hp : p < 65536 ^ M) : l < 16 * M := by
  have h1 : 1 * y ^ l ≤ v * y ^ l := Nat.mul_le_mul_right _ hv
  have h2 : 2 ^ l ≤ y ^ l := Nat.pow_le_pow_left hy _
  rw [pow16] at hp
  exact (Nat.pow_lt_pow_iff_right (by decide : 1 < 2)).1 (by omega)
/-- The value of the first i digits, the most significant one first. -/
def hv (y : Nat) (xs : List Nat) (i : Nat) : Nat := vb y (xs.take i).reverse
def DgPost (y p : Nat) (w : World) (e : Ending) (w' : World) : Prop :=
  ∃ A k c zs, e = .returned (.tuple #[.slice A k c, flt 0 0]) ∧ DRd w' w'.heap.size A k c zs ∧ Rep y zs.reverse p ∧ Below w.heap.size w w'
def DgRel (y p g B3 : Nat) (W2 : World) (v : Nat) (s10 s11 : Value) (wr : World) : Prop :=
  ∃ A k c cs zs, s10 = .slice A k c ∧ (0 < k → A = some ⟨g, 0, none⟩ ∧ R32 wr g cs) ∧ k ≤ cs.length ∧ k ≤ c ∧ c ≤ 9223372036854775807 ∧ Lim cs ∧ Hid (Rep 4294967296 (cs.take k) v) ∧
    wr.ownsRow B3 3 1 s11 zs.length (digs zs) ∧ Dig y zs ∧ Below W2.heap.size W2 wr ∧ B3 ≤ wr.heap.size ∧ Hid (v * y ^ zs.length + vb y zs = p)
def DjRel (y L W g B3 u : Nat) (W2 : World) (cs : List Nat) (s11 s12 s42 : Value) (wr : World) : Prop :=
  ∃ j t zs, j ≤ W ∧ s42 = .int .i64 ((j : Nat) : Int) ∧ s12 = .int .i64 ((t : Nat) : Int) ∧ t ≤ 4294967295 ∧ Hid (t < y ^ (W - j)) ∧ wr.ownsRow B3 3 1 s11 zs.length (digs zs) ∧ Hid (zs.length = L + j) ∧ Dig y zs ∧
    Below W2.heap.size W2 wr ∧ B3 ≤ wr.heap.size ∧ R32 wr g cs ∧ Hid (t * y ^ (L + j) + vb y zs = u)
theorem own_snocN {w1 : World} {B x : Nat} {v' : Value} {zs : List Nat} (hown' : w1.ownsRow B 3 1 v' (zs.length + 1) (digs zs ++ [.int .i64 (x : Int)])) : w1.ownsRow B 3 1 v' (zs ++ [x]).length (digs (zs ++ [x])) := by rw [List.length_append]; simpa [digs] using hown'
theorem dj_step {t y L j u : Nat} {zs : List Nat} (hl : zs.length = L + j) (h : t * y ^ (L + j) + vb y zs = u) : t / y * y ^ (L + (j + 1)) + vb y (zs ++ [t % y]) = u := by
  rw [← hl] at h
  have := fg_step h
  rw [List.length_append, List.length_singleton, hl] at this
  exact this
theorem dj_div {t y W j : Nat} (h : t < y ^ (W - j)) (hj : j < W) (hy : 0 < y) : t / y < y ^ (W - (j + 1)) := by
  rw [show W - j = (W - (j + 1)) + 1 by omega, Nat.pow_succ] at h
  exact Nat.div_lt_of_lt_mul (by rw [Nat.mul_comm]; exact h)
theorem ds_val {k : Nat} {cs cs' : List Nat} {P : Nat} {r : Int} {v : Nat} (h : DsIs k cs (P : Int) 0 r cs') (hk : k ≤ cs.length) (hv : vb 4294967296 (cs.take k) = v) : vb 4294967296 (cs'.take k) * P + r.toNat = v := by
  obtain ⟨h1, _, _, h4⟩ := h
  simp only [Nat.zero_add, Nat.sub_zero, Int.toNat_natCast] at h4
  have e : ∀ l : List Nat, k ≤ l.length → vb 4294967296 (l.take k) = S 4294967296 (fun t => l.getD t 0) k := fun l hl => by
    have el : (l.take k).length = k := by rw [List.length_take]; omega
    unfold vb
    rw [el]
    exact S_ext fun j hj => by rw [getD_take, if_pos hj]
  rw [e cs' (by omega), h4, ← e cs hk, hv]
theorem dg_next {q P r v W L y z z' p : Nat} (hq : q * P + r = v) (hP : P = y ^ W) (hz : 0 * y ^ (L + W) + z' = r * y ^ L + z) (h : v * y ^ L + z = p) : q * y ^ (L + W) + z' = p := by
  rw [Nat.zero_mul, Nat.zero_add] at hz
  rw [← h, ← hq, hz, Nat.pow_add, hP]
  generalize y ^ L = X
  generalize y ^ W = Y
  grind
theorem trimmedG {y n k p : Nat} {cs : List Nat} (h : TrimTo n cs k) (hl : cs.length = n) (hd : Dig y cs) (hv : vb y cs = p) : Rep y (cs.take k) p := by
  have e : (cs.take k).length = k := by rw [List.length_take]; have := h.le; omega
  refine ⟨fun x hx => hd x (List.mem_of_mem_take hx), by rw [← hv]; exact vb_take_of_zeros (by have := h.le; omega) (fun j h1 h2 => h.zeros j h1 (by omega)), fun m hm => ?_⟩
  rw [getD_take, if_pos (by omega)]
  exact h.top m (by omega)
theorem reverse_nil (w : World) (A : Option Addr) (c : Nat) (hc : c ≤ 9223372036854775807) :
    Calls Tryz.prog 142 #[.slice A 0 c] w fun e w' => e = .returned (.tuple #[]) ∧ w = w' := by
  go_enter Tryz.func142, Tryz.ntmps142
  go_wp2_with fail
  refine wp_loop_rounds 1 ?_
  rw [rounds_succ]
  go_wp2_with fail
  go_end0
  exact ⟨rfl, rfl⟩
theorem R64.lift {w : World} {g : Nat} {cs : List Nat} (h : R64 w g cs) (hd : Dig 65536 cs) {k c : Nat} (hl : cs.length = k) (hc : k ≤ c ∧ c ≤ 9223372036854775807) : DRd w w.heap.size (some ⟨g, 0, none⟩) k c cs := h.drdAll hd h.lt hl hc
theorem rep_pos4 {xs : List Nat} {p n : Nat} (h : Rep 4294967296 xs p) (hl : xs.length = n) (h0 : 0 < n) : 0 < p := by
  rcases Nat.eq_zero_or_pos p with e | e
  · exfalso
    subst e
    have := h.length_le (m := 0) (by decide) (by decide)
    omega
  · exact e
theorem drd_cap0 {w : World} {A : Option Addr} {c : Nat} (hc : c ≤ 9223372036854775807) : DRd w w.heap.size A 0 c [] := ⟨rfl, ⟨Nat.zero_le _, hc⟩, Dig.nil, fun h => absurd h (by omega)⟩
set_option maxHeartbeats 8000000 in
theorem digits_ok (w : World) (B : Nat) (A : Option Addr) (n c y : Nat) (xs : List Nat) (h : LRd w B A n c xs) (hB : B ≤ w.heap.size) (hx : vld xs = true) (hy : 2 ≤ y ∧ y ≤ 36) :
    Calls Tryz.prog 126 #[.slice A n c, .int .i64 (y : Int)] w (DgPost y (vb 4294967296 xs) w) := by
  obtain ⟨i0, hi, iz0, iz1, iz2⟩ := info_parts info64
  have h1 := fun (o : Obj) => h.below (bl1 w o) hB
  have hn : n ≤ 600 := by have := (vld_top hx).2; have := h.len.out; omega
  obtain ⟨p, hp⟩ : ∃ p, p = vb 4294967296 xs := ⟨_, rfl⟩
  obtain ⟨M, hMM⟩ : ∃ M, M = 1200 := ⟨_, rfl⟩
  have HPM := Lib.hid (show p < 65536 ^ M by rw [hp, ← big65 hMM]; exact vld_lt h.lim hx)
  have hM : M ≤ 1200 := by omega
  have HP := Lib.hid hp
  have HT := Lib.hid (vld_top hx).1
  rw [← hp]
  clear hp hMM
  go_enter Tryz.func126, Tryz.ntmps126
  go_wp2_with fail
  refine (checkOne_ok _ B A n c xs (h1 _) (by simp; omega) hx).mono ?_
  rintro e w1 ⟨rfl, hb⟩
  obtain ⟨hc, hf⟩ := bcell hb
  have hz : w.heap.size < w1.heap.size := by have := hb.size; simp at this; omega
  have hb' : Below w.heap.size w w1 := (bl1 w _).trans (hb.mono (by simp))
  go_wp2_with fail
  refine (checkBase_ok _ (y : Int) (by omega)).mono ?_
  rintro e w2 ⟨rfl, hb2⟩
  obtain ⟨hc2, hf2⟩ := bcell hb2
  have hz2 : w1.heap.size < w2.heap.size := by have := hb2.size; simp at this; omega
  have hbw2 : Below w.heap.size w w2 := (hb'.alloc (by omega) _).trans (hb2.mono (by simp; omega))
  have c0 : w2.cell? ⟨w.heap.size, 0, none⟩ = some (.int .i64 0) := by rw [hc2 w.heap.size 0 (by first | omega | (simp; omega))]; simp [go_sem, hc, hz]
  have c1 : w2.cell? ⟨w.heap.size, 1, none⟩ = some (.int .i64 0) := by rw [hc2 w.heap.size 1 (by first | omega | (simp; omega))]; simp [go_sem, hc, hz]
  have f0 : w2.frozen? ⟨w.heap.size, 0, none⟩ = false := by rw [hf2 w.heap.size 0 (by first | omega | (simp; omega))]; simp [go_sem, hf, hz]
  have f1 : w2.frozen? ⟨w.heap.size, 1, none⟩ = false := by rw [hf2 w.heap.size 1 (by first | omega | (simp; omega))]; simp [go_sem, hf, hz]
  have h2 := fun (o : Obj) => (h.below hbw2 hB).alloc (by omega) o
  clear hc hf hc2 hf2 hb hb2 hb'
  go_wp2_with fail
  refine (largestPower_any _ y hy).mono ?_
  rintro e w' ⟨P, W, rfl, rfl, hLP, hLP2⟩
  have hP0 := hLP.lo
  have hP1 := hLP.hi
  have hW := hLP.wid
  go_wp2_with fail
  refine (clone_any _ B A n c xs (h2 _) (by first | omega | (simp; omega)) (by omega)).mono ?_
  rintro e w3 ⟨A1, c3, rfl, hcn, hcm, hb3, hcl⟩
  obtain ⟨W2, hW2⟩ : ∃ W2 : World, W2 = w2.alloc (.cells #[.int .i64 0, .int .i64 0] 28) := ⟨_, rfl⟩
  rw [← hW2] at hb3 hcl
  have hWs : W2.heap.size = w2.heap.size + 1 := by rw [hW2]; simp
  have hzz2 : w.heap.size < w2.heap.size := by omega
  have C0 : W2.cell? ⟨w.heap.size, 0, none⟩ = some (.int .i64 0) := by rw [hW2, World.cell?_alloc_lt _ _ _ hzz2]; exact c0
  have C1 : W2.cell? ⟨w.heap.size, 1, none⟩ = some (.int .i64 0) := by rw [hW2, World.cell?_alloc_lt _ _ _ hzz2]; exact c1
  have F0 : W2.frozen? ⟨w.heap.size, 0, none⟩ = false := by rw [hW2, World.frozen?_alloc_past _ _ _ hzz2]; exact f0
  have F1 : W2.frozen? ⟨w.heap.size, 1, none⟩ = false := by rw [hW2, World.frozen?_alloc_past _ _ _ hzz2]; exact f1
  have hbW : Below w.heap.size w W2 := by rw [hW2]; exact hbw2.alloc (by omega) _
  have hs3 := hb3.size
  have hl := h.len.out
  have HLx := Lib.hid h.lim
  obtain ⟨g, hg⟩ : ∃ g, 0 < n → A1 = some ⟨g, 0, none⟩ ∧ W2.heap.size ≤ g ∧ g < w3.heap.size ∧ R32 w3 g xs := by
    rcases Nat.eq_zero_or_pos n with e | e
    · exact ⟨0, fun h => absurd h (by omega)⟩
    · obtain ⟨g, a1, a2, a3⟩ := hcl e
      exact ⟨g, fun _ => ⟨a1, a2, a3.lt, a3⟩⟩
  have HGB := Lib.hid (show 0 < n → W2.heap.size ≤ g ∧ g < w3.heap.size from fun e => ⟨(hg e).2.1, (hg e).2.2.1⟩)
  have HG1 := Lib.hid (show 0 < n → A1 = some ⟨g, 0, none⟩ ∧ R32 w3 g xs from fun e => ⟨(hg e).1, (hg e).2.2.2⟩)
  have hn0 : 0 < n ∨ n = 0 := by omega
  obtain ⟨B3, hB3⟩ : ∃ B3, B3 = w3.heap.size := ⟨_, rfl⟩
  have hB3' : B3 ≤ w3.heap.size := by omega
  have hB3W : W2.heap.size ≤ B3 := by omega
  rw [← hB3] at HGB
  clear c0 c1 f0 f1 hW2 hcl hg h2 h1 h hbw2 hB3
  go_wp2_with fail
  go_loopg [10, 11] p (fun v s10 s11 wr => (0 < n ∨ v = 0) ∧ DgRel y p g B3 W2 v s10 s11 wr)
  case atStart =>
    refine ⟨?_, A1, n, c3, xs, [], rfl, HG1.out, by omega, hcn, hcm, HLx.out, ?_, World.ownsRow_nil _ _ _ _, (by intro x hx; cases hx), hb3, hB3', (by show _ = _; simp [vb_nil])⟩
    · rcases hn0 with e | e
      · exact .inl e
      · right; rw [HP.out, List.eq_nil_of_length_eq_zero (hl.trans e), vb_nil]
    · show Rep _ _ _
      rw [List.take_of_length_le (by omega)]
      exact ⟨HLx.out, HP.out.symm, HT.out⟩
  case round =>
    clear HG1 hb3 hB3' hs3 hcn hcm hl HLx HT hn0
    obtain ⟨hnv, A2, k, c4, cs, zs, rfl, hR, hkc, hk4, hc4, hcl, hCr, hown, hzd, hbw, hB3r, HS⟩ := hrel
    have hsz := hbw.size
    by_cases h0 : k = 0
    · have HV0 := Lib.hid (rep_nil hCr.out (show (cs.take k).length = k by rw [List.length_take]; omega) h0)
      subst h0
      have HVal := Lib.hid (show vb y zs = p by have := HS.out; rw [HV0.out] at this; simpa using this)
      obtain ⟨A5, c5, rfl, hc1, hc2⟩ := own_shape hown
      have hzw := hzd.wide (show y ≤ 65536 by omega)
      have hdr := own_drd hown hzw
      have hcd := hdr.cap
      obtain ⟨q, hq⟩ : ∃ q, q = zs.length := ⟨_, rfl⟩
      have HQ := Lib.hid hq
      have HO := Lib.hid hown
      rw [← hq] at hdr hcd
      rw [← hq]
      clear hq hown hR hCr HS HV0
      obtain ⟨wo, hwo⟩ : ∃ wo : World, wo = wr := ⟨_, rfl⟩
      go_wp2_with fail
      go_loop [11] (OtRel q zs A5 c5) (fun v => slen v)
      case atStart => exact ⟨q, Nat.le_refl _, rfl, fun j h1 h2 => absurd h1 (by omega)⟩
      case round =>
        obtain ⟨e, he, rfl, hz⟩ := hrel
        have HZ := Lib.hid hz
        clear hz
        obtain ⟨hc6, hf6⟩ := bcell hbw
        have d0 := (hc6 w.heap.size 0 (by omega)).trans C0
        have d1 := (hc6 w.heap.size 1 (by omega)).trans C1
        have g0 := (hf6 w.heap.size 0 (by omega)).trans F0
        have g1 := (hf6 w.heap.size 1 (by omega)).trans F1
        clear hc6 hf6
        by_cases h0 : e = 0
        · subst h0
          have HR := Lib.hid (trimmedG (y := y) (p := p) ⟨Nat.zero_le _, HZ.out, fun m hm => by omega⟩ HQ.out.symm hzd HVal.out)
          go_wp2_with fail
          refine (reverse_nil _ A5 c5 (by omega)).mono ?_
          rintro e w' ⟨rfl, rfl⟩
          go_wp2_with fail
          refine bodyPost_ret (v := .tuple #[.slice A5 0 c5, flt 0 0]) (by simp [results, Tryz.results126, go_sem, d0, d1]) rfl ⟨A5, 0, c5, [], rfl, drd_cap0 (by omega), ?_, ?_⟩
          · have := HR.out; simpa using this
          · (repeat (first | exact Below.refl _ _ | exact hbW | refine Below.setCell ?_ (by simp; done) _ | refine Below.trans ?_ (Below.mono hbw (by first | omega | (simp; done) | (simp; omega)))))
        · obtain ⟨gg, rfl, hgg, hRR, _⟩ := R64.of_own HO.out (by rw [← HQ.out]; omega)
          obtain ⟨m, rfl⟩ : ∃ m, e = m + 1 := ⟨e - 1, by omega⟩
          have hcell := hRR.cell (j := m) (by rw [← HQ.out]; omega)
          have l1 := nth_nn zs m
          have l2 := hdr.lim.nth m
          clear h0
          by_cases hx0 : nth zs m = 0
          · have hx' : (nth zs m == 0) = true := beq_iff_eq.2 hx0
            have HX := Lib.hid (nth_zero hx0)
            clear hx0
            go_wp2_with fail
            go_round
            case rel => exact ⟨m, by omega, rfl, fun j h1 h2 => by rcases Nat.lt_or_ge m j with h3 | h3; exact HZ.out j (by omega) h2; rw [show j = m by omega]; exact HX.out⟩
            case measure => simp [slen]
          · have hx' : (nth zs m == 0) = false := beq_eq_false_iff_ne.2 hx0
            have HX := Lib.hid (nth_pos hx0)
            clear hx0
            have HR := Lib.hid (trimmedG (y := y) (p := p) (k := m + 1) ⟨by omega, HZ.out, fun i hi => by rw [show i = m by omega]; exact HX.out⟩ HQ.out.symm hzd HVal.out)
            have hpre := hRR.pre (m + 1)
            have hpl : (zs.take (m + 1)).length = m + 1 := by rw [List.length_take, ← HQ.out]; omega
            have hggw : w.heap.size < gg := by omega
            have hne : gg ≠ w.heap.size := by omega
            go_wp2_with fail
            refine (reverse_any wr gg (m + 1) c5 _ hpre hpl (by omega)).mono ?_
            rintro e w7 ⟨rfl, hR7, hg7⟩
            have hb7 : Below W2.heap.size W2 w7 := hbw.grown hg7 hsz (fun k hk => by injection hk with hk; omega)
            obtain ⟨hc6, hf6⟩ := bcell hb7
            have d0 := (hc6 w.heap.size 0 (by omega)).trans C0
            have d1 := (hc6 w.heap.size 1 (by omega)).trans C1
            have g0 := (hf6 w.heap.size 0 (by omega)).trans F0
            have g1 := (hf6 w.heap.size 1 (by omega)).trans F1
            clear hc6 hf6
            have hrl : (zs.take (m + 1)).reverse.length = m + 1 := by rw [List.length_reverse, hpl]
            have hrd : Dig 65536 (zs.take (m + 1)).reverse := fun x hx => hzw x (List.mem_of_mem_take (List.mem_reverse.1 hx))
            have hR8 := (hR7.far (p := ⟨w.heap.size, 0, none⟩) hne (.int .i64 0)).far (p := ⟨w.heap.size, 1, none⟩) hne (.int .i64 0)
            have hL8 := Lib.hid (hR8.lift hrd (c := c5) hrl (by omega))
            clear hrd hR7 hpre
            go_wp2_with fail
            refine bodyPost_ret (v := .tuple #[.slice (some ⟨gg, 0, none⟩) (m + 1) c5, flt 0 0]) (by simp [results, Tryz.results126, go_sem, d0, d1]) rfl ⟨_, m + 1, c5, _, rfl, hL8.out, ?_, ?_⟩
            · rw [List.reverse_reverse]; exact HR.out
            · (repeat (first | exact Below.refl _ _ | exact hbW | refine Below.setCell ?_ (by simp; done) _ | refine Below.trans ?_ (Below.mono hb7 (by first | omega | (simp; done) | (simp; omega)))))
    · have hk0 : 0 < k := by omega
      have hv0 := rep_pos4 hCr.out (show (cs.take k).length = k by rw [List.length_take]; omega) hk0
      have hnn : 0 < n := by omega
      obtain ⟨hgl, hgh⟩ := HGB.out hnn
      have hRb := (hR hk0).2
      have hAe := (hR hk0).1
      clear hR
      subst hAe
      have hL := fg_len HS.out hv0 hy.1 HPM.out
      clear h0 hnv
      go_wp2_with fail
      refine (divideBySmall_any wr g k c4 cs (P : Int) hRb hcl hkc (by omega) ⟨hk4, hc4⟩).mono ?_
      rintro e w5 ⟨r, cs', rfl, r0, r1, hR5, hL5, hg5, hD5⟩
      have hlen5 := hD5.1
      have HD := Lib.hid (ds_val hD5 hkc hCr.out.val)
      have hown5 := hown.kept hg5 (.inr (fun e => by have := hown.lt _ e; omega))
      have hb5 : Below W2.heap.size W2 w5 := hbw.grown hg5 hsz (fun k hk => by injection hk with hk; omega)
      have hs5 : B3 ≤ w5.heap.size := by have := hg5.size; omega
      have hgw5 := hR5.lt
      have hl5 := hR5.lrd0 hL5 (B := w5.heap.size) (n := k) (c := c4) hgw5 (by omega) ⟨hk4, hc4⟩
      obtain ⟨rn, rfl⟩ := Int.eq_ofNat_of_zero_le r0
      rw [Int.toNat_natCast] at HD
      have hrn : rn < P := by omega
      clear hown hbw hRb hg5 hD5 r0 r1
      go_wp2_with fail
      refine (trim_any _ _ _ k c4 _ hl5).mono ?_
      rintro e w' ⟨t, rfl, ht5, rfl⟩
      have htk := ht5.le
      have HQ5 := Lib.hid (show Rep 4294967296 (cs'.take t) (vb 4294967296 (cs'.take k)) by
        have := trimmed ht5 hl5.len.out hl5.lim
        rwa [List.take_take, Nat.min_eq_left htk] at this)
      obtain ⟨q, hq⟩ : ∃ q, q = vb 4294967296 (cs'.take k) := ⟨_, rfl⟩
      rw [← hq] at HD HQ5
      have HMs := Lib.hid (show q < gk by
        have h5 := HD.out
        have h6 : q * 2 ≤ q * P := Nat.mul_le_mul_left _ (by
          have h7 := hLP2
          rcases Nat.lt_or_ge P 2 with e | e
          · exfalso
            have : P * y ≤ 1 * 36 := Nat.mul_le_mul (by omega) hy.2
            omega
          · exact e)
        omega)
      have HRn := Lib.hid (show rn < y ^ (W - 0) by rw [Nat.sub_zero, ← hLP.pow]; exact hrn)
      obtain ⟨L, hLL⟩ : ∃ L, L = zs.length := ⟨_, rfl⟩
      have HLL := Lib.hid hLL
      rw [← hLL] at hL
      clear hl5 ht5 hq hLL hcl hCr
      obtain ⟨wo, hwo⟩ : ∃ wo : World, wo = w5 := ⟨_, rfl⟩
      go_wp2_with fail
      go_loopw [11, 12, 42] (DjRel y L W g B3 (rn * y ^ L + vb y zs) W2 cs') (fun _ _ j _ => W - (intOf j).toNat)
      case atStart => exact ⟨0, rn, zs, Nat.zero_le _, rfl, rfl, by omega, HRn, hown5, (by show _ = _; rw [HLL.out]; rfl), hzd, hb5, hs5, hR5, (by show _ = _; rw [Nat.add_zero])⟩
      case round =>
        clear hown5 hb5 hs5 hR5 hgw5 hsz HRn
        obtain ⟨j, t2, zs2, hj, rfl, rfl, ht2, htl, hown, hzl, hzd2, hbw, hB3w, hR6, HS2⟩ := hrel
        have hsz := hbw.size
        have hzn : zs2.length ≤ 20000 := by have := hzl.out; omega
        by_cases h2 : j < W
        · have ST := Lib.hid (dj_step hzl.out HS2.out)
          have HDv := Lib.hid (dj_div htl.out h2 (by omega))
          have hml : t2 % y < y := Nat.mod_lt _ (by omega)
          have hdl : t2 / y ≤ t2 := Nat.div_le_self _ _
          have hyf : ((y : Int) == 0) = false := beq_eq_false_iff_ne.2 (by omega)
          have hq1 : 0 ≤ (t2 : Int) / (y : Int) ∧ (t2 : Int) / (y : Int) ≤ 4294967295 := ⟨Int.ediv_nonneg (by omega) (by omega), by rw [← Int.natCast_ediv]; omega⟩
          go_wp2_with (at_builtin; refine wpList_append_own _ rfl _ _ 37 rfl B3 3 i0 (.int .i64 0) 1 8 Tryz.underlying37 hi iz0 iz1 iz2 rfl (by decide) _ _ _ rfl (hown.alloc _) ⟨wr.heap.size, 0, none⟩ 1 1 [.int .i64 ((t2 : Int) % (y : Int))] rfl rfl (cell_one_new _ _ _) (fun u hu => by simp at hu; subst hu; rfl) (by unfold maxLen; omega) (by omega) (by first | (simp; omega) | omega) ?_; intro v' w1 hown' hgrow _)
          rw [show ((t2 : Int) % (y : Int)) = ((t2 % y : Nat) : Int) by simp] at hown'
          have ho := own_snocN hown'
          have hb1 : Below W2.heap.size W2 w1 := (hbw.alloc hsz _).grown hgrow (by simp; omega) (fun k hk => by have := (hown.lt k hk).1; omega)
          have hR7 := (hR6.alloc _).grown hgrow (fun e => by have := (hown.lt _ e.symm).1; omega)
          have hB4 : B3 ≤ w1.heap.size := by have := hgrow.size; simp at this; omega
          clear hown hown' hgrow hR6
          go_wp2_with fail
          go_roundw
          case rel => exact ⟨j + 1, t2 / y, _, by omega, by go_num, by first | rfl | simp, by omega, HDv, ho, (by show _ = _; rw [List.length_append, hzl.out]; rfl), hzd2.push hml, hb1, hB4, hR7, ST.out⟩
          case measure => simp [intOf]; omega
        · obtain rfl : j = W := by omega
          have HT0 := Lib.hid (show t2 = 0 by have := htl.out; rw [Nat.sub_self] at this; simpa using this)
          have HN := Lib.hid (show q * y ^ zs2.length + vb y zs2 = p by
            rw [hzl.out]
            exact dg_next HD.out hLP.pow (by have := HS2.out; rw [HT0.out] at this; exact this) (by rw [HLL.out]; exact HS.out))
          have hkc2 : t ≤ cs'.length := by omega
          have htc : t ≤ c4 := by omega
          go_wp2_with fail
          go_roundg q
          case measure => exact HMs.out
          case rel => exact ⟨.inl hnn, _, t, c4, cs', zs2, rfl, fun _ => ⟨rfl, hR6⟩, hkc2, htc, hc4, hL5, HQ5, hown, hzd2, hbw, hB3w, HN⟩
theorem nil_drd (w : World) : DRd w w.heap.size none 0 0 [] := ⟨rfl, by omega, Dig.nil, fun h0 => absurd h0 (by omega)⟩
theorem nil_repD : Rep 65536 [] 0 := ⟨Dig.nil, rfl, Top.nil⟩
theorem mkB (n : Nat) (hn : n ≤ 17592186044416) (w : World) :
    (Instr.makeSlice 109 (.int .i64 (n : Int)) (.int .i64 (n : Int))).run Tryz.prog w = .ok (.slice (some ⟨w.heap.size, 0, none⟩) n n) (w.alloc (.cells (List.replicate n (Value.bool false)).toArray 4)) := by
  obtain ⟨i, hi, hz, hs, hb⟩ := info_parts infoB
  have hr := run_make (P := Tryz.prog) w 109 4 i (.bool false) Tryz.underlying109 hi hz .i64 .i64 (n : Int) (n : Int) (by omega) (by omega) (by rw [hb]; omega) (by omega)
  rw [hr, hs]
  simp only [Int.toNat_natCast, Nat.mul_one]
  congr 3
  have := toList_madeCells_one (Value.bool false) n
  rw [← this]
  simp [Value.cells]
theorem ORd.news {w : World} {B b off n c : Nat} {xs : List Nat} (h : ORd w B (some ⟨b, off, none⟩) n c xs) : ∀ j u, (bools xs)[j]? = some u → w.cell? ((⟨b, off, none⟩ : Addr).add j) = some u := by
  intro j u hu
  rw [add_mk]
  have hj : j < xs.length := by
    rcases Nat.lt_or_ge j xs.length with e | e
    · exact e
    · rw [List.getElem?_eq_none (by simpa using e)] at hu; cases hu
  obtain ⟨b', off', e, _, hc⟩ := h.rd (by have := h.len.out; omega)
  injection e with e; injection e with e1 e2; subst e1; subst e2
  rw [hc j (by have := h.len.out; omega)]
  rw [List.getElem?_map, List.getElem?_eq_getElem hj] at hu
  show some (Value.bool (bt xs j)) = some u
  unfold bt
  rw [List.getD_eq_getElem?_getD, List.getElem?_eq_getElem hj]
  exact hu
theorem ORd.drop {w : World} {B b off n c N : Nat} {zs : List Nat} (h : ORd w B (some ⟨b, off, none⟩) n c zs) (hN : N < n) : ORd w B (some ⟨b, off + N, none⟩) (n - N) (c - N) (zs.drop N) := by
  have hl := h.len.out
  have hc := h.cap
  refine ⟨by show _ = _; rw [List.length_drop]; omega, by omega, fun x hx => h.lim x (List.mem_of_mem_drop hx), fun hn => ?_⟩
  obtain ⟨b', off', e, hb, hcell⟩ := h.rd (by omega)
  injection e with e; injection e with e1 e2; subst e1; subst e2
  refine ⟨b, off + N, rfl, hb, fun j hj => ?_⟩
  have := hcell (N + j) (by omega)
  rw [show off + N + j = off + (N + j) by omega, this]
  show some (Value.bool (bt zs (N + j))) = some (Value.bool (bt (zs.drop N) j))
  unfold bt
  rw [getD_drop]
end Go.Proofs.YtfgkhdpdjclmkaaGreat
