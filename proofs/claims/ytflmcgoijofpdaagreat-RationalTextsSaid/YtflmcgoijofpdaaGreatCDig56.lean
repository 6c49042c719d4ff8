/- appendGroup: further digits of a number. Exported function: From. -/
import Derived.Test.YtflmcgoijofpdaaGreatCe
import Derived.Test.YtflmcgoijofpdaaGreatCd
import Derived.Test.YtflmcgoijofpdaaGreatCb
import Derived.Test.YtflmcgoijofpdaaGreatCc
namespace Go.Proofs.YtflmcgoijofpdaaGreat
open Go.RowKit
set_option maxHeartbeats 400000
set_option maxRecDepth 100000
set_option linter.unusedSimpArgs false
set_option linter.unusedVariables false

def A1Rel (m y : Nat) (us : List Nat) (sc ca i : Value) : Prop :=
  ∃ j s q : Nat, j ≤ m ∧ i = .int .i64 (j : Int) ∧ sc = .int .u64 (s : Int) ∧ ca = .int .u64 (q : Int) ∧ s ≤ 4294967295 ∧ q < s ∧ Hid (s = y ^ j) ∧ Hid (q = hv y us j)
theorem a1_prod {s y : Nat} (hs : s ≤ 4294967295) (hy : y ≤ 36) : (s : Int) * (y : Int) ≤ 154618822620 := by
  have h1 : s * y ≤ 4294967295 * 36 := Nat.mul_le_mul hs hy
  omega
theorem a1_lt {s q d y : Nat} (h : q < s) (hd : d < y) : q * y + d < s * y := by
  have : (q + 1) * y ≤ s * y := Nat.mul_le_mul_right _ h
  rw [Nat.add_mul] at this
  omega
def A2Is (cs : List Nat) (sc c0 j : Nat) (q : Int) (cs' : List Nat) : Prop :=
  cs'.length = cs.length ∧ (∀ i, j ≤ i → cs'.getD i 0 = cs.getD i 0) ∧ S 4294967296 (fun i => cs'.getD i 0) j + q.toNat * 4294967296 ^ j = S 4294967296 (fun i => cs.getD i 0) j * sc + c0
theorem a2_step {cs cs' : List Nat} {sc c0 j : Nat} {q : Int} (h : A2Is cs sc c0 j q cs') (hj : j < cs.length) (hq : 0 ≤ q) :
    A2Is cs sc c0 (j + 1) ((q + nth cs' j * (sc : Int)) / 4294967296) (cs'.set j ((q + nth cs' j * (sc : Int)) % 4294967296).toNat) := by
  obtain ⟨h1, h2, h3⟩ := h
  refine ⟨by rw [List.length_set, h1], fun i hi => ?_, ?_⟩
  · rw [getD_set _ _ _ _ (by omega), if_neg (by omega)]; exact h2 i (by omega)
  · rw [S_succ, S_succ, S_ext (g := fun i => cs'.getD i 0) (fun i hi => by rw [getD_set _ _ _ _ (by omega), if_neg (by omega)])]
    rw [getD_set _ _ _ _ (by omega), if_pos rfl]
    unfold nth
    rw [h2 j (Nat.le_refl _)]
    generalize cs.getD j 0 = x at *
    obtain ⟨q, rfl⟩ := Int.eq_ofNat_of_zero_le hq
    rw [show ((q : Int) + (x : Int) * (sc : Int)) = ((q + x * sc : Nat) : Int) by push_cast; rfl]
    rw [show ((((q + x * sc : Nat) : Int) % 4294967296).toNat) = (q + x * sc) % 4294967296 by omega]
    rw [show ((((q + x * sc : Nat) : Int) / 4294967296).toNat) = (q + x * sc) / 4294967296 by omega]
    have e : (q + x * sc) % 4294967296 + 4294967296 * ((q + x * sc) / 4294967296) = q + x * sc := Nat.mod_add_div _ _
    simp only [Int.toNat_natCast] at h3 ⊢
    generalize (q + x * sc) % 4294967296 = r at *
    generalize (q + x * sc) / 4294967296 = d at *
    rw [Nat.pow_succ]
    generalize 4294967296 ^ j = P at *
    grind
theorem a2_val0 {cs cs' : List Nat} {sc c0 k : Nat} (h : A2Is cs sc c0 k 0 cs') (hk : cs.length = k) : vb 4294967296 cs' = vb 4294967296 cs * sc + c0 := by
  obtain ⟨h1, _, h3⟩ := h
  rw [vb_len (xs := cs') (by omega), vb_len (xs := cs) (by omega)] at h3
  simpa using h3
theorem a2_val1 {cs cs' : List Nat} {sc c0 k : Nat} {q : Int} (h : A2Is cs sc c0 k q cs') (hk : cs.length = k) : vb 4294967296 (cs' ++ [q.toNat]) = vb 4294967296 cs * sc + c0 := by
  obtain ⟨h1, _, h3⟩ := h
  rw [vb_len (xs := cs') (by omega), vb_len (xs := cs) (by omega)] at h3
  rw [vb_snoc, show cs'.length = k by omega, Nat.mul_comm]
  exact h3
theorem a2_top0 {cs cs' : List Nat} {sc c0 : Nat} (hl : cs'.length = cs.length) (hd : Lim cs') (hv : vb 4294967296 cs' = vb 4294967296 cs * sc + c0) (hs : 1 ≤ sc) (ht : Top cs) : Top cs' := by
  intro m hm h0
  have h1 := ht.low (b := 4294967296) (show cs.length = m + 1 by omega)
  have h2 : vb 4294967296 cs * 1 ≤ vb 4294967296 cs * sc := Nat.mul_le_mul_left _ hs
  have h3 : vb 4294967296 cs' = S 4294967296 (fun i => cs'.getD i 0) m := by unfold vb; rw [hm, S_succ, h0]; omega
  have h4 : S 4294967296 (fun i => cs'.getD i 0) m < 4294967296 ^ m := S_lt (by decide) (fun j _ => Dig.at_ hd (by decide) j)
  omega
theorem a2_top1 {cs' : List Nat} {q : Int} (h0 : 0 ≤ q) (hq : q ≠ 0) : Top (cs' ++ [q.toNat]) := by
  intro i hi
  rw [List.length_append, List.length_singleton] at hi
  obtain rfl : i = cs'.length := by omega
  rw [getD_append, if_neg (by omega), Nat.sub_self]
  show q.toNat ≠ 0
  omega
theorem own_snoc32 {w1 : World} {B : Nat} {x : Int} {v' : Value} {zs : List Nat} (hx : 0 ≤ x) (hown' : w1.ownsRow B 95 1 v' (zs.length + 1) (limbs zs ++ [.int .u32 x])) : w1.ownsRow B 95 1 v' (zs ++ [x.toNat]).length (limbs (zs ++ [x.toNat])) := by
  have e : ((x.toNat : Nat) : Int) = x := Int.toNat_of_nonneg hx
  rw [List.length_append]; simpa [limbs, e] using hown'
theorem own_set32 {w : World} {B g n cap : Nat} {zs : List Nat} (h : w.ownsRow B 95 1 (.slice (some ⟨g, 0, none⟩) n cap) n (limbs zs)) (j : Nat) {x : Int} (hx : 0 ≤ x) :
    (w.setCell ⟨g, j, none⟩ (.int .u32 x)).ownsRow B 95 1 (.slice (some ⟨g, 0, none⟩) n cap) n (limbs (zs.set j x.toNat)) := by
  have e : ((x.toNat : Nat) : Int) = x := Int.toNat_of_nonneg hx
  have e2 : limbs (zs.set j x.toNat) = (limbs zs).set j (.int .u32 x) := by simp [limbs, List.map_set, e]
  rw [e2]
  exact (h.stored j (.int .u32 x)).1
theorem own_form {w : World} {base : Nat} {e : TypeId} {size : Nat} {v : Value} {n : Nat} {xs : List Value} (h : w.ownsRow base e size v n xs) (hn : 0 < n) : ∃ g cap, v = .slice (some ⟨g, 0, none⟩) n cap := by
  rcases h.2 with ⟨_, h0⟩ | ⟨g, cap, cur, hv, _⟩
  · omega
  · exact ⟨g, cap, hv⟩
theorem own_cell32 {w : World} {B g n cap : Nat} {zs : List Nat} (h : w.ownsRow B 95 1 (.slice (some ⟨g, 0, none⟩) n cap) n (limbs zs)) (hl : zs.length = n) {j : Nat} (hj : j < n) : w.cell? ⟨g, j, none⟩ = some (.int .u32 (nth zs j)) := by
  rw [h.cellAt j (by omega)]
  unfold nth
  simp [show j < zs.length by omega]
def A2Rel (B k sc c0 : Nat) (v : Value) (zs : List Nat) (w : World) (ca i : Value) (wr : World) : Prop :=
  ∃ (j : Nat) (q : Int) (cs' : List Nat), j ≤ k ∧ i = .int .i64 (j : Int) ∧ ca = .int .u64 q ∧ 0 ≤ q ∧ q < 4294967296 ∧ wr.ownsRow B 95 1 v k (limbs cs') ∧ Lim cs' ∧ Below B w wr ∧ Hid (A2Is zs sc c0 j q cs')
def AgPost (B k y m : Nat) (zs us : List Nat) (w : World) (e : Ending) (w' : World) : Prop :=
  ∃ v' zs', e = .returned v' ∧ w'.ownsRow B 95 1 v' zs'.length (limbs zs') ∧ Lim zs' ∧ zs'.length ≤ k + 1 ∧ vb 4294967296 zs' = vb 4294967296 zs * y ^ m + hv y us m ∧ (Top zs → Top zs') ∧ Below B w w'
set_option maxHeartbeats 4000000 in
theorem appendGroup_any (w : World) (B Bd : Nat) (A D : Option Addr) (k c1 m d y : Nat) (zs us : List Nat) (hown : w.ownsRow B 95 1 (.slice A k c1) k (limbs zs)) (hzl : zs.length = k) (hz : Lim zs) (hU : DRd w Bd D m d us) (hB : B ≤ w.heap.size) (hud : Dig y us) (hy : 2 ≤ y ∧ y ≤ 36) (hP : y ^ m ≤ 4294967295) (hk : k ≤ 10000) (hm : m ≤ 32) :
    Calls Tryz.prog 157 #[.slice A k c1, .slice D m d, .int .i64 (y : Int)] w (AgPost B k y m zs us w) := by
  obtain ⟨i0, hi, iz0, iz1, iz2⟩ := info_parts info32
  have hcap := hU.cap
  have hul := Lib.hid hU.len.out
  have HZL := Lib.hid hzl
  have HP := Lib.hid hP
  obtain ⟨A', c', e1, hc1, hc2⟩ := own_shape hown
  injection e1 with e1 e2 e3
  subst e3
  subst e1
  unfold maxLen at hc2
  clear hzl hP e2
  go_enter Tryz.func157, Tryz.ntmps157
  go_wp2_with fail
  go_loop [7, 8, 15] (A1Rel m y us) (fun _ _ i => m - (intOf i).toNat)
  case atStart => exact ⟨0, 1, 0, by omega, rfl, rfl, rfl, by omega, by omega, (by show _ = _; rw [Nat.pow_zero]), (by show _ = _; rw [hv_zero])⟩
  case round =>
    obtain ⟨j, s, q, hj, rfl, rfl, rfl, hs, hqs, HS, HQ⟩ := hrel
    by_cases h1 : j < m
    · obtain ⟨b, off, rfl, hb, hc⟩ := hU.rd (by omega)
      obtain ⟨t, ht⟩ : ∃ t, t = us.getD j 0 := ⟨_, rfl⟩
      have g1 : w.cell? ⟨b, off + j, none⟩ = some (.int .i64 (t : Int)) := by
        have := hc j h1
        unfold nth at this
        rw [ht]
        exact this
      have hty : t < y := by rw [ht]; exact Dig.at_ hud (by omega) j
      have HV := Lib.hid (show q * y + t = hv y us (j + 1) by rw [hv_succ (by rw [hul.out]; exact h1), ← HQ.out, ht])
      have HS2 := Lib.hid (show s * y = y ^ (j + 1) by rw [Nat.pow_succ, ← HS.out])
      have hs2 : s * y ≤ 4294967295 := by rw [HS2.out]; exact Nat.le_trans (Nat.pow_le_pow_right (by omega) h1) HP.out
      have hq2 := a1_lt hqs hty
      have p1 := a1_prod hs hy.2
      have p2 : (q : Int) * (y : Int) ≤ 154618822620 := a1_prod (by omega) hy.2
      have p0 : 0 ≤ (s : Int) * (y : Int) := Int.mul_nonneg (by omega) (by omega)
      have p3 : 0 ≤ (q : Int) * (y : Int) := Int.mul_nonneg (by omega) (by omega)
      clear hc ht
      go_wp2_with fail
      go_round
      case rel => exact ⟨j + 1, s * y, q * y + t, by omega, by go_num, by first | rfl | simp, by first | rfl | simp, hs2, hq2, HS2, HV⟩
      case measure => first | (simp [intOf]; done) | (simp [intOf]; omega)
    · obtain rfl : j = m := by omega
      obtain ⟨wo, hwo⟩ : ∃ wo : World, wo = w := ⟨_, rfl⟩
      go_wp2_with fail
      go_loopw [8, 33] (A2Rel B k s q (.slice A k c1) zs w) (fun _ i _ => k - (intOf i).toNat)
      case atStart => exact ⟨0, (q : Int), zs, Nat.zero_le _, rfl, rfl, by omega, by omega, hown, hz, Below.refl _ _, rfl, fun _ _ => rfl, by simp [S_zero]⟩
      case round =>
        clear hown
        obtain ⟨i, r, cs, hi2, rfl, rfl, r0, r1, hown, hL, hbw, HA⟩ := hrel
        have hlen := Lib.hid (show cs.length = k by rw [HA.out.1, HZL.out])
        have hsz := hbw.size
        by_cases h2 : i < k
        · obtain ⟨g, cap, e⟩ := own_form hown (by omega)
          injection e with e1 e2 e3
          subst e1
          subst e3
          have g3 := own_cell32 hown hlen.out h2
          have g4 := hown.frozenAt i
          have a1 := nth_nn cs i
          have a2 := hL.nth i
          have a5 := am_prod (nth cs i) (s : Int) ⟨a1, a2⟩ (by omega)
          have ST := Lib.hid (a2_step HA.out (by rw [HZL.out]; exact h2) r0)
          have hgB : B ≤ g := (hown.lt g rfl).1
          go_wp2_with fail
          go_roundw
          case rel => exact ⟨i + 1, _, _, by omega, by go_num, rfl, Int.ediv_nonneg (by omega) (by omega), by omega, own_set32 hown i (Int.emod_nonneg _ (by omega)), hL.set (by omega), hbw.setCell (by simpa using hgB) _, ST.out⟩
          case measure => simp [intOf]; omega
        · obtain rfl : i = k := by omega
          by_cases hr : r = 0
          · subst hr
            have HV := Lib.hid (a2_val0 HA.out HZL.out)
            go_wp2_with fail
            go_ret
            exact ⟨_, cs, rfl, by rw [hlen.out]; exact hown, hL, by rw [hlen.out]; omega, by rw [HV.out, HS.out, HQ.out], fun ht => a2_top0 (by rw [hlen.out, HZL.out]) hL HV.out (by omega) ht, hbw⟩
          · have HV := Lib.hid (a2_val1 HA.out HZL.out)
            have HT := Lib.hid (a2_top1 (cs' := cs) r0 hr)
            have hrf : (r != 0) = true := bne_iff_ne.2 hr
            have hwr : r % 4294967296 = r := by omega
            clear hr
            go_wp2_with (at_builtin; refine wpList_append_own _ rfl _ _ 22 rfl B 95 i0 (.int .u32 0) 1 4 Tryz.underlying22 hi iz0 iz1 iz2 rfl (by decide) _ _ _ rfl (hown.alloc _) ⟨wr.heap.size, 0, none⟩ 1 1 [.int .u32 r] rfl rfl (cell_one_new _ _ _) (fun u hu => by simp at hu; subst hu; rfl) (by unfold maxLen; omega) (by omega) (by first | (simp; omega) | omega) ?_; intro v' w1 hown' hgrow _)
            have ho := own_snoc32 (zs := cs) r0 (by rw [hlen.out]; exact hown')
            have hb1 : Below B w w1 := (hbw.alloc (by omega) _).grown hgrow (by simp; omega) (fun k hk => (hown.lt k hk).1)
            clear hown hown' hgrow
            go_wp2_with fail
            go_ret
            exact ⟨_, _, rfl, ho, hL.snoc (by omega), by rw [List.length_append, hlen.out]; simp, by rw [HV.out, HS.out, HQ.out], fun _ => HT.out, hb1⟩
end Go.Proofs.YtflmcgoijofpdaaGreat

namespace Go.Proofs.YtflmcgoijofpdaaGreat
open Go.RowKit
set_option maxHeartbeats 400000
set_option maxRecDepth 100000
set_option linter.unusedSimpArgs false
set_option linter.unusedVariables false

def FvRel (m : Nat) (i : Value) : Prop := ∃ j : Nat, j ≤ m ∧ i = .int .i64 (j : Int)
theorem hv_take (y : Nat) (xs : List Nat) (i : Nat) : hv y (xs.take i) i = hv y xs i := by unfold hv; rw [List.take_take, Nat.min_self]
theorem hv_add {y j : Nat} {xs : List Nat} : ∀ t : Nat, j + t ≤ xs.length → hv y xs (j + t) = hv y xs j * y ^ t + hv y (xs.drop j) t
  | 0, _ => by simp [hv_zero]
  | t + 1, h => by
    have ih := hv_add (y := y) t (show j + t ≤ xs.length by omega)
    rw [show j + (t + 1) = (j + t) + 1 by omega, hv_succ (by omega), hv_succ (by rw [List.length_drop]; omega), ih, getD_drop, Nat.pow_succ]
    generalize hv y xs j = a
    generalize hv y (xs.drop j) t = b
    generalize y ^ t = P
    grind
theorem own_lrd32 {w : World} {base n c : Nat} {A : Option Addr} {zs : List Nat} (h : w.ownsRow base 95 1 (.slice A n c) n (limbs zs)) (hd : Lim zs) : LRd w w.heap.size A n c zs := by
  obtain ⟨h1, h2, h3, h4⟩ := own_rd h
  have hl : zs.length = n := by simpa using h3
  refine ⟨hl, ⟨h1, h2⟩, hd, h4.congr fun j hj => ?_⟩
  unfold nth
  simp [show j < zs.length by omega]
theorem drd_drop {w : World} {B b off n c N c' : Nat} {D : Option Addr} {zs : List Nat} (h : DRd w B (some ⟨b, off, none⟩) n c zs) (hN : N ≤ n) (hD : 0 < n - N → D = some ⟨b, off + N, none⟩) (hc : n - N ≤ c' ∧ c' ≤ 9223372036854775807) : DRd w B D (n - N) c' (zs.drop N) := by
  have hl := h.len.out
  refine ⟨by show _ = _; rw [List.length_drop]; omega, hc, fun x hx => h.lim x (List.mem_of_mem_drop hx), fun hn => ?_⟩
  obtain rfl := hD hn
  obtain ⟨b', off', e, hb, hcell⟩ := h.rd (by omega)
  injection e with e; injection e with e1 e2; subst e1; subst e2
  refine ⟨b, off + N, rfl, hb, fun j hj => ?_⟩
  have := hcell (N + j) (by omega)
  rw [show off + N + j = off + (N + j) by omega, this]
  show some (Value.int .i64 (nth zs (N + j))) = some (Value.int .i64 (nth (zs.drop N) j))
  unfold nth
  rw [getD_drop]
theorem DRd.take {w : World} {B n c k : Nat} {A : Option Addr} {zs : List Nat} (h : DRd w B A n c zs) (hk : k ≤ n) : DRd w B A k c (zs.take k) := by
  have hl := h.len.out
  have hcap := h.cap
  refine ⟨by show _ = _; rw [List.length_take]; omega, by omega, fun x hx => h.lim x (List.mem_of_mem_take hx), (h.rd.take hk).congr fun j hj => ?_⟩
  unfold nth
  rw [getD_take, if_pos hj]
def FrRel (n y B Bo : Nat) (xs : List Nat) (W2 : World) (s0 s11 : Value) (wr : World) : Prop :=
  ∃ j D d zs, j ≤ n ∧ s0 = .slice D (n - j) d ∧ DRd wr B D (n - j) d (xs.drop j) ∧ wr.ownsRow Bo 95 1 s11 zs.length (limbs zs) ∧ Lim zs ∧ zs.length ≤ 601 ∧ Hid (Rep 4294967296 zs (hv y xs j)) ∧ Below W2.heap.size W2 wr
set_option maxHeartbeats 8000000 in
theorem from_ok (w : World) (B : Nat) (A : Option Addr) (n c y : Nat) (xs : List Nat) (h : DRd w B A n c xs) (hB : B ≤ w.heap.size) (hd : Dig y xs) (hy : 2 ≤ y ∧ y ≤ 36) :
    Calls Tryz.prog 145 #[.slice A n c, .int .i64 (y : Int)] w (GivesB w (vb y xs.reverse)) := by
  have hcap := h.cap
  have hxl := Lib.hid h.len.out
  have h1 := fun (o : Obj) => h.below (bl1 w o) hB
  go_enter Tryz.func145, Tryz.ntmps145
  go_wp2_with fail
  refine (checkBase_ok _ (y : Int) (by omega)).mono ?_
  rintro e w1 ⟨rfl, hb⟩
  obtain ⟨hc, hf⟩ := bcell hb
  have hz : w.heap.size < w1.heap.size := by have := hb.size; simp at this; omega
  have hb' : Below w.heap.size w w1 := (bl1 w _).trans (hb.mono (by simp))
  obtain ⟨W2, hW2⟩ : ∃ W2 : World, W2 = w1.alloc (.cells #[.int .i64 0, .int .i64 0] 28) := ⟨_, rfl⟩
  have hbW : Below w.heap.size w W2 := by rw [hW2]; exact hb'.alloc (by omega) _
  have hD2 : DRd W2 B A n c xs := h.below hbW hB
  have hWs : W2.heap.size = w1.heap.size + 1 := by rw [hW2]; simp
  have C0 : W2.cell? ⟨w.heap.size, 0, none⟩ = some (.int .i64 0) := by rw [hW2, World.cell?_alloc_lt _ _ _ hz]; simp [go_sem, hc]
  have C1 : W2.cell? ⟨w.heap.size, 1, none⟩ = some (.int .i64 0) := by rw [hW2, World.cell?_alloc_lt _ _ _ hz]; simp [go_sem, hc]
  have F0 : W2.frozen? ⟨w.heap.size, 0, none⟩ = false := by rw [hW2, World.frozen?_alloc_past _ _ _ hz]; simp [go_sem, hf]
  have F1 : W2.frozen? ⟨w.heap.size, 1, none⟩ = false := by rw [hW2, World.frozen?_alloc_past _ _ _ hz]; simp [go_sem, hf]
  go_wp2_with fail
  rw [← hW2]
  clear hc hf hb hb' h h1 hW2
  go_loop [21] (FvRel n) (fun i => n - (intOf i).toNat)
  case atStart => exact ⟨0, by omega, rfl⟩
  case round =>
    obtain ⟨j, hj, rfl⟩ := hrel
    by_cases h1 : j < n
    · obtain ⟨b, off, rfl, hbb, hcell⟩ := hD2.rd (by omega)
      have g1 : W2.cell? ⟨b, off + j, none⟩ = some (.int .i64 (nth xs j)) := hcell j h1
      have a1 := nth_nn xs j
      have a2 : nth xs j < (y : Int) := by have := Dig.at_ hd (by omega) j; unfold nth; omega
      clear hcell
      go_wp2_with fail
      go_round
      case rel => exact ⟨j + 1, by omega, by go_num⟩
      case measure => first | (simp [intOf]; done) | (simp [intOf]; omega)
    · obtain rfl : j = n := by omega
      go_wp2_with fail
      refine (largestPower_any _ y hy).mono ?_
      rintro e w' ⟨P, W, rfl, rfl, hLP, hLP2⟩
      have hW := hLP.wid
      have HLP := Lib.hid (show ∀ t, t ≤ W → y ^ t ≤ 4294967295 from fun t ht => Nat.le_trans (Nat.pow_le_pow_right (by omega) ht) (by rw [← hLP.pow]; exact hLP.hi))
      have hW0 : 0 < W := by
        rcases Nat.eq_zero_or_pos W with e | e
        · exfalso
          have := hLP.pow
          rw [e, Nat.pow_zero] at this
          subst this
          omega
        · exact e
      clear hLP2
      obtain ⟨wo, hwo⟩ : ∃ wo : World, wo = W2 := ⟨_, rfl⟩
      go_wp2_with fail
      go_loopw [0, 11] (FrRel j y B W2.heap.size xs W2) (fun d _ _ => slen d)
      case atStart => exact ⟨0, A, c, [], Nat.zero_le _, rfl, hD2, World.ownsRow_nil _ _ _ _, (by intro x hx; cases hx), by simp, by rw [hv_zero]; exact nil_rep, Below.refl _ _⟩
      case round =>
        obtain ⟨i, D, d, zs, hi, rfl, hDr, hown, hL, hzl, hZr, hbw⟩ := hrel
        have hsz := hbw.size
        have hcd := hDr.cap
        have hsw : w.heap.size ≤ W2.heap.size := hbW.size
        obtain ⟨A5, c5, rfl, hc1, hc2⟩ := own_shape hown
        unfold maxLen at hc2
        have hVT := Lib.hid (hv_all (y := y) (xs := xs) hxl.out)
        have hMn := Lib.hid (show hv y xs i ≤ vb y xs.reverse by
          rw [← hVT.out]
          have h7 := hv_add (y := y) (xs := xs) (j := i) (j - i) (by rw [hxl.out]; omega)
          rw [show i + (j - i) = j by omega] at h7
          have h8 : hv y xs i * 1 ≤ hv y xs i * y ^ (j - i) := Nat.mul_le_mul_left _ (Nat.pow_pos (by omega))
          omega)
        by_cases hex : i = j ∨ (i < j ∧ 600 < zs.length)
        · have HLR := Lib.hid (own_lrd32 hown hL)
          obtain ⟨hc6, hf6⟩ := bcell hbw
          have d0 := (hc6 w.heap.size 0 (by omega)).trans C0
          have d1 := (hc6 w.heap.size 1 (by omega)).trans C1
          have g0 := (hf6 w.heap.size 0 (by omega)).trans F0
          have g1 := (hf6 w.heap.size 1 (by omega)).trans F1
          clear hc6 hf6
          by_cases hk : zs.length ≤ 600
          · obtain rfl : i = j := by omega
            clear hex
            go_wp2_with fail
            refine (limited_ok wr A5 zs.length c5 hk).mono ?_
            rintro e w3 ⟨rfl, hb3⟩
            have hs3 := hb3.size
            obtain ⟨hc7, hf7⟩ := bcell hb3
            have e0 := (hc7 w.heap.size 0 (by omega)).trans d0
            have e1 := (hc7 w.heap.size 1 (by omega)).trans d1
            have f0 := (hf7 w.heap.size 0 (by omega)).trans g0
            have f1 := (hf7 w.heap.size 1 (by omega)).trans g1
            clear hc7 hf7 d0 d1 g0 g1
            have HL3 := Lib.hid ((HLR.out.below hb3 (Nat.le_refl _)).more hs3)
            have hfit := fit_len hZr.out rfl hk
            rw [hVT.out] at hfit
            go_wp2_with fail
            refine bodyPost_ret (v := .tuple #[.slice A5 zs.length c5, flt 0 0]) (by simp [results, Tryz.results145, go_sem, e0, e1]) rfl (.inl ⟨hfit, A5, zs.length, c5, zs, rfl, ?_, by rw [← hVT.out]; exact hZr.out, ?_⟩)
            · exact ((HL3.out.setI e0 _).setI (by rw [World.cell?_setCell_other _ _ _ _ (by simp)]; exact e1) _).more (by simp [World.setCell])
            · (repeat (first | exact Below.refl _ _ | exact hbW | refine Below.setCell ?_ (by simp; done) _ | refine Below.trans ?_ (Below.mono hb3 (by first | omega | (simp; done) | (simp; omega))) | refine Below.trans ?_ (Below.mono hbw (by first | omega | (simp; done) | (simp; omega)))))
          · have hbig := Nat.le_trans (big_len hZr.out rfl (by omega)) hMn.out
            rcases hex with rfl | ⟨hij, hk6⟩
            all_goals
              go_wp2_with fail
              refine (limited_bad wr A5 zs.length c5 (by omega) (by omega)).mono ?_
              rintro e w3 ⟨rfl, hb3⟩
              have hs3 := hb3.size
              obtain ⟨hc7, hf7⟩ := bcell hb3
              have e0 := (hc7 w.heap.size 0 (by omega)).trans d0
              have e1 := (hc7 w.heap.size 1 (by omega)).trans d1
              have f0 := (hf7 w.heap.size 0 (by omega)).trans g0
              have f1 := (hf7 w.heap.size 1 (by omega)).trans g1
              clear hc7 hf7 d0 d1 g0 g1
              go_wp2_with fail
              refine bodyPost_ret (v := .tuple #[.slice none 0 0, flt 14 (-1)]) (by simp [results, Tryz.results145, go_sem, e0, e1]) rfl (.inr ⟨hbig, none, 0, 0, [], rfl, nil_lrd _, nil_rep, ?_⟩)
              (repeat (first | exact Below.refl _ _ | exact hbW | refine Below.setCell ?_ (by simp; done) _ | refine Below.trans ?_ (Below.mono hb3 (by first | omega | (simp; done) | (simp; omega))) | refine Below.trans ?_ (Below.mono hbw (by first | omega | (simp; done) | (simp; omega)))))
        · have hij : i < j := by omega
          have hzs : zs.length ≤ 600 := by omega
          have hpos : 0 < j - i := by omega
          obtain ⟨b, off, rfl, hbb, _⟩ := hDr.rd hpos
          clear hex
          obtain ⟨t, ht⟩ : ∃ t : Nat, t = min W (j - i) := ⟨_, rfl⟩
          have ht1 : t ≤ W := by omega
          have ht2 : t ≤ j - i := by omega
          have ht0 : 0 < t := by omega
          have HD := Lib.hid (hDr.take ht2)
          have HU := Lib.hid (show Dig y ((xs.drop i).take t) from fun x hx => hd x (List.mem_of_mem_drop (List.mem_of_mem_take hx)))
          have HA := Lib.hid (hv_add (y := y) (xs := xs) (j := i) t (by rw [hxl.out]; omega))
          have hPt := HLP.out t ht1
          go_wp2_with fail
          first
            | rw [← ht]
            | rw [show min (W : Int) ((j - i : Nat) : Int) = (t : Int) by omega, Int.toNat_natCast]
          clear ht
          refine (appendGroup_any wr W2.heap.size B A5 (some ⟨b, off, none⟩) zs.length c5 t d y zs ((xs.drop i).take t) hown rfl hL HD.out hsz HU.out hy hPt (by omega) (by omega)).mono ?_
          rintro e w5 ⟨v', zs', rfl, hown5, hL5, hzl5, hv5, ht5, hb5⟩
          have HV := Lib.hid (show Rep 4294967296 zs' (hv y xs (i + t)) from ⟨hL5, by rw [hv5, hv_take, hZr.out.val, HA.out], ht5 hZr.out.top⟩)
          have hb6 := hbw.trans hb5
          have HDr := Lib.hid (show DRd w5 B (if d = t then some ⟨b, off, none⟩ else some ⟨b, off + t, none⟩) (j - (i + t)) (d - t) (xs.drop (i + t)) by
            have h7 := (drd_drop (D := if d = t then some ⟨b, off, none⟩ else some ⟨b, off + t, none⟩) (c' := d - t) hDr ht2 (fun h => by rw [if_neg (by omega)]) (by omega)).below hb5 (by omega)
            rw [List.drop_drop] at h7
            rw [show j - (i + t) = j - i - t by omega]
            exact h7)
          clear hv5 ht5 hown HD
          go_wp2_with fail
          go_roundw
          case rel => exact ⟨i + t, _, d - t, zs', by omega, congrArg (fun q => Value.slice (if d = t then some ⟨b, off, none⟩ else some ⟨b, off + t, none⟩) q (d - t)) (by omega), HDr.out, hown5, hL5, by omega, HV, hb6⟩
          case measure => simp [slen]; omega
end Go.Proofs.YtflmcgoijofpdaaGreat
