/- The reference's Moved. -/
import Derived.Test.YtjkogajdpkbjeaaBinary
import Derived.Test.YtjkogajdpkbjeaaRoot
import Derived.Deep.QuietTactic
import Derived.BigQuiet
namespace Go.Proofs.Ytjkogajdpkbjeaa
open Go.RowKit
set_option maxHeartbeats 400000
set_option maxRecDepth 100000
set_option linter.unusedSimpArgs false
set_option linter.unusedVariables false

def movedV (p : Nat) (s : Int) : Nat := if s < 0 then p / 2 ^ (-s).toNat else p * 2 ^ s.toNat
theorem nil_drd (w : World) : DRd w w.heap.size none 0 0 [] := ⟨rfl, by omega, Dig.nil, fun h0 => absurd h0 (by omega)⟩
theorem nil_repD : Rep 65536 [] 0 := ⟨Dig.nil, rfl, Top.nil⟩
theorem nil_gives {w w' : World} (h : Below w.heap.size w w') : GivesN w 0 (.returned (.slice none 0 0)) w' := ⟨none, 0, 0, [], rfl, nil_drd _, nil_repD, h⟩
theorem mkB (n : Nat) (hn : n ≤ 17592186044416) (w : World) :
    (Instr.makeSlice 46 (.int .i64 (n : Int)) (.int .i64 (n : Int))).run Try.prog w = .ok (.slice (some ⟨w.heap.size, 0, none⟩) n n) (w.alloc (.cells (List.replicate n (Value.bool false)).toArray 4)) := by
  obtain ⟨i, hi, hz, hs, hb⟩ := info_parts infoB
  have hr := run_make (P := Try.prog) w 46 4 i (.bool false) Try.underlying46 hi hz .i64 .i64 (n : Int) (n : Int) (by omega) (by omega) (by rw [hb]; omega) (by omega)
  rw [hr, hs]
  simp only [Int.toNat_natCast, Nat.mul_one]
  congr 3
  have := toList_madeCells_one (Value.bool false) n
  rw [← this]
  simp [Value.cells]
theorem own_made (w : World) (t : TypeId) (n : Nat) (v : Value) (hn : n ≤ 1000000000) : (w.alloc (.cells (List.replicate n v).toArray t)).ownsRow w.heap.size t 1 (.slice (some ⟨w.heap.size, 0, none⟩) n n) n (List.replicate n v) :=
  ⟨by simp, .inr ⟨w.heap.size, n, (List.replicate n v).toArray, rfl, Nat.le_refl _, heap_alloc_new w _, Nat.le_refl _, by unfold maxLen; omega, by simp, by simp⟩⟩
theorem ORd.news {w : World} {B b off n c : Nat} {xs : List Nat} (h : ORd w B (some ⟨b, off, none⟩) n c xs) : ∀ j u, (bools xs)[j]? = some u → w.cell? ((⟨b, off, none⟩ : Addr).add j) = some u := by
  intro j u hu
  rw [add_mk]
  have hj : j < xs.length := by
    rcases Nat.lt_or_ge j xs.length with e | e
    · exact e
    · rw [List.getElem?_eq_none (by simpa using e)] at hu; cases hu
  obtain ⟨b', off', e, _, hc⟩ := h.rd (by have := h.len.out; omega)
  injection e with e; injection e with e1 e2; subst e1; subst e2
  rw [hc j (by have := h.len.out; omega)]
  rw [List.getElem?_map, List.getElem?_eq_getElem hj] at hu
  show some (Value.bool (bt xs j)) = some u
  unfold bt
  rw [List.getD_eq_getElem?_getD, List.getElem?_eq_getElem hj]
  exact hu
theorem bools_one (xs : List Nat) : ∀ u ∈ bools xs, u.oneCell' = true := by
  intro u hu
  obtain ⟨x, _, rfl⟩ := List.mem_map.1 hu
  rfl
theorem bools_rep (n : Nat) (zs : List Nat) : List.replicate n (Value.bool false) ++ bools zs = bools (List.replicate n 0 ++ zs) := by
  unfold bools
  rw [List.map_append, List.map_replicate]
  rfl
theorem vb_zeros (b n : Nat) (zs : List Nat) : vb b (List.replicate n 0 ++ zs) = vb b zs * b ^ n := by
  rw [vb_append, List.length_replicate, Nat.mul_comm (b ^ n)]
  have : vb b (List.replicate n 0) = 0 := by
    unfold vb
    rw [S_zeros (m := 0) (Nat.zero_le _) (fun j _ _ => replicate_getD _ _)]; rfl
  omega
theorem vb_drop {zs : List Nat} (h : Dig 2 zs) (N : Nat) (hN : N ≤ zs.length) : vb 2 (zs.drop N) = vb 2 zs / 2 ^ N := by
  have e : vb 2 zs = vb 2 (zs.take N) + 2 ^ N * vb 2 (zs.drop N) := by
    have h1 := vb_append (b := 2) (zs.take N) (zs.drop N)
    rw [List.take_append_drop, List.length_take, Nat.min_eq_left hN] at h1
    exact h1
  have h2 : vb 2 (zs.take N) < 2 ^ N := by
    have h3 := vb_lt (b := 2) (xs := zs.take N) (by decide) (fun x hx => h x (List.mem_of_mem_take hx))
    rwa [List.length_take, Nat.min_eq_left hN] at h3
  rw [e, Nat.add_comm, Nat.mul_add_div (Nat.two_pow_pos _), Nat.div_eq_of_lt h2]; rfl
theorem ORd.drop {w : World} {B b off n c N : Nat} {zs : List Nat} (h : ORd w B (some ⟨b, off, none⟩) n c zs) (hN : N < n) : ORd w B (some ⟨b, off + N, none⟩) (n - N) (c - N) (zs.drop N) := by
  have hl := h.len.out
  have hc := h.cap
  refine ⟨by show _ = _; rw [List.length_drop]; omega, by omega, fun x hx => h.lim x (List.mem_of_mem_drop hx), fun hn => ?_⟩
  obtain ⟨b', off', e, hb, hcell⟩ := h.rd (by omega)
  injection e with e; injection e with e1 e2; subst e1; subst e2
  refine ⟨b, off + N, rfl, hb, fun j hj => ?_⟩
  have := hcell (N + j) (by omega)
  rw [show off + N + j = off + (N + j) by omega, this]
  show some (Value.bool (bt zs (N + j))) = some (Value.bool (bt (zs.drop N) j))
  unfold bt
  rw [getD_drop]
theorem moved_zero (s : Int) : movedV 0 s = 0 := by unfold movedV; split <;> simp
theorem moved_low {p k : Nat} {s : Int} (hp : p < 2 ^ k) (hs : s ≤ -(k : Int)) (hk : 0 < k) : movedV p s = 0 := by
  unfold movedV
  rw [if_pos (by omega)]
  refine Nat.div_eq_of_lt (Nat.lt_of_lt_of_le hp (Nat.pow_le_pow_right (by decide) (by omega)))
theorem moved_neg (p N : Nat) (hN : 0 < N) : movedV p (-(N : Int)) = p / 2 ^ N := by unfold movedV; rw [if_pos (by omega)]; simp
theorem moved_pos (p N : Nat) : movedV p (N : Int) = p * 2 ^ N := by unfold movedV; rw [if_neg (by omega)]; simp
theorem digD_len2 {xs zs : List Nat} {p n k : Nat} (h : Rep 65536 xs p) (hl : xs.length = n) (h2 : Rep 2 zs p) (hl2 : zs.length = k) : k ≤ 16 * n := by
  rw [← hl2]
  refine h2.length_le (by decide) ?_
  rw [Nat.pow_mul, ← hl]
  exact h.lt_pow (by decide)

set_option maxHeartbeats 4000000 in
theorem moved_any (w : World) (B : Nat) (A : Option Addr) (n c p : Nat) (s : Int) (xs : List Nat) (h : DRd w B A n c xs) (hB : B ≤ w.heap.size) (hM : n ≤ 1000000) (hr : Rep 65536 xs p) (hs : s ≤ 1000000 ∨ p = 0) (hi : -9223372036854775808 ≤ s ∧ s ≤ 9223372036854775807) :
    Calls Try.prog 33 #[.slice A n c, .int .i64 s] w (GivesN w (movedV p s)) := by
  obtain ⟨i0, hi0, hz0, hz1, hz2⟩ := info_parts infoB
  have HX := Lib.hid hr
  have HS := Lib.hid hs
  clear hr hs
  go_enter Try.func33, Try.ntmps33
  go_wp2_with fail
  refine (ones_any w B A n c xs h hB (by omega)).mono ?_
  rintro e w2 ⟨A1, k, c1, zs, rfl, hO, hOr, hb⟩
  rw [HX.out.val] at hOr
  have HO := Lib.hid hOr
  have hk := digD_len2 HX.out h.len.out hOr hO.len.out
  have hcap := hO.cap
  have hsz := hb.size
  clear hOr
  by_cases h0 : k = 0
  · subst h0
    have HP := Lib.hid (show p = 0 from by have := HO.out.val; rw [← this, List.eq_nil_of_length_eq_zero hO.len.out, vb_nil])
    go_wp2_with fail
    go_ret
    rw [HP.out, moved_zero]
    exact nil_gives hb
  · have hk0 : 0 < k := by omega
    have hkf : ((k : Int) == 0) = false := beq_eq_false_iff_ne.2 (by omega)
    have hlt := Lib.hid (show p < 2 ^ k by have := HO.out.lt_pow (by decide); rwa [hO.len.out] at this)
    have hs : s ≤ 1000000 := by
      rcases HS.out with e | e
      · exact e
      · exfalso
        have h7 := HO.out
        rw [e] at h7
        have h8 := h7.length_le (m := 0) (by decide) (by decide)
        have := hO.len.out
        omega
    clear h0
    by_cases h1 : s ≤ -(k : Int)
    · go_wp2_with fail
      go_ret
      rw [moved_low hlt.out h1 hk0]
      exact nil_gives hb
    · obtain ⟨b, off, rfl, hbb, _⟩ := hO.rd hk0
      by_cases h2 : s < 0
      · obtain ⟨N, rfl⟩ : ∃ N : Nat, s = -(N : Int) := ⟨(-s).toNat, by omega⟩
        have hN0 : 0 < N := by omega
        have hNk : N < k := by omega
        have hD := hO.drop hNk
        have HV := Lib.hid (show vb 2 (zs.drop N) = movedV p (-(N : Int)) by rw [vb_drop hO.lim N (by have := hO.len.out; omega), HO.out.val, moved_neg p N hN0])
        go_wp2_with fail
        refine (binary_any w2 _ _ (k - N) (c1 - N) (zs.drop N) hD (Nat.le_refl _) (by omega)).mono ?_
        rintro e w3 ⟨A3, k3, c3, us, rfl, hU, hUr, hb3⟩
        rw [HV.out] at hUr
        go_wp2_with fail
        go_ret
        exact ⟨_, _, _, _, rfl, hU, hUr, hb.trans (hb3.mono hsz)⟩
      · obtain ⟨N, rfl⟩ : ∃ N : Nat, s = (N : Int) := ⟨s.toNat, by omega⟩
        have hN : N ≤ 1000000 := by omega
        have hmk := mkB N (by omega)
        have hown := own_made w2 4 N (.bool false) (by omega)
        have HN := Lib.hid (hO.alloc (Nat.le_refl _) (.cells (List.replicate N (Value.bool false)).toArray 4)).news
        go_wp2_with (at_builtin; refine wpList_append_own_at _ rfl _ _ 46 rfl w2.heap.size 4 i0 (.bool false) 1 1 Try.underlying46 hi0 hz0 hz1 hz2 rfl (by decide) _ N (List.replicate N (.bool false)) rfl hown ⟨b, off, none⟩ k c1 (bools zs) rfl ?c1 HN.out (bools_one zs) ?c3 ?c4 ?c5 ?_)
        case c1 => rw [List.length_map, hO.len.out]; omega
        case c3 => unfold maxLen; omega
        case c4 => omega
        case c5 => simp
        intro v' w3 hown3 hgr _ _
        rw [bools_rep] at hown3
        obtain ⟨A', c', rfl, hc1, hc2⟩ := own_shape hown3
        have hb3 : Below w2.heap.size w2 w3 := (bl1 w2 _).grown hgr (by simp) (fun k hk => by simp [Value.ownBlock] at hk; omega)
        have hdz : Dig 2 (List.replicate N 0 ++ zs) := by
          intro x hx
          rcases List.mem_append.1 hx with e | e
          · have := List.eq_of_mem_replicate e; omega
          · exact hO.lim x e
        have hor := own_ord hown3 hdz
        have HV := Lib.hid (show vb 2 (List.replicate N 0 ++ zs) = movedV p (N : Int) by rw [vb_zeros, HO.out.val, moved_pos])
        clear hown3 hgr HN hown hmk
        go_wp2_with fail
        refine (binary_any w3 _ _ (N + k) c' _ hor (Nat.le_refl _) (by omega)).mono ?_
        rintro e w4 ⟨A3, k3, c3, us, rfl, hU, hUr, hb4⟩
        rw [HV.out] at hUr
        go_wp2_with fail
        go_ret
        exact ⟨_, _, _, _, rfl, hU, hUr, (hb.trans (hb3.mono hsz)).trans (hb4.mono (by have := hb3.size; omega))⟩
end Go.Proofs.Ytjkogajdpkbjeaa
