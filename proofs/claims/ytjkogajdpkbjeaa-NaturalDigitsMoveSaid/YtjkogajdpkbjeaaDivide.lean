/- divide. -/
import Derived.Test.YtjkogajdpkbjeaaLong
import Derived.Test.YtjkogajdpkbjeaaDivSmall
import Derived.Test.YtjkogajdpkbjeaaClone
import Derived.Deep.QuietTactic
import Derived.BigQuiet
namespace Go.Proofs.Ytjkogajdpkbjeaa
open Go.RowKit
set_option maxHeartbeats 400000
set_option maxRecDepth 100000
set_option linter.unusedSimpArgs false
set_option linter.unusedVariables false

theorem clone_lrd {n c : Nat} {A : Option Addr} {xs : List Nat} {w w' : World} (hl : xs.length = n) (hx : Lim xs) (h1 : n ≤ c) (h2 : c ≤ 9223372036854775807) (h : 0 < n → ∃ g, A = some ⟨g, 0, none⟩ ∧ w.heap.size ≤ g ∧ R32 w' g xs) : LRd w' w'.heap.size A n c xs := by
  rcases Nat.eq_zero_or_pos n with e | e
  · subst e
    exact ⟨hl, ⟨h1, h2⟩, hx, fun h0 => absurd h0 (by omega)⟩
  · obtain ⟨g, rfl, _, hR⟩ := h e
    exact hR.lrdAll hx hR.lt hl ⟨h1, h2⟩
theorem cmp_val {n m : Nat} {xs ys : List Nat} {r : Int} (h : CmpIs n m xs ys r) (hx : xs.length = n) (hy : ys.length = m) (lx : Lim xs) (ly : Lim ys) (tx : Top xs) (ty : Top ys) :
    (r = -1 ∧ vb 4294967296 xs < vb 4294967296 ys) ∨ (r = 0 ∧ vb 4294967296 xs = vb 4294967296 ys) ∨ (r = 1 ∧ vb 4294967296 ys < vb 4294967296 xs) := by
  rcases h.one with e | e | e
  · left; refine ⟨e, ?_⟩
    rcases h.less e with h1 | ⟨h1, k, h2, h3, h4⟩
    · exact vb_less_len (by decide) lx ty (by omega)
    · have := S_less (b := 4294967296) (f := fun i => xs.getD i 0) (g := fun i => ys.getD i 0) (by decide) h2 (fun j _ => Dig.at_ lx (by decide) j) h3 h4
      unfold vb; rw [hx, hy, ← h1]; exact this
  · right; left; refine ⟨e, ?_⟩
    obtain ⟨h1, h2⟩ := h.same e
    unfold vb; rw [hx, hy, ← h1]; exact S_ext h2
  · right; right; refine ⟨e, ?_⟩
    rcases h.more e with h1 | ⟨h1, k, h2, h3, h4⟩
    · exact vb_less_len (by decide) ly tx (by omega)
    · have := S_less (b := 4294967296) (f := fun i => ys.getD i 0) (g := fun i => xs.getD i 0) (by decide) h2 (fun j _ => Dig.at_ ly (by decide) j) h3 h4
      unfold vb; rw [hx, hy, ← h1]; exact this
theorem compare_any (w : World) (B : Nat) (A D : Option Addr) (n m c d : Nat) (xs ys : List Nat) (h : LRd w B A n c xs) (k : LRd w B D m d ys) :
    Calls Try.prog 42 #[.slice A n c, .slice D m d] w (CmpPost n m xs ys w) := by
  by_cases e : n = m
  · subst e; exact compare_same w B A D n c d xs ys h k
  · have h1 := h.cap; have h2 := k.cap
    exact compare_len w A D n m c d xs ys (by omega) (by omega) e
theorem LRd.drewN {w : World} {B n c : Nat} {A : Option Addr} {xs : List Nat} (h : LRd w B A n c xs) (q : Nat) : LRd (w.drewN q) B A n c xs := h.keep (fun _ _ => rfl)
theorem small_vals {n : Nat} {xs cs : List Nat} {y r : Int} (hl : xs.length = n) (h : DsIs n xs y 0 r cs) (h0 : 0 ≤ r) (h1 : r < y) : vb 4294967296 cs = vb 4294967296 xs / y.toNat ∧ r.toNat = vb 4294967296 xs % y.toNat := by
  obtain ⟨a1, _, _, a4⟩ := h
  simp only [Nat.zero_add, Nat.sub_zero] at a4
  have e1 : vb 4294967296 cs = S 4294967296 (fun t => cs.getD t 0) n := by unfold vb; rw [a1, hl]
  have e2 : vb 4294967296 xs = S 4294967296 (fun t => xs.getD t 0) n := by unfold vb; rw [hl]
  rw [← e1, ← e2] at a4
  rw [← a4]
  have hy : 0 < y.toNat := by omega
  constructor
  · rw [Nat.add_comm, Nat.mul_comm, Nat.add_mul_div_left _ _ hy, Nat.div_eq_of_lt (by omega), Nat.zero_add]
  · rw [Nat.add_comm, Nat.mul_comm, Nat.add_mul_mod_self_left, Nat.mod_eq_of_lt (by omega)]
theorem one_row (w : World) (x : Int) (hx : 0 ≤ x) : R32 (w.alloc (.cells #[.int .u32 x] 58)) w.heap.size [x.toNat] := by
  refine ⟨[], ?_⟩
  have e : ((x.toNat : Nat) : Int) = x := Int.toNat_of_nonneg hx
  simp only [List.map_cons, List.map_nil, List.append_nil, e]
  exact Row.new w 58 [.int .u32 x]

theorem one_pos {n : Nat} {xs ys : List Nat} (h : vb 4294967296 ys ≤ vb 4294967296 xs) (ty : Top ys) (hy : ys.length = 1) (hx : xs.length = n) : 0 < n := by
  rcases Nat.eq_zero_or_pos n with e | e
  · exfalso
    subst e
    obtain rfl : xs = [] := List.eq_nil_of_length_eq_zero hx
    have := ty.low (b := 4294967296) hy
    rw [vb_nil] at h
    simp at this
    omega
  · exact e
theorem long_len {n m : Nat} {xs ys : List Nat} (h : vb 4294967296 ys ≤ vb 4294967296 xs) (ty : Top ys) (hy : ys.length = m) (hx : xs.length = n) (lx : Lim xs) : m ≤ n := by
  rcases Nat.lt_or_ge n m with e | e
  · have := vb_less_len (b := 4294967296) (by decide) lx ty (by omega)
    omega
  · exact e

theorem divide_any (w : World) (B : Nat) (A D : Option Addr) (n m c d : Nat) (xs ys : List Nat) (h : LRd w B A n c xs) (k : LRd w B D m d ys) (hB : B ≤ w.heap.size) (hn : n ≤ 1000000) (tx : Top xs) (ty : Top ys) (hm : 0 < m) :
    Calls Try.prog 46 #[.slice A n c, .slice D m d] w (GivesQR w (vb 4294967296 xs / vb 4294967296 ys) (vb 4294967296 xs % vb 4294967296 ys)) := by
  have hcap := h.cap
  have hcap2 := k.cap
  go_enter Try.func46, Try.ntmps46
  go_wp2_with fail
  refine (compare_any w B A D n m c d xs ys h k).mono ?_
  rintro e w1 ⟨r, rfl, hr, q, rfl⟩
  have HR := Lib.hid (cmp_val hr h.len.out k.len.out h.lim k.lim tx ty)
  by_cases hlt : r < 0
  · have HV := Lib.hid (show vb 4294967296 xs < vb 4294967296 ys by have := HR.out; omega)
    go_wp2_with fail
    refine (clone_any (w.drewN q) B A n c xs (h.drewN q) hB (by omega)).mono ?_
    rintro e w2 ⟨A', c', rfl, h1, h2, hb, hg⟩
    have hl := clone_lrd h.len.out h.lim h1 h2 hg
    clear hg
    go_wp2_with fail
    go_ret2
    exact ⟨none, 0, 0, [], A', n, c', xs, rfl, ⟨rfl, by omega, (by intro x hx; cases hx), fun h0 => absurd h0 (by omega)⟩, by rw [Nat.div_eq_of_lt HV.out]; exact ⟨(by intro x hx; cases hx), rfl, Top.nil⟩, hl, ⟨h.lim, (Nat.mod_eq_of_lt HV.out).symm, tx⟩, (below_drewN (Below.refl _ _) q).trans hb⟩
  · have HV := Lib.hid (show vb 4294967296 ys ≤ vb 4294967296 xs by have := HR.out; omega)
    by_cases h1 : m = 1
    · subst h1
      obtain ⟨b', off', rfl, hb', hc'⟩ := k.rd (by omega)
      have g1 := hc' 0 (by omega)
      rw [Nat.add_zero] at g1
      have y1 := nth_nn ys 0
      have y2 := k.lim.nth 0
      have y3 : nth ys 0 ≠ 0 := by have := ty 0 k.len.out; unfold nth; omega
      have hn0 : 0 < n := one_pos HV.out ty k.len.out h.len.out
      clear hc'
      go_wp2_with fail
      refine (clone_any (w.drewN q) B A n c xs (h.drewN q) hB (by omega)).mono ?_
      rintro e w2 ⟨A', c', rfl, h1, h2, hb, hg⟩
      obtain ⟨g, rfl, hgs, hR⟩ := hg hn0
      have hgs' : w.heap.size ≤ g := hgs
      have g2 := (hb.cell (p := ⟨b', off', none⟩) (by show b' < w.heap.size; omega)).trans g1
      have hlen := Lib.hid h.len.out
      clear hgs
      go_wp2_with fail
      refine (divideBySmall_any w2 g n c' xs (nth ys 0) hR h.lim (by have := hlen.out; omega) ⟨by omega, y2⟩ ⟨h1, h2⟩).mono ?_
      rintro e w3 ⟨r, cs, rfl, r0, r1, hR3, hL3, hg3, hd⟩
      have HD := Lib.hid (small_vals hlen.out hd r0 r1)
      have HL := Lib.hid (hd.1.trans hlen.out)
      clear hd
      have hlt3 := hR3.lt
      have hb2 : Below w.heap.size w w2 := (below_drewN (Below.refl _ _) q).trans hb
      have hb3 : Below w.heap.size w w3 := hb2.grown hg3 hb2.size (fun k hk => by injection hk; omega)
      have hs3 := hb3.size
      go_wp2_with fail
      refine (trim_any _ _ _ _ _ _ (hR3.lrdAll hL3 hlt3 HL.out ⟨h1, h2⟩)).mono ?_
      rintro e w' ⟨t, rfl, ht1, rfl⟩
      go_wp2_with fail
      have o1 := one_row w3 r r0
      have o2 : Lim [r.toNat] := by intro x hx; rw [List.mem_singleton] at hx; omega
      refine (trim_any _ _ _ 1 1 [r.toNat] (o1.lrdAll o2 o1.lt rfl (by omega))).mono ?_
      rintro e w' ⟨t2, rfl, ht2, rfl⟩
      go_wp2_with fail
      go_ret2
      have r1' := trimmed ht1 HL.out hL3
      have r2' := trimmed ht2 rfl o2
      have ev : vb 4294967296 ys = (nth ys 0).toNat := by unfold vb nth; rw [k.len.out, S_succ, S_zero]; simp
      rw [HD.out.1, ← ev] at r1'
      have ev2 : vb 4294967296 [r.toNat] = vb 4294967296 xs % vb 4294967296 ys := by rw [vb_one, HD.out.2, ev]
      rw [ev2] at r2'
      have l1 := ht1.le
      have l2 := ht2.le
      have hR4 := hR3.alloc (.cells #[.int .u32 r] 58)
      exact ⟨_, t, _, _, _, t2, _, _, rfl, hR4.lrd0 hL3 hR4.lt (by have := HL.out; omega) (by omega), r1', o1.lrd0 o2 o1.lt l2 (by omega), r2', hb3.alloc hs3 _⟩
    · obtain ⟨j, rfl⟩ : ∃ j, m = j + 2 := ⟨m - 2, by omega⟩
      have hmn := long_len HV.out ty k.len.out h.len.out h.lim
      have htop := Lib.hid (ty (j + 1) k.len.out)
      have f0 : (((j : Int) + 2) == 1) = false := beq_eq_false_iff_ne.2 (by omega)
      clear h1
      go_wp2_with fail
      refine (divideLong_any (w.drewN q) B A D n j c d xs ys (h.drewN q) (k.drewN q) hB hn hmn htop.out).mono ?_
      rintro e w2 ⟨A1, k1, c1, zs, A2, k2, c2, zs2, rfl, l1, r1, l2, r2, hb⟩
      go_wp2_with fail
      go_ret2
      exact ⟨A1, k1, c1, zs, A2, k2, c2, zs2, rfl, l1, r1, l2, r2, (below_drewN (Below.refl _ _) q).trans hb⟩
end Go.Proofs.Ytjkogajdpkbjeaa
