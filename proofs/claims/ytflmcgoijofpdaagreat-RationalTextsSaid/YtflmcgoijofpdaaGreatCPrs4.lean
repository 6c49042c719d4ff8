/- The text of a ratio is read back; gives of two more faults. -/
import Derived.Test.YtflmcgoijofpdaaGreatCPrs3
import Derived.Test.YtflmcgoijofpdaaGreatCTxt5
import Derived.Test.YtflmcgoijofpdaaGreatCTxt7
import Derived.Test.YtflmcgoijofpdaaGreatCQ4
namespace Go.Proofs.YtflmcgoijofpdaaGreat
open Go.RowKit
set_option maxHeartbeats 400000
set_option maxRecDepth 100000
set_option linter.unusedSimpArgs false
set_option linter.unusedVariables false

set_option maxHeartbeats 4000000 in
theorem gives_f1 (w : World) (A D : Option Addr) (c d : Nat) (q : QV) (j : Int) :
    Calls Tryz.prog 17 #[ratv false A 0 c false D 0 d, flt 1 j, q.v, flt 1 j] w (fun e w' => e = .returned (.bool true) ∧ Below w.heap.size w w') := by
  have E : Below w.heap.size w w := Below.refl _ _
  go_enter Tryz.func17, Tryz.ntmps17
  go_upto_region 1 with fail
  obtain ⟨V0, hV0⟩ : ∃ V0 : World, V0 = ((((w.alloc (.cells #[.bool false, .slice A 0 c, .bool false, .slice D 0 d] 26)).alloc (.cells #[.int .i64 1, .int .i64 j] 28)).alloc (.cells #[.bool q.m, .slice q.A q.n q.c, .slice q.D q.k q.d] 42)).alloc (.cells #[.int .i64 1, .int .i64 j] 28)) := ⟨_, rfl⟩
  have bV0 : Below w.heap.size w V0 := by rw [hV0]; (repeat (first | with_reducible exact Below.refl _ _ | with_reducible refine Below.drew ?_ | with_reducible refine below_drewN ?_ _ | with_reducible refine Below.setCell ?_ (by first | (simp; done) | (simp; omega) | omega) _ | with_reducible refine Below.alloc ?_ (by first | (simp; done) | (simp; omega) | omega) _))
  have zV0 : w.heap.size + 4 ≤ V0.heap.size := by rw [hV0]; simp
  have PA : Bk4 V0 (w.heap.size) (.bool false) (.slice A 0 c) (.bool false) (.slice D 0 d) := by rw [hV0]; exact ((((Bk4.newAt _ _ (by first | omega | (simp; done) | (simp; omega)) _ _ _ _ _).alloc _).alloc _).alloc _)
  have PF : Bk2 V0 (w.heap.size + 1) (.int .i64 1) (.int .i64 j) := by rw [hV0]; exact (((Bk2.newAt _ _ (by first | omega | (simp; done) | (simp; omega)) _ _ _).alloc _).alloc _)
  have PQ : Bk3 V0 (w.heap.size + 2) (.bool q.m) (.slice q.A q.n q.c) (.slice q.D q.k q.d) := by rw [hV0]; exact ((Bk3.newAt _ _ (by first | omega | (simp; done) | (simp; omega)) _ _ _ _).alloc _)
  have PW : Bk2 V0 (w.heap.size + 3) (.int .i64 1) (.int .i64 j) := by rw [hV0]; exact (Bk2.newAt _ _ (by first | omega | (simp; done) | (simp; omega)) _ _ _)
  rw [← hV0]
  clear hV0
  replace E := E.trans (bV0.mono E.size)
  clear bV0
  have t_PW0 := PW.c0
  have t_PW1 := PW.c1
  have t_PF0 := PF.c0
  have t_PF1 := PF.c1
  have t_PA0 := PA.c0
  have t_PA1 := PA.c1
  have t_PA2 := PA.c2
  have t_PA3 := PA.c3
  go_wp2_with fail
  clear t_PW0 t_PW1 t_PF0 t_PF1 t_PA0 t_PA1 t_PA2 t_PA3
  (with_reducible refine (noRatio_zero _ A D c d).mono ?_)
  rintro e w1 ⟨rfl, hb1⟩
  have sw1 := hb1.size
  replace PQ := PQ.below hb1 PQ.lt
  replace E := E.trans (hb1.mono E.size)
  replace PA := PA.below hb1 PA.lt
  replace PF := PF.below hb1 PF.lt
  replace PW := PW.below hb1 PW.lt
  clear hb1
  go_wp2_with fail
  go_ret
  exact ⟨rfl, E⟩
set_option maxHeartbeats 4000000 in
theorem gives_f3 (w : World) (A D : Option Addr) (c d : Nat) (q : QV) (j : Int) :
    Calls Tryz.prog 17 #[ratv false A 0 c false D 0 d, flt 3 j, q.v, flt 3 j] w (fun e w' => e = .returned (.bool true) ∧ Below w.heap.size w w') := by
  have E : Below w.heap.size w w := Below.refl _ _
  go_enter Tryz.func17, Tryz.ntmps17
  go_upto_region 1 with fail
  obtain ⟨V0, hV0⟩ : ∃ V0 : World, V0 = ((((w.alloc (.cells #[.bool false, .slice A 0 c, .bool false, .slice D 0 d] 26)).alloc (.cells #[.int .i64 3, .int .i64 j] 28)).alloc (.cells #[.bool q.m, .slice q.A q.n q.c, .slice q.D q.k q.d] 42)).alloc (.cells #[.int .i64 3, .int .i64 j] 28)) := ⟨_, rfl⟩
  have bV0 : Below w.heap.size w V0 := by rw [hV0]; (repeat (first | with_reducible exact Below.refl _ _ | with_reducible refine Below.drew ?_ | with_reducible refine below_drewN ?_ _ | with_reducible refine Below.setCell ?_ (by first | (simp; done) | (simp; omega) | omega) _ | with_reducible refine Below.alloc ?_ (by first | (simp; done) | (simp; omega) | omega) _))
  have zV0 : w.heap.size + 4 ≤ V0.heap.size := by rw [hV0]; simp
  have PA : Bk4 V0 (w.heap.size) (.bool false) (.slice A 0 c) (.bool false) (.slice D 0 d) := by rw [hV0]; exact ((((Bk4.newAt _ _ (by first | omega | (simp; done) | (simp; omega)) _ _ _ _ _).alloc _).alloc _).alloc _)
  have PF : Bk2 V0 (w.heap.size + 1) (.int .i64 3) (.int .i64 j) := by rw [hV0]; exact (((Bk2.newAt _ _ (by first | omega | (simp; done) | (simp; omega)) _ _ _).alloc _).alloc _)
  have PQ : Bk3 V0 (w.heap.size + 2) (.bool q.m) (.slice q.A q.n q.c) (.slice q.D q.k q.d) := by rw [hV0]; exact ((Bk3.newAt _ _ (by first | omega | (simp; done) | (simp; omega)) _ _ _ _).alloc _)
  have PW : Bk2 V0 (w.heap.size + 3) (.int .i64 3) (.int .i64 j) := by rw [hV0]; exact (Bk2.newAt _ _ (by first | omega | (simp; done) | (simp; omega)) _ _ _)
  rw [← hV0]
  clear hV0
  replace E := E.trans (bV0.mono E.size)
  clear bV0
  have t_PW0 := PW.c0
  have t_PW1 := PW.c1
  have t_PF0 := PF.c0
  have t_PF1 := PF.c1
  have t_PA0 := PA.c0
  have t_PA1 := PA.c1
  have t_PA2 := PA.c2
  have t_PA3 := PA.c3
  go_wp2_with fail
  clear t_PW0 t_PW1 t_PF0 t_PF1 t_PA0 t_PA1 t_PA2 t_PA3
  (with_reducible refine (noRatio_zero _ A D c d).mono ?_)
  rintro e w1 ⟨rfl, hb1⟩
  have sw1 := hb1.size
  replace PQ := PQ.below hb1 PQ.lt
  replace E := E.trans (hb1.mono E.size)
  replace PA := PA.below hb1 PA.lt
  replace PF := PF.below hb1 PF.lt
  replace PW := PW.below hb1 PW.lt
  clear hb1
  go_wp2_with fail
  go_ret
  exact ⟨rfl, E⟩
theorem sym_47 : ∀ k : Fin 36, (sym k.1).toNat ≠ 47 := by decide
theorem text_no47 {z : Int} {l : List UInt8} (h : TextIs z 10 l) : ∀ c ∈ l, c.toNat ≠ 47 := by
  obtain ⟨ds, hr, rfl⟩ := h
  intro c hc
  split at hc
  · simp at hc; rw [hc]; decide
  · rcases List.mem_append.1 hc with h1 | h1
    · split at h1
      · simp at h1; rw [h1]; decide
      · cases h1
    · obtain ⟨d, hd, rfl⟩ := List.mem_map.1 h1
      have h2 : d < 10 := hr.dig d (by simpa using hd)
      exact sym_47 ⟨d, by omega⟩
theorem text10_len2 {z : Int} {l : List UInt8} (h : TextIs z 10 l) (hz : z.natAbs < Top128) : l.length ≤ 1300 := by
  obtain ⟨ds, hr, rfl⟩ := h
  obtain ⟨m, hm⟩ : ∃ m, m = 128 := ⟨_, rfl⟩
  rw [top128 hm] at hz
  have h1 : z.natAbs < 10 ^ (10 * m) := Nat.lt_of_lt_of_le hz (by rw [Nat.pow_mul]; exact Nat.pow_le_pow_left (by decide) _)
  have h2 := hr.length_le (m := 10 * m) (by decide) h1
  rw [List.length_reverse] at h2
  split
  · simp
  · split <;> simp <;> omega
theorem bat_l (l : List UInt8) (t : Nat) (h : t < l.length) : bat ⟨l.toArray⟩ t = (l[t]'h).toNat := by
  rw [bat_mk, List.getD_eq_getElem?_getD, List.getElem?_eq_getElem h]; rfl
theorem tb_one {z : Int} {l : List UInt8} (h : TextIs z 10 l) : TB ⟨l.toArray⟩ ⟨l.toArray⟩ ⟨#[]⟩ false :=
  .inl ⟨fun t ht => by
    have ht' : t < l.length := ht
    rw [bat_l l t ht']
    exact text_no47 h _ (List.getElem_mem ht'), rfl, rfl, rfl⟩
theorem ext_list (l : List UInt8) (i j : Nat) : (⟨l.toArray⟩ : ByteArray).extract i j = ⟨((l.drop i).take (j - i)).toArray⟩ := by
  apply ByteArray.ext
  apply Array.ext'
  simp
theorem tb_two {z d : Int} {l r : List UInt8} (h : TextIs z 10 l) : TB ⟨(l ++ 47 :: r).toArray⟩ ⟨l.toArray⟩ ⟨r.toArray⟩ true := by
  refine .inr ⟨l.length, ⟨?_, ?_, fun t ht => ?_⟩, ?_, ?_, rfl⟩
  · show l.length < (l ++ 47 :: r).length
    simp
  · rw [bat_l _ _ (by simp)]
    simp
  · rw [bat_l _ _ (by simp; omega)]
    rw [List.getElem_append_left ht]
    exact text_no47 h _ (List.getElem_mem ht)
  · rw [ext_list]
    simp
  · rw [ext_list]
    have e : (⟨(l ++ 47 :: r).toArray⟩ : ByteArray).size = (l ++ 47 :: r).length := rfl
    rw [e]
    congr 2
    rw [show l ++ 47 :: r = (l ++ [47]) ++ r by simp, List.drop_append_of_le_length (by simp)]
    simp
    exact (List.take_of_length_le (by omega)).symm
theorem num_text {z : Int} {l : List UInt8} (h : TextIs z 10 l) (hz : z.natAbs < Top128) {z1 f1 g1 : Int} (hn : NumIs ⟨l.toArray⟩ z1 f1 g1) : z1 = z ∧ f1 = 0 ∧ g1 = 0 := by
  obtain ⟨h1, h2⟩ := text_back (by decide) h
  rcases hn with ⟨k, _⟩ | ⟨_, k, _⟩ | ⟨_, _, k1, k2, k3⟩
  · exact absurd h1 k
  · rw [h2] at k; omega
  · exact ⟨by rw [k1, h2], k2, k3⟩
theorem den_text {z : Int} {l : List UInt8} (h : TextIs z 10 l) (hz : z.natAbs < Top128) (h1 : 1 < z) {z1 f1 g1 : Int} (hn : DPart ⟨l.toArray⟩ true z1 f1 g1) : z1 = z ∧ f1 = 0 ∧ g1 = 0 := by
  obtain ⟨k1, k2⟩ := text_back (by decide) h
  have k3 : DOk ⟨l.toArray⟩ := ⟨k1, by
    cases hh : TxNeg ⟨l.toArray⟩
    · rfl
    · have := txv_neg hh
      omega, by omega⟩
  rcases hn with ⟨_, hn⟩ | ⟨hn, _⟩
  · rcases hn with ⟨k, _⟩ | ⟨_, k, _⟩ | ⟨_, _, k4, k5, k6⟩
    · exact absurd k3 k
    · rw [k2] at k; omega
    · exact ⟨by rw [k4, k2], k5, k6⟩
  · cases hn
def BackIs (n d : Int) (r : RV) (f g : Int) : Prop := f = 0 ∧ g = 0 ∧ IRep r.num.neg r.num.xs n ∧ IRep r.den.neg r.den.xs d
theorem ps_back {t a b : ByteArray} {fd : Bool} {r : RV} {f g n d : Int} (h : PsRes t a b fd r f g) (hs : t.size ≤ 4000) (hn : ∀ {z f g}, NumIs a z f g → z = n ∧ f = 0 ∧ g = 0) (hd : ∀ {z f g}, DPart b fd z f g → z = d ∧ f = 0 ∧ g = 0) (hg : Nat.gcd n.natAbs d.natAbs = 1) : BackIs n d r f g := by
  rcases h with ⟨h, _⟩ | ⟨_, z1, f1, g1, z2, f2, g2, h1, h2, h3⟩
  · omega
  · obtain ⟨rfl, rfl, rfl⟩ := hn h1
    obtain ⟨rfl, rfl, rfl⟩ := hd h2
    rcases h3 with ⟨k, _⟩ | ⟨_, k, _⟩ | ⟨_, _, k, _⟩ | ⟨_, _, _, k1, k2, k3, k4⟩
    · omega
    · omega
    · exact absurd hg k
    · exact ⟨k1, k2, k3, k4⟩
/-- The text of a ratio. -/
def TxtIs (n d : Int) (l : List UInt8) : Prop := (d = 1 ∧ TextIs n 10 l) ∨ (d ≠ 1 ∧ ∃ s t, TextIs n 10 s ∧ TextIs d 10 t ∧ l = s ++ 47 :: t)
theorem txt_len {n d : Int} {l : List UInt8} (h : TxtIs n d l) (hn : n.natAbs < Top128) (hd : d.natAbs < Top128) : l.length ≤ 2700 := by
  rcases h with ⟨_, h⟩ | ⟨_, s, t, h1, h2, rfl⟩
  · have := text10_len2 h hn; omega
  · have := text10_len2 h1 hn
    have := text10_len2 h2 hd
    simp; omega
theorem prs_back (w : World) (n d : Int) (l : List UInt8) (h : TxtIs n d l) (hn : n.natAbs < Top128) (hd : d.natAbs < Top128) (hp : 0 < d) (hg : Nat.gcd n.natAbs d.natAbs = 1) :
    Calls Tryz.prog 52 #[.string ⟨l.toArray⟩] w (GivesFR w (BackIs n d)) := by
  have hl := txt_len h hn hd
  have hs : (⟨l.toArray⟩ : ByteArray).size ≤ 4000 := by show l.length ≤ 4000; omega
  rcases h with ⟨rfl, h⟩ | ⟨h0, s, t, h1, h2, rfl⟩
  · exact (prs_any w _ _ _ _ (tb_one h)).mono fun _ _ ⟨r, f, g, he, ha, hp, hb⟩ => ⟨r, f, g, he, ha, ps_back hp hs (fun k => num_text h hn k) (fun k => by
      rcases k with ⟨k, _⟩ | ⟨_, k1, k2, k3⟩
      · cases k
      · exact ⟨k1, k2, k3⟩) hg, hb⟩
  · exact (prs_any w _ _ _ _ (tb_two (d := d) (r := t) h1)).mono fun _ _ ⟨r, f, g, he, ha, hp, hb⟩ => ⟨r, f, g, he, ha, ps_back hp hs (fun k => num_text h1 hn k) (fun k => den_text h2 hd (by omega) k) hg, hb⟩
theorem rtext_u (w : World) (B : Nat) (a : RV) (H1 : a.at w B) (hB : B ≤ w.heap.size) (oa : a.ok = true) :
    Calls Tryz.prog 51 #[a.v] w (fun e w' => ∃ l, TxtIs a.num.val a.den.val l ∧ e = .returned (.tuple #[.string ⟨l.toArray⟩, flt 0 0]) ∧ Below w.heap.size w w') := by
  by_cases h : a.den.val = 1
  · exact (rtext_one w B a H1 hB oa h).mono fun _ _ ⟨l, h1, h2, h3⟩ => ⟨l, .inl ⟨h, h1⟩, h2, h3⟩
  · exact (rtext_two w B a H1 hB oa h).mono fun _ _ ⟨s, t, h1, h2, h3, h4⟩ => ⟨_, .inr ⟨h, s, t, h1, h2, rfl⟩, h3, h4⟩
end Go.Proofs.YtflmcgoijofpdaaGreat
