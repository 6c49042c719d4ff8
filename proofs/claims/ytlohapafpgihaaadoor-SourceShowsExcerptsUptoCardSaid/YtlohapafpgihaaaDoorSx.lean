/- Package source: Excerpt. -/
import Derived.Test.YtlohapafpgihaaaDoorSo
import Derived.Test.YtlohapafpgihaaaDoorLay2
import Derived.Deep.DeepCutAuto
namespace Go.Proofs.YtlohapafpgihaaaDoor
open Go.RowKit
set_option maxHeartbeats 400000
set_option maxRecDepth 100000
set_option linter.unusedSimpArgs false
set_option linter.unusedVariables false

theorem sz_all {s : ByteArray} (G : Good s) : ∀ (f p c : Nat), p ≤ s.size → s.size - p ≤ f → Bd s p → nb s p (s.size - p) ≤ c → szFrom s f p c = s.size
  | 0, p, c, _, _, _, _ => rfl
  | f + 1, p, c, h1, h2, hp, h4 => by
    unfold szFrom
    by_cases hlt : p < s.size
    · rw [if_pos hlt]
      obtain ⟨n, g, hn⟩ := G.2 p hlt hp
      have hle := g.le
      have n1 := g.n1
      have h8 := nb_add s p n (s.size - (p + n))
      rw [nb_one g, show n + (s.size - (p + n)) = s.size - p by omega] at h8
      rw [if_neg (by omega), g.dec]
      exact sz_all G f (p + n) (c - 1) hle (by omega) hn (by omega)
    · rw [if_neg hlt]
theorem ext_all (s : ByteArray) : s.extract 0 s.size = s := by
  refine ba_ext ?_
  rw [ext_list, List.drop_zero, List.take_of_length_le (by simp)]
/-- Where character c begins. -/
theorem ch_ex {s : ByteArray} {c : Nat} (hc : c ≤ nb s 0 s.size) : ∃ o, Bd s o ∧ nb s 0 o = c := by
  rcases nb_ivt s 0 c s.size hc with ⟨k, k1, k2, k3⟩ | h
  · exact ⟨k, ⟨by omega, fun _ => by rw [Nat.zero_add] at k3; exact k3⟩, k2⟩
  · exact ⟨s.size, ⟨Nat.le_refl _, fun h => by omega⟩, h.symm⟩
theorem nb_mono (s : ByteArray) {a b : Nat} (h : a ≤ b) : nb s 0 a ≤ nb s 0 b := by
  obtain ⟨k, rfl⟩ : ∃ k, b = a + k := ⟨b - a, by omega⟩
  rw [nb_add]; omega
theorem nb_lt {s : ByteArray} {a b : Nat} (ha : Bd s a) (hb : b ≤ s.size) (h : a < b) : nb s 0 a < nb s 0 b := by
  have h1 := nb_add s 0 a (b - a)
  rw [show a + (b - a) = b by omega, Nat.zero_add] at h1
  have := nb_pos (s := s) (p := a) (k := b - a) (ha.2 (by omega)) (by omega)
  omega
theorem ch_uniq {s : ByteArray} {a b : Nat} (ha : Bd s a) (hb : Bd s b) (h : nb s 0 a = nb s 0 b) : a = b := by
  rcases Nat.lt_trichotomy a b with e | e | e
  · have := nb_lt ha hb.1 e; omega
  · exact e
  · have := nb_lt hb ha.1 e; omega
theorem ch_le {s : ByteArray} {a b : Nat} (hb : Bd s b) (ha : a ≤ s.size) (h : nb s 0 a ≤ nb s 0 b) : a ≤ b := by
  rcases Nat.lt_or_ge b a with e | e
  · have := nb_lt hb ha e; omega
  · exact e
theorem sz_first {s : ByteArray} {o : Nat} (G : Good s) (ho : Bd s o) : szFrom s s.size 0 (nb s 0 o) = o := by
  have h := sz_part (s := s) (a := 0) (e := s.size) (o := o) G G.1 ⟨Nat.le_refl _, fun h => by omega⟩ (Nat.zero_le _) ho ho.1
  rw [ext_all] at h
  exact h
theorem sz_next {s : ByteArray} {o e : Nat} (G : Good s) (ho : Bd s o) (he : Bd s e) (h : o ≤ e) : szFrom (s.extract o s.size) (s.extract o s.size).size 0 (nb s 0 e - nb s 0 o) = e - o := by
  have h1 := nb_add s 0 o (e - o)
  rw [show o + (e - o) = e by omega, Nat.zero_add] at h1
  rw [show nb s 0 e - nb s 0 o = nb s o (e - o) by omega]
  exact sz_part G ho ⟨Nat.le_refl _, fun h => by omega⟩ h he he.1
theorem ext_two {s : ByteArray} {o m e : Nat} (h1 : o ≤ m) (h2 : m ≤ e) (he : e ≤ s.size) : (s.extract o m).data.toList ++ (s.extract m e).data.toList = (s.extract o e).data.toList := by
  rw [ext_list, ext_list, ext_list]
  have hl : s.data.toList.length = s.size := by simp
  obtain ⟨k, rfl⟩ : ∃ k, e = m + k := ⟨e - m, by omega⟩
  rw [List.take_add, List.drop_append_of_le_length (by rw [List.length_take]; omega), List.drop_append_of_le_length (by rw [List.length_take]; omega)]
  congr 1
  rw [List.drop_of_length_le (l := List.take m s.data.toList) (by rw [List.length_take]; omega), List.nil_append]
/-- Characters that follow one another, put together. -/
theorem cat_part {s : ByteArray} {zs : List ByteArray} (G : Good s) (hz : CI s s.size zs) : ∀ (n o e : Nat), Bd s o → Bd s e → o ≤ e → nb s 0 e = nb s 0 o + n → (((zs.drop (nb s 0 o)).take n).map (·.data.toList)).flatten = (s.extract o e).data.toList
  | 0, o, e, ho, he, hle, h => by
    obtain rfl := ch_uniq ho he (by omega)
    rw [ext_list, List.take_zero, List.drop_of_length_le (by rw [List.length_take]; omega)]
    rfl
  | n + 1, o, e, ho, he, hle, h => by
    have hlt : o < e := by
      rcases Nat.eq_or_lt_of_le hle with q | q
      · subst q; omega
      · exact q
    have hos : o < s.size := by have := he.1; omega
    have hlen : nb s 0 o < zs.length := by rw [hz.1]; exact nb_lt ho (Nat.le_refl _) hos
    obtain ⟨z, hzz⟩ : ∃ z, zs[nb s 0 o]? = some z := ⟨_, List.getElem?_eq_getElem hlen⟩
    obtain ⟨o', m, ga, h1, h2⟩ := hz.2 _ _ hzz
    obtain ⟨m', ga', hb'⟩ := G.2 o hos ho
    have ho' : Bd s o' := ⟨by have := ga.le; omega, fun _ => ga.st⟩
    obtain rfl := ch_uniq ho' ho h1
    have hm := ga_le ga he hlt
    have e1 : m' = m := by rw [← ga'.dec, ga.dec]
    subst e1
    have h8 := nb_add s 0 o' m'
    rw [Nat.zero_add, nb_one ga] at h8
    have ih := cat_part G hz n (o' + m') e hb' he hm (by omega)
    have e2 : zs.drop (nb s 0 o') = z :: zs.drop (nb s 0 o' + 1) := by
      rw [List.drop_eq_getElem_cons hlen]
      congr 1
      rw [List.getElem?_eq_getElem hlen] at hzz
      injection hzz
    rw [e2, List.take_succ_cons, List.map_cons, List.flatten_cons, ← h8, ih, h2]
    exact ext_two (by omega) hm he.1
theorem bx105 : Builder.Extra Tryd.prog Tryd.lays105_ren := {
  sizeBuilder := by kernel_rfl
  liesBuilder := by kernel_rfl
  t5 := Tryd.underlying5
  a5 := Tryd.isAgg5
  z5 := Tryd.sizeOf5
  v5 := Tryd.zeroValue5
  infoByte := by kernel_rfl
  cellsByte := by kernel_rfl
  sizeByte := by kernel_rfl
  neB5 := by decide }
/-- So many spaces. -/
def spc (c : Nat) : ByteArray := ⟨(Lib.repeatL [32] c).toArray⟩
theorem rl_len : ∀ c, (Lib.repeatL [32] c).length = c
  | 0 => rfl
  | c + 1 => by
    show ([32] ++ Lib.repeatL [32] c).length = c + 1
    rw [List.length_append, rl_len c]
    simp
    omega
theorem spc_size (c : Nat) : (spc c).size = c := by
  show ((Lib.repeatL [32] c).toArray).size = c
  rw [List.size_toArray]
  exact rl_len c
theorem rep_sp (c : Nat) (w : World) (hc : c ≤ 1000000) :
    Calls Tryd.prog 31 #[.string ⟨#[32]⟩, .int .i64 (c : Int)] w fun e w' => e = .returned (.string (spc c)) ∧ Below w.heap.size w w' :=
  Any.strings_Repeat Tryd.lays105 bx105 ⟨#[32]⟩ c w (by omega) (by show 1 * c ≤ _; omega)
/-- Which character is shown first. -/
def frst (M k wd : Nat) : Nat := (max (0 : Int) (min ((k : Int) - (wd : Int) / 2) ((M : Int) - (wd : Int)))).toNat
theorem frst_le {M k wd : Nat} (h : M ≤ wd) : frst M k wd = 0 := by unfold frst; omega
theorem frst_k {M k wd : Nat} : frst M k wd ≤ k := by unfold frst; omega
theorem frst_M {M k wd : Nat} (h : wd < M) : frst M k wd + wd ≤ M := by unfold frst; omega
theorem fst_any (M k wd : Nat) (w : World) (h1 : M ≤ 16000) (h2 : k ≤ 16000) (h3 : wd ≤ 200) :
    Calls Tryd.prog 30 #[.int .i64 (M : Int), .int .i64 ((k : Int) + 1), .int .i64 (wd : Int)] w fun e w' => e = .returned (.int .i64 (frst M k wd : Nat)) ∧ w' = w := by
  have c0 : IntKind.i64.wrap ((k : Int) + 1 - 1) = (k : Int) := by rw [show (k : Int) + 1 - 1 = k by omega]; exact IntWalk.i64_in _ (by omega)
  have e2 : (wd : Int).tdiv 2 = (wd : Int) / 2 := Int.tdiv_eq_ediv_of_nonneg (by omega)
  have c1 : IntKind.i64.wrap ((wd : Int) / 2) = (wd : Int) / 2 := IntWalk.i64_in _ (by omega)
  have c2 : IntKind.i64.wrap ((k : Int) - (wd : Int) / 2) = (k : Int) - (wd : Int) / 2 := IntWalk.i64_in _ (by omega)
  have c3 : IntKind.i64.wrap ((M : Int) - (wd : Int)) = (M : Int) - (wd : Int) := IntWalk.i64_in _ (by omega)
  have H1 := Lib.hid c1
  have H2 := Lib.hid c2
  have H3 := Lib.hid c3
  go_enter Tryd.func30, Tryd.ntmps30
  go_wp2
  go_ret
  refine ⟨?_, rfl⟩
  have hn : ((frst M k wd : Nat) : Int) = max 0 (min ((k : Int) - (wd : Int) / 2) ((M : Int) - (wd : Int))) := by unfold frst; omega
  rw [hn]
  rfl
set_option maxHeartbeats 4000000 in
theorem exc_f (s : ByteArray) (l k wd : Int) (w : World) {c i : Int} (h : 1 ≤ c ∧ c ≤ 6) (hf : ∀ w, Calls Tryd.prog 27 #[.string s, .int .i64 l, .int .i64 k] w fun e w' => e = .returned (.tuple #[.string ⟨#[]⟩, .int .i64 0, flt c i]) ∧ Below w.heap.size w w') :
    Calls Tryd.prog 17 #[.string s, .int .i64 l, .int .i64 k, .int .i64 wd] w fun e w' => e = .returned (.tuple #[.string ⟨#[]⟩, flt c i]) ∧ Below w.heap.size w w' := by
  have hc1 : 1 ≤ c ∧ c ≤ 6 := h
  go_enter Tryd.func17, Tryd.ntmps17
  go_wp2_with fail
  refine (hf _).mono ?_
  rintro e w1 ⟨rfl, hb1⟩
  have P6 : Bk2 w1 w.heap.size (.int .i64 0) (.int .i64 0) := (Bk2.newAt w _ rfl _ _ _).below hb1 (by simp)
  have s1 : w.heap.size + 1 ≤ w1.heap.size := by have := hb1.size; simpa using this
  have E1 : Below w.heap.size w w1 := ((Below.refl _ _).alloc (Nat.le_refl _) _).trans (hb1.mono (by simp))
  clear hb1
  have lt6 := P6.lt
  have z0 : w1.cell? ⟨w.heap.size, 0, none⟩ = some (.int .i64 0) := P6.c0
  have z1 : w1.cell? ⟨w.heap.size, 1, none⟩ = some (.int .i64 0) := P6.c1
  have z2 : w1.frozen? ⟨w.heap.size, 0, none⟩ = false := P6.z0
  have z3 : w1.frozen? ⟨w.heap.size, 1, none⟩ = false := P6.z1
  have d1 : (c != 0) = true := by rw [bne_iff_ne]; omega
  go_upto_region 3 with fail
  clear d1
  obtain ⟨V, hV⟩ : ∃ V, V = w1.alloc (.cells #[.int .i64 c, .int .i64 i] 24) := ⟨_, rfl⟩
  have F7 : Bk2 V w1.heap.size (.int .i64 c) (.int .i64 i) := by rw [hV]; exact Bk2.newAt _ _ rfl _ _ _
  have P6v : Bk2 V w.heap.size (.int .i64 0) (.int .i64 0) := by rw [hV]; exact P6.alloc _
  have EV : Below w.heap.size w V := by rw [hV]; exact E1.alloc (by omega) _
  rw [← hV]
  clear hV z0 z1 z2 z3 P6 E1
  have ltF := F7.lt
  obtain ⟨y0, y1, y2, y3, lt6v⟩ := P6v
  obtain ⟨x0, x1, _, _, _⟩ := F7
  go_region
  go_wp2
  refine bodyPost_ret (v := .tuple #[.string ⟨#[]⟩, flt c i]) (by simp [results, Tryd.results17, go_sem, y0, y1]) rfl ⟨rfl, ?_⟩
  exact (by (repeat (first | with_reducible exact EV | with_reducible refine Below.drew ?_ | with_reducible refine below_drewN ?_ _ | with_reducible refine Below.setCell ?_ (by first | (simp; done) | (simp; omega) | omega) _)))
set_option maxHeartbeats 4000000 in
theorem exc_w (s x : ByteArray) (l K b wd : Int) (w : World) (hf : ∀ w, Calls Tryd.prog 27 #[.string s, .int .i64 l, .int .i64 K] w fun e w' => e = .returned (.tuple #[.string x, .int .i64 b, flt 0 0]) ∧ Below w.heap.size w w') (h : wd < 20 ∨ 200 < wd) :
    Calls Tryd.prog 17 #[.string s, .int .i64 l, .int .i64 K, .int .i64 wd] w fun e w' => e = .returned (.tuple #[.string ⟨#[]⟩, flt 4 (-4)]) ∧ Below w.heap.size w w' := by
  by_cases h1 : wd < 20
  · have d1 : decide (wd < 20) = true := decide_eq_true (by omega)
    clear h h1
    go_enter Tryd.func17, Tryd.ntmps17
    go_wp2_with fail
    refine (hf _).mono ?_
    rintro e w1 ⟨rfl, hb1⟩
    have P6 : Bk2 w1 w.heap.size (.int .i64 0) (.int .i64 0) := (Bk2.newAt w _ rfl _ _ _).below hb1 (by simp)
    have s1 : w.heap.size + 1 ≤ w1.heap.size := by have := hb1.size; simpa using this
    have E1 : Below w.heap.size w w1 := ((Below.refl _ _).alloc (Nat.le_refl _) _).trans (hb1.mono (by simp))
    clear hb1
    have lt6 := P6.lt
    have z0 : w1.cell? ⟨w.heap.size, 0, none⟩ = some (.int .i64 0) := P6.c0
    have z1 : w1.cell? ⟨w.heap.size, 1, none⟩ = some (.int .i64 0) := P6.c1
    have z2 : w1.frozen? ⟨w.heap.size, 0, none⟩ = false := P6.z0
    have z3 : w1.frozen? ⟨w.heap.size, 1, none⟩ = false := P6.z1
    go_wp2
    obtain ⟨f0, f1, _, _, _⟩ := (P6.set (.int .i64 4) (.int .i64 (-4))).alloc (.cells #[.int .i64 0, .int .i64 0] 24)
    refine bodyPost_ret (v := .tuple #[.string ⟨#[]⟩, flt 4 (-4)]) (by simp [results, Tryd.results17, go_sem, f0, f1]) rfl ⟨rfl, ?_⟩
    exact (by (repeat (first | with_reducible exact E1 | with_reducible exact BN | with_reducible refine Below.drew ?_ | with_reducible refine below_drewN ?_ _ | with_reducible refine Below.setCell ?_ (by first | (simp; done) | (simp; omega) | omega) _ | with_reducible refine Below.alloc ?_ (by first | (simp; done) | (simp; omega) | omega) _)))
  · have d1 : decide (wd < 20) = false := decide_eq_false (by omega)
    have d2 : decide (200 < wd) = true := decide_eq_true (by omega)
    clear h h1
    go_enter Tryd.func17, Tryd.ntmps17
    go_wp2_with fail
    refine (hf _).mono ?_
    rintro e w1 ⟨rfl, hb1⟩
    have P6 : Bk2 w1 w.heap.size (.int .i64 0) (.int .i64 0) := (Bk2.newAt w _ rfl _ _ _).below hb1 (by simp)
    have s1 : w.heap.size + 1 ≤ w1.heap.size := by have := hb1.size; simpa using this
    have E1 : Below w.heap.size w w1 := ((Below.refl _ _).alloc (Nat.le_refl _) _).trans (hb1.mono (by simp))
    clear hb1
    have lt6 := P6.lt
    have z0 : w1.cell? ⟨w.heap.size, 0, none⟩ = some (.int .i64 0) := P6.c0
    have z1 : w1.cell? ⟨w.heap.size, 1, none⟩ = some (.int .i64 0) := P6.c1
    have z2 : w1.frozen? ⟨w.heap.size, 0, none⟩ = false := P6.z0
    have z3 : w1.frozen? ⟨w.heap.size, 1, none⟩ = false := P6.z1
    go_wp2
    obtain ⟨f0, f1, _, _, _⟩ := (P6.set (.int .i64 4) (.int .i64 (-4))).alloc (.cells #[.int .i64 0, .int .i64 0] 24)
    refine bodyPost_ret (v := .tuple #[.string ⟨#[]⟩, flt 4 (-4)]) (by simp [results, Tryd.results17, go_sem, f0, f1]) rfl ⟨rfl, ?_⟩
    exact (by (repeat (first | with_reducible exact E1 | with_reducible exact BN | with_reducible refine Below.drew ?_ | with_reducible refine below_drewN ?_ _ | with_reducible refine Below.setCell ?_ (by first | (simp; done) | (simp; omega) | omega) _ | with_reducible refine Below.alloc ?_ (by first | (simp; done) | (simp; omega) | omega) _)))
set_option maxHeartbeats 4000000 in
theorem exc_ok (s x : ByteArray) (l b : Int) (k wd M o r : Nat) (w : World) (hf : ∀ w, Calls Tryd.prog 27 #[.string s, .int .i64 l, .int .i64 ((k : Int) + 1)] w fun e w' => e = .returned (.tuple #[.string x, .int .i64 b, flt 0 0]) ∧ Below w.heap.size w w') (hx : x.size ≤ 16000) (h1 : 20 ≤ wd) (h2 : wd ≤ 200) (hM : Hid (Lib.runeCount x = M)) (hM2 : M ≤ 16000) (hk : k ≤ 16000) (ho : Hid (szFrom x x.size 0 (frst M k wd) = o)) (hol : o ≤ x.size) (hr : Hid (szFrom (x.extract o x.size) (x.extract o x.size).size 0 wd = r)) (hrl : o + r ≤ x.size) :
    Calls Tryd.prog 17 #[.string s, .int .i64 l, .int .i64 ((k : Int) + 1), .int .i64 (wd : Int)] w fun e w' => e = .returned (.tuple #[.string ((((x.extract o x.size).extract 0 r ++ ⟨#[10]⟩) ++ spc (k - frst M k wd)) ++ ⟨#[94]⟩), flt 0 0]) ∧ Below w.heap.size w w' := by
  have d1 : decide ((wd : Int) < 20) = false := decide_eq_false (by omega)
  have d1n : decide (wd < 20) = false := decide_eq_false (by omega)
  have d2 : decide ((200 : Int) < (wd : Int)) = false := decide_eq_false (by omega)
  have d2n : decide (200 < wd) = false := decide_eq_false (by omega)
  obtain ⟨Y, hY⟩ : ∃ Y, Y = x.extract o x.size := ⟨_, rfl⟩
  have HY := Lib.hid hY
  have hYs : Y.size = x.size - o := by rw [hY, ByteArray.size_extract]; omega
  rw [← hY] at hr ⊢
  clear hY
  have HYS := Lib.hid hYs
  have y16 : Y.size ≤ 16000 := by omega
  have yr : r ≤ Y.size := by omega
  clear hYs
  obtain ⟨F, hF⟩ : ∃ F, F = frst M k wd := ⟨_, rfl⟩
  have fk : F ≤ k := by rw [hF]; exact frst_k
  rw [← hF] at ho ⊢
  have HF := Lib.hid hF
  clear hF
  have c1 : (0 : Int) ≤ (o : Int) := by omega
  have c2 : (o : Int) ≤ (x.size : Int) := by omega
  have c3 : (0 : Int) ≤ (r : Int) := by omega
  have c4 : (r : Int) ≤ (Y.size : Int) := by omega
  obtain ⟨q, hq⟩ : ∃ q, q = k - F := ⟨_, rfl⟩
  have HQ : IntKind.i64.wrap ((k : Int) - (F : Int)) = (q : Int) := by rw [show (k : Int) - (F : Int) = (q : Int) by omega]; exact IntWalk.i64_in _ (by omega)
  have q16 : q ≤ 1000000 := by omega
  rw [← hq]
  clear hq
  have sq : (spc q).size ≤ 1000000 := by rw [spc_size]; exact q16
  have sy : (Y.extract 0 r).size ≤ 16000 := by rw [ByteArray.size_extract]; omega
  go_enter Tryd.func17, Tryd.ntmps17
  go_wp2_with fail
  refine (hf _).mono ?_
  rintro e w1 ⟨rfl, hb1⟩
  have P6 : Bk2 w1 w.heap.size (.int .i64 0) (.int .i64 0) := (Bk2.newAt w _ rfl _ _ _).below hb1 (by simp)
  have s1 : w.heap.size + 1 ≤ w1.heap.size := by have := hb1.size; simpa using this
  have E1 : Below w.heap.size w w1 := ((Below.refl _ _).alloc (Nat.le_refl _) _).trans (hb1.mono (by simp))
  clear hb1
  have lt6 := P6.lt
  have z0 : w1.cell? ⟨w.heap.size, 0, none⟩ = some (.int .i64 0) := P6.c0
  have z1 : w1.cell? ⟨w.heap.size, 1, none⟩ = some (.int .i64 0) := P6.c1
  have z2 : w1.frozen? ⟨w.heap.size, 0, none⟩ = false := P6.z0
  have z3 : w1.frozen? ⟨w.heap.size, 1, none⟩ = false := P6.z1
  go_upto_region 7 with (first
    | (go_at_call 26; (with_reducible refine (rc_any x _ (by omega)).mono ?_); rw [hM.out]; rintro e w2 ⟨rfl, hb2⟩; have Bw2 : Below w1.heap.size w1 w2 := (by refine Below.trans ?_ (hb2.mono (by first | (simp; done) | (simp; omega) | omega)); (repeat (first | with_reducible exact Below.refl _ _ | with_reducible refine Below.drew ?_ | with_reducible refine Below.alloc ?_ (by first | (simp; done) | (simp; omega) | omega) _))); have Sw2 := Bw2.size; have Pw2 := P6.below Bw2 P6.lt; have BNw2 : Below w.heap.size w w2 := E1.trans (Bw2.mono (by omega)); obtain ⟨y0, y1, y2, y3, _⟩ := id Pw2)
    | (go_at_call 30; (with_reducible refine (fst_any M k wd _ hM2 hk h2).mono ?_); rintro e w' ⟨rfl, rfl⟩; rw [← HF.out]))
  go_upto_region 8 with (go_at_call 28; (with_reducible refine (size_any x F _ (by omega) (by omega)).mono ?_); rw [ho.out]; rintro e w3 ⟨rfl, hb3⟩; have Bw3 : Below w1.heap.size w1 w3 := (by refine Below.trans ?_ (hb3.mono (by first | (simp; done) | (simp; omega) | omega)); (repeat (first | with_reducible exact Below.refl _ _ | with_reducible exact Bw2 | with_reducible refine Below.drew ?_ | with_reducible refine Below.alloc ?_ (by first | (simp; done) | (simp; omega) | omega) _))); have Sw3 := Bw3.size; have Pw3 := P6.below Bw3 P6.lt; have BNw3 : Below w.heap.size w w3 := E1.trans (Bw3.mono (by omega)); obtain ⟨y0, y1, y2, y3, _⟩ := id Pw3)
  rw [← HY.out]
  go_upto_region 9 with (go_at_call 28; (with_reducible refine (size_any Y wd _ (by omega) (by omega)).mono ?_); rw [hr.out]; rintro e w4 ⟨rfl, hb4⟩; have Bw4 : Below w1.heap.size w1 w4 := (by refine Below.trans ?_ (hb4.mono (by first | (simp; done) | (simp; omega) | omega)); (repeat (first | with_reducible exact Below.refl _ _ | with_reducible exact Bw3 | with_reducible refine Below.drew ?_ | with_reducible refine Below.alloc ?_ (by first | (simp; done) | (simp; omega) | omega) _))); have Sw4 := Bw4.size; have Pw4 := P6.below Bw4 P6.lt; have BNw4 : Below w.heap.size w w4 := E1.trans (Bw4.mono (by omega)); obtain ⟨y0, y1, y2, y3, _⟩ := id Pw4)
  go_wp2_with (go_at_call 31; (with_reducible refine (rep_sp q _ q16).mono ?_); rintro e w5 ⟨rfl, hb5⟩; have Bw5 : Below w1.heap.size w1 w5 := (by refine Below.trans ?_ (hb5.mono (by first | (simp; done) | (simp; omega) | omega)); (repeat (first | with_reducible exact Below.refl _ _ | with_reducible exact Bw4 | with_reducible refine Below.drew ?_ | with_reducible refine Below.alloc ?_ (by first | (simp; done) | (simp; omega) | omega) _))); have Sw5 := Bw5.size; have Pw5 := P6.below Bw5 P6.lt; have BNw5 : Below w.heap.size w w5 := E1.trans (Bw5.mono (by omega)); obtain ⟨y0, y1, y2, y3, _⟩ := id Pw5)
  refine bodyPost_ret (v := .tuple #[.string (((Y.extract 0 r ++ ⟨#[10]⟩) ++ spc q) ++ ⟨#[94]⟩), flt 0 0]) (by simp [results, Tryd.results17, go_sem, y0, y1]) rfl ⟨rfl, (by (repeat (first | with_reducible exact BNw5 | with_reducible refine Below.drew ?_ | with_reducible refine below_drewN ?_ _ | with_reducible refine Below.setCell ?_ (by first | (simp; done) | (simp; omega) | omega) _ | with_reducible refine Below.alloc ?_ (by first | (simp; done) | (simp; omega) | omega) _)))⟩
end Go.Proofs.YtlohapafpgihaaaDoor
