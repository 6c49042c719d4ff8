/- The reference: the lines of a text, its characters. -/
import Derived.Test.YtlohapafpgihaaaDoorSi
import Derived.Deep.DeepCutAuto
import Derived.Laws.AppendOwn
import Derived.Laws.OwnMore
import Derived.OwnWalk
namespace Go.Proofs.YtlohapafpgihaaaDoor
open Go.RowKit
set_option maxHeartbeats 400000
set_option maxRecDepth 100000
set_option linter.unusedSimpArgs false
set_option linter.unusedVariables false

/-- Character j of a text. -/
def ChAt (s : ByteArray) (j : Nat) (x : ByteArray) : Prop := ∃ o n, GA s o n ∧ nb s 0 o = j ∧ x = s.extract o (o + n)
/-- The characters so far. -/
def CI (s : ByteArray) (i : Nat) (out : List ByteArray) : Prop := out.length = nb s 0 i ∧ ∀ j x, out[j]? = some x → ChAt s j x
theorem ci_init (s : ByteArray) : CI s 0 [] := ⟨rfl, fun j x h => by simp at h⟩
theorem ci_ct {s : ByteArray} {i : Nat} {out : List ByteArray} (h : CI s i out) (hc : by_ s i / 64 = 2) : CI s (i + 1) out := ⟨by rw [h.1, nb_succ, Nat.zero_add, if_pos hc]; rfl, h.2⟩
theorem ci_ch {s : ByteArray} {i n : Nat} {out : List ByteArray} (h : CI s i out) (g : GA s i n) : CI s (i + 1) (out ++ [s.extract i (i + n)]) := by
  refine ⟨by rw [List.length_append, h.1, nb_succ, Nat.zero_add, if_neg g.st]; rfl, fun j x hx => ?_⟩
  rcases Nat.lt_or_ge j out.length with e | e
  · rw [List.getElem?_append_left e] at hx; exact h.2 j x hx
  · rw [List.getElem?_append_right e] at hx
    have : j - out.length = 0 := by
      rcases Nat.eq_zero_or_pos (j - out.length) with q | q
      · exact q
      · rw [List.getElem?_eq_none (by simp; omega)] at hx; cases hx
    rw [this] at hx
    simp at hx
    exact ⟨i, n, g, by have := h.1; omega, hx.symm⟩
theorem infoS : (Tryd.prog.info? 9).map (fun i => (i.zero, i.size, i.bytes)) = some (some (.string ⟨#[]⟩), 1, 16) := by kernel_rfl
/-- Block g begins with the strings xs. -/
def RS (w : World) (g : Nat) (xs : List ByteArray) : Prop := ∃ more : List Value, Row w g 9 (xs.map Value.string ++ more)
section
variable {w w' : World} {g : Nat} {xs : List ByteArray}
theorem RS.lt (h : RS w g xs) : g < w.heap.size := Row.lt h.choose_spec
theorem RS.cell (h : RS w g xs) {j : Nat} {x : ByteArray} (hj : xs[j]? = some x) : w.cell? ⟨g, j, none⟩ = some (.string x) := by
  obtain ⟨more, h⟩ := h
  have hl : j < xs.length := (List.getElem?_eq_some_iff.1 hj).1
  rw [Row.cell h, List.getElem?_append_left (by simpa using hl), List.getElem?_map, hj]
  rfl
theorem RS.below {B : Nat} (h : RS w g xs) (hb : Below B w w') (hg : g < B) : RS w' g xs := ⟨_, Row.below h.choose_spec hb hg⟩
theorem RS.of_own {base c n : Nat} {A : Option Addr} (h : w.ownsRow base 9 1 (.slice A n c) n (xs.map Value.string)) (hn : 0 < n) : ∃ g, A = some ⟨g, 0, none⟩ ∧ base ≤ g ∧ RS w g xs ∧ n ≤ c ∧ c ≤ maxLen := by
  rcases h.2 with ⟨_, h0⟩ | ⟨g, cap, cur, hv, hg, hh, h1, h2, _, h3⟩
  · omega
  · injection hv with e1 e2 e3
    subst e1; subst e3
    refine ⟨g, rfl, hg, ⟨cur.toList.drop (n * 1), ?_⟩, h1, h2⟩
    rw [← h3, List.take_append_drop]
    unfold Row
    rw [hh]
theorem own_form {base size n : Nat} {t : TypeId} {v : Value} {vs : List Value} (h : w.ownsRow base t size v n vs) : ∃ A c, v = .slice A n c ∧ n ≤ c ∧ c ≤ maxLen := by
  rcases h.2 with ⟨rfl, rfl⟩ | ⟨g, cap, cur, rfl, _, _, h1, h2, _⟩
  · exact ⟨_, _, rfl, Nat.le_refl _, by decide⟩
  · exact ⟨_, _, rfl, h1, h2⟩
end
/-- One string more. -/
theorem str_next {w wr w1 : World} {B : Nat} {v v' : Value} {xs : List ByteArray} {x : ByteArray} {o : Obj} (hb : Below B w wr) (hB : B ≤ wr.heap.size) (hown : wr.ownsRow B 9 1 v xs.length (xs.map Value.string)) (h1 : w1.ownsRow B 9 1 v' (xs.length + 1) (xs.map Value.string ++ [Value.string x])) (hg : (wr.alloc o).grownBy w1 v.ownBlock) :
    w1.ownsRow B 9 1 v' (xs ++ [x]).length ((xs ++ [x]).map Value.string) ∧ Below B w w1 := by
  refine ⟨by rw [List.length_append, List.map_append]; exact h1, (hb.alloc hB o).grown hg (by simp; omega) (fun q hq => ((hown.alloc o).lt q hq).1)⟩
def LnRel (s : ByteArray) (w : World) (out line i : Value) (wr : World) : Prop :=
  ∃ (k : Nat) (xs : List ByteArray) (ln : ByteArray), i = .int .i64 (k : Int) ∧ line = .string ln ∧ k ≤ s.size ∧ wr.ownsRow w.heap.size 9 1 out xs.length (xs.map Value.string) ∧ Hid (LI s k xs ln) ∧ xs.length ≤ k ∧ ln.size ≤ k ∧ Below w.heap.size w wr
def LnPost (s : ByteArray) (w : World) (e : Ending) (w' : World) : Prop :=
  ∃ g c xs, e = .returned (.slice (some ⟨g, 0, none⟩) xs.length c) ∧ RS w' g xs ∧ xs.length ≤ c ∧ c ≤ maxLen ∧ Hid (xs.length = nl s 0 s.size + 1) ∧ Hid (∀ j x, xs[j]? = some x → LnAt s j x) ∧ w.heap.size ≤ g ∧ Below w.heap.size w w'
theorem li_len {s : ByteArray} {i : Nat} {xs : List ByteArray} {ln : ByteArray} (h : LI s i xs ln) : xs.length ≤ i ∧ ln.size ≤ i := by
  obtain ⟨h1, h2, _, b, hb, rfl⟩ := h
  have := nl_le s 0 i
  refine ⟨by omega, ?_⟩
  rw [ByteArray.size_extract]
  omega
set_option maxHeartbeats 4000000 in
theorem lines_any (s : ByteArray) (w : World) (hs : s.size ≤ 1048576) :
    Calls Tryd.prog 7 #[.string s] w (LnPost s w) := by
  obtain ⟨i0, hi0, hz0, hz1, hz2⟩ := info_parts infoS
  go_enter Tryd.func7, Tryd.ntmps7
  go_wp2_with fail
  go_loopw [3, 4, 5] (LnRel s w) (fun _ _ i _ => s.size - (intOf i).toNat)
  case atStart => exact ⟨0, [], ⟨#[]⟩, rfl, rfl, by omega, World.ownsRow_nil _ _ _ _, Lib.hid (li_init s), by simp, by decide, Below.refl _ _⟩
  case round =>
    obtain ⟨k, xs, ln, rfl, rfl, hk, hown, HL, hx, hln, hbw⟩ := hrel
    have hsz := hbw.size
    by_cases hp : k < s.size
    · have c1 : (0 : Int) ≤ (k : Int) := by omega
      have c3 : (k : Int) < (s.size : Int) := by omega
      have c4 : (k : Int) ≤ (k : Int) + 1 := by omega
      have c5 : (k : Int) + 1 ≤ (s.size : Int) := by omega
      have hby : by_ s k = (s[k]'hp).toNat := by unfold by_; rw [← get_at s k hp]; rfl
      have hblt := (s[k]'hp).toNat_lt
      by_cases h10 : by_ s k = 10
      · have f1 : (((s[k]'hp).toNat : Int) == 10) = true := beq_iff_eq.2 (by omega)
        have HQ := Lib.hid (li_nl HL.out hp h10)
        have hq := li_len HQ.out
        clear h10 hby
        go_wp2_with (at_builtin; refine wpList_append_own _ rfl _ _ 26 rfl w.heap.size 9 i0 (.string ⟨#[]⟩) 1 16 Tryd.underlying26 hi0 hz0 hz1 hz2 rfl (by decide) _ _ _ rfl (hown.alloc _) ⟨wr.heap.size, 0, none⟩ 1 1 [.string ln] rfl rfl (cell_one_new _ _ _) (fun u hu => by simp at hu; subst hu; rfl) (by unfold maxLen; omega) (by omega) (by first | (simp; omega) | omega) ?_; intro v' w1 hown' hgrow _)
        obtain ⟨ho, hb1⟩ := str_next hbw hsz hown hown' hgrow
        clear hown hown' hgrow
        go_wp2_with fail
        go_roundw
        case rel => exact ⟨k + 1, xs ++ [ln], ⟨#[]⟩, by go_num, rfl, by omega, ho, HQ, hq.1, hq.2, hb1⟩
        case measure => simp [intOf]; omega
      · have f1 : (((s[k]'hp).toNat : Int) == 10) = false := beq_eq_false_iff_ne.2 (by omega)
        have HQ := Lib.hid (li_no HL.out hp h10)
        have hq := li_len HQ.out
        clear h10 hby
        go_wp2_with fail
        go_roundw
        case rel => exact ⟨k + 1, xs, ln ++ s.extract k (k + 1), by go_num, by first | rfl | go_num, by omega, hown, HQ, hq.1, hq.2, hbw⟩
        case measure => simp [intOf]; omega
    · have HE := Lib.hid (li_end HL.out hp)
      have c3 : ¬ (k : Int) < (s.size : Int) := by omega
      clear hp
      go_wp2_with (at_builtin; refine wpList_append_own _ rfl _ _ 26 rfl w.heap.size 9 i0 (.string ⟨#[]⟩) 1 16 Tryd.underlying26 hi0 hz0 hz1 hz2 rfl (by decide) _ _ _ rfl (hown.alloc _) ⟨wr.heap.size, 0, none⟩ 1 1 [.string ln] rfl rfl (cell_one_new _ _ _) (fun u hu => by simp at hu; subst hu; rfl) (by unfold maxLen; omega) (by omega) (by first | (simp; omega) | omega) ?_; intro v' w1 hown' hgrow _)
      obtain ⟨ho, hb1⟩ := str_next hbw hsz hown hown' hgrow
      obtain ⟨A, c, rfl, hc1, hc2⟩ := own_form ho
      obtain ⟨g, rfl, hg, hR, _, _⟩ := RS.of_own ho (by simp)
      clear hown hown' hgrow
      go_wp2_with fail
      go_ret
      exact ⟨g, c, xs ++ [ln], rfl, hR, hc1, hc2, Lib.hid HE.out.1, Lib.hid HE.out.2, hg, hb1⟩
theorem own_le {w : World} {b b' n : Nat} {v : Value} {vs : List Value} (h : w.ownsRow b 9 1 v n vs) (hb : b' ≤ b) : w.ownsRow b' 9 1 v n vs := by
  refine ⟨h.1, ?_⟩
  rcases h.2 with h2 | ⟨g, cap, cur, h3, h4, h5⟩
  · exact .inl h2
  · exact .inr ⟨g, cap, cur, h3, Nat.le_trans hb h4, h5⟩
def ChRel (s : ByteArray) (w : World) (out i : Value) (wr : World) : Prop :=
  ∃ (k : Nat) (xs : List ByteArray), i = .int .i64 (k : Int) ∧ k ≤ s.size ∧ wr.ownsRow w.heap.size 9 1 out xs.length (xs.map Value.string) ∧ Hid (CI s k xs) ∧ xs.length ≤ k ∧ Below w.heap.size w wr
def ChPost (s : ByteArray) (w : World) (e : Ending) (w' : World) : Prop :=
  ∃ A c xs, e = .returned (.slice A xs.length c) ∧ w'.ownsRow w.heap.size 9 1 (.slice A xs.length c) xs.length (xs.map Value.string) ∧ xs.length ≤ c ∧ c ≤ maxLen ∧ Hid (CI s s.size xs) ∧ xs.length ≤ s.size ∧ Below w.heap.size w w'
theorem ci_len {s : ByteArray} {i : Nat} {xs : List ByteArray} (h : CI s i xs) : xs.length ≤ i := by
  have := nb_le s 0 i
  have := h.1
  omega
set_option maxHeartbeats 4000000 in
theorem chars_any (s : ByteArray) (w : World) (hs : s.size ≤ 16000) (hg : Hid (chkFrom s s.size 0 = none)) (hT : Tabs w) :
    Calls Tryd.prog 29 #[.string s] w (ChPost s w) := by
  obtain ⟨i0, hi0, hz0, hz1, hz2⟩ := info_parts infoS
  go_enter Tryd.func29, Tryd.ntmps29
  go_wp2_with fail
  refine (widths_any s _ hs hT).mono ?_
  rintro e w0 ⟨g, ys, rfl, hR, HL, HW, hgw, hb1⟩
  have HN := Lib.hid (show ∀ j, j < s.size → WC s (wv ys) j from fun j hj => by
    rcases HW.out.2 with ⟨_, h⟩ | ⟨p, _, h, _⟩
    · exact h j hj
    · rw [hg.out] at h; cases h)
  have h00 := hb1.size
  go_wp2_with fail
  go_loopw [3, 9] (ChRel s w0) (fun _ i _ => s.size - (intOf i).toNat)
  case atStart => exact ⟨0, [], rfl, by omega, World.ownsRow_nil _ _ _ _, Lib.hid (ci_init s), by simp, Below.refl _ _⟩
  case round =>
    obtain ⟨k, xs, rfl, hk, hown, HC, hx, hbw⟩ := hrel
    have hsz := hbw.size
    by_cases hp : k < s.size
    · have c1 : (0 : Int) ≤ (k : Int) := by omega
      have c3 : (k : Int) < (s.size : Int) := by omega
      have hRr := hR.below hbw hR.lt
      have q0 := hRr.cell (j := k) (by rw [HL.out]; exact hp)
      have hn := HN.out k hp
      obtain ⟨Y, hY⟩ : ∃ Y, Y = ys.getD k 0 := ⟨_, rfl⟩
      have HY := Lib.hid (show Y = wv ys k from hY)
      rw [← hY] at q0
      clear hY
      by_cases h2 : by_ s k / 64 = 2
      · have HQ := Lib.hid (ci_ct HC.out h2)
        have hq := ci_len HQ.out
        have f2 : decide (0 < Y) = false := decide_eq_false (by rw [HY.out, hn.1 h2]; decide)
        clear h2 hn
        go_wp2_with fail
        go_roundw
        case rel => exact ⟨k + 1, xs, by go_num, by omega, hown, HQ, hq, hbw⟩
        case measure => simp [intOf]; omega
      · obtain ⟨n, ga, hy⟩ := hn.2 h2
        have HQ := Lib.hid (ci_ch HC.out ga)
        have hq := ci_len HQ.out
        have n1 := ga.n1
        have n2 := ga.le
        have eY : Y = (n : Int) := by rw [HY.out, hy]
        subst eY
        have f2 : decide (0 < (n : Int)) = true := decide_eq_true (by omega)
        have f2n : decide (0 < n) = true := decide_eq_true (by omega)
        have c4 : (k : Int) ≤ (k : Int) + (n : Int) := by omega
        have c5 : (k : Int) + (n : Int) ≤ (s.size : Int) := by omega
        clear h2 hn ga hy
        go_wp2_with (at_builtin; refine wpList_append_own _ rfl _ _ 26 rfl w0.heap.size 9 i0 (.string ⟨#[]⟩) 1 16 Tryd.underlying26 hi0 hz0 hz1 hz2 rfl (by decide) _ _ _ rfl (hown.alloc _) ⟨wr.heap.size, 0, none⟩ 1 1 [.string (s.extract k (k + n))] rfl rfl (cell_one_new _ _ _) (fun u hu => by simp at hu; subst hu; rfl) (by unfold maxLen; omega) (by omega) (by first | (simp; omega) | omega) ?_; intro v' w1 hown' hgrow _)
        obtain ⟨ho, hb2⟩ := str_next hbw hsz hown hown' hgrow
        clear hown hown' hgrow
        go_wp2_with fail
        go_roundw
        case rel => exact ⟨k + 1, xs ++ [s.extract k (k + n)], by go_num, by omega, ho, HQ, hq, hb2⟩
        case measure => simp [intOf]; omega
    · obtain rfl : k = s.size := by omega
      have c3 : ¬ (s.size : Int) < (s.size : Int) := by omega
      obtain ⟨A, c, rfl, hc1, hc2⟩ := own_form hown
      clear hp
      go_wp2_with fail
      go_ret
      exact ⟨A, c, xs, rfl, own_le hown h00, hc1, hc2, HC, hx, hb1.trans (hbw.mono h00)⟩
end Go.Proofs.YtlohapafpgihaaaDoor
