/- Package source: what a text that is no source gives, and the mathematics of the reference. -/
import Derived.Test.YtlohapafpgihaaaDoorSe
import Derived.Deep.DeepCutAuto
namespace Go.Proofs.YtlohapafpgihaaaDoor
open Go.RowKit
set_option maxHeartbeats 400000
set_option maxRecDepth 100000
set_option linter.unusedSimpArgs false
set_option linter.unusedVariables false

theorem dec_hi (t : ByteArray) (q : Nat) (hq : 128 ≤ by_ t q) : Utf8.decode t q = (if (by_ t q / 32 == 6 && (decide (q + 1 < t.size) && by_ t (q + 1) / 64 == 2)) = true then (if by_ t q % 32 * 64 + by_ t (q + 1) % 64 ≥ 128 then (by_ t q % 32 * 64 + by_ t (q + 1) % 64, 2) else (65533, 1))
    else if (by_ t q / 16 == 14 && (decide (q + 1 < t.size) && by_ t (q + 1) / 64 == 2) && (decide (q + 2 < t.size) && by_ t (q + 2) / 64 == 2)) = true then (if (decide (by_ t q % 16 * 4096 + by_ t (q + 1) % 64 * 64 + by_ t (q + 2) % 64 ≥ 2048) && Utf8.valid ((by_ t q % 16 * 4096 + by_ t (q + 1) % 64 * 64 + by_ t (q + 2) % 64 : Nat) : Int)) = true then (by_ t q % 16 * 4096 + by_ t (q + 1) % 64 * 64 + by_ t (q + 2) % 64, 3) else (65533, 1))
    else if (by_ t q / 8 == 30 && (decide (q + 1 < t.size) && by_ t (q + 1) / 64 == 2) && (decide (q + 2 < t.size) && by_ t (q + 2) / 64 == 2) && (decide (q + 3 < t.size) && by_ t (q + 3) / 64 == 2)) = true then (if (decide (by_ t q % 8 * 262144 + by_ t (q + 1) % 64 * 4096 + by_ t (q + 2) % 64 * 64 + by_ t (q + 3) % 64 ≥ 65536) && Utf8.valid ((by_ t q % 8 * 262144 + by_ t (q + 1) % 64 * 4096 + by_ t (q + 2) % 64 * 64 + by_ t (q + 3) % 64 : Nat) : Int)) = true then (by_ t q % 8 * 262144 + by_ t (q + 1) % 64 * 4096 + by_ t (q + 2) % 64 * 64 + by_ t (q + 3) % 64, 4) else (65533, 1))
    else (65533, 1)) := by
  simp only [Utf8.decode]
  show (if by_ t (q + 0) < 128 then _ else _) = _
  rw [if_neg (by show ¬ by_ t q < 128; omega)]
  rfl
/-- Two bytes and more that are decoded as the character for wrong bytes are its own three. -/
theorem dec_u {s : ByteArray} {p : Nat} (h : p < s.size) (h1 : (Utf8.decode s p).1 = 65533) (h2 : 2 ≤ (Utf8.decode s p).2) : repB s p = true := by
  by_cases h0 : by_ s p < 128
  · rcases dec_parts s p h with ⟨_, hd⟩ | ⟨k, _⟩ | ⟨_, _, _, k, _⟩
    · rw [hd] at h2; simp at h2
    · omega
    · omega
  · have hd := dec_hi s p (by omega)
    generalize Utf8.decode s p = D at h1 h2 hd
    split at hd
    · split at hd
      · have := by_lt s p; have := by_lt s (p + 1); subst hd; simp at h1; omega
      · subst hd; simp at h2
    · split at hd
      · rename_i c3
        simp only [Bool.and_eq_true, beq_iff_eq, decide_eq_true_eq] at c3
        split at hd
        · subst hd
          simp at h1
          have := by_lt s p; have := by_lt s (p + 1); have := by_lt s (p + 2)
          unfold repB
          simp only [Bool.and_eq_true, beq_iff_eq, decide_eq_true_eq]
          omega
        · subst hd; simp at h2
      · split at hd
        · split at hd
          · rename_i g
            simp only [Bool.and_eq_true, decide_eq_true_eq] at g
            have g1 := g.1
            subst hd; simp at h1; omega
          · subst hd; simp at h2
        · subst hd; simp at h2
/-- Whether a place is wrong, by what is decoded there alone. -/
theorem bad_ref {s : ByteArray} {p : Nat} (h : p < s.size) : badB s p = (((Utf8.decode s p).1 == 65533 && decide ((Utf8.decode s p).2 ≤ 1)) || (decide ((Utf8.decode s p).1 < 32) && !((Utf8.decode s p).1 == 10))) := by
  have e : ((Utf8.decode s p).1 == 65533 && !repB s p) = ((Utf8.decode s p).1 == 65533 && decide ((Utf8.decode s p).2 ≤ 1)) := by
    by_cases h1 : (Utf8.decode s p).1 = 65533
    · rw [beq_iff_eq.2 h1, Bool.true_and, Bool.true_and]
      cases hr : repB s p
      · rw [decide_eq_true (show (Utf8.decode s p).2 ≤ 1 from ?_)]; rfl
        rcases Nat.lt_or_ge 1 (Utf8.decode s p).2 with h2 | h2
        · rw [dec_u h h1 h2] at hr; cases hr
        · exact h2
      · have h3 := hr
        unfold repB at h3
        simp only [Bool.and_eq_true, beq_iff_eq, decide_eq_true_eq] at h3
        rw [decide_eq_false (show ¬ (Utf8.decode s p).2 ≤ 1 by rw [dec_rep s p h3.1.1.1 h3.1.1.2 h3.1.2 h3.2]; decide)]; rfl
    · rw [beq_eq_false_iff_ne.2 h1]; rfl
  unfold badB
  rw [e, Bool.or_comm]
theorem nobad_from {s : ByteArray} : ∀ (f pos : Nat), s.size ≤ pos + f → pos ≤ s.size → chkFrom s f pos = none → ∀ p, pos ≤ p → p < s.size → Bd s p → badB s p = false
  | 0, pos, h1, h2, _ => fun p h3 h4 => by omega
  | f + 1, pos, h1, h2, hc => by
    unfold chkFrom at hc
    by_cases hp : pos < s.size
    · rw [if_pos hp] at hc
      cases hb : badB s pos
      · rw [hb, if_neg (by decide)] at hc
        obtain ⟨n, g⟩ := ga_of hp hb
        rw [g.dec] at hc
        have n1 := g.n1
        have i2 := nobad_from f (pos + n) (by omega) g.le hc
        intro p h3 h4 h5
        rcases Nat.lt_or_ge p (pos + n) with h6 | h6
        · rcases Nat.eq_or_lt_of_le h3 with e | e
          · subst e; exact hb
          · exfalso
            have h7 := g.ct (p - pos) (by omega) (by omega)
            rw [show pos + (p - pos) = p by omega] at h7
            exact h5.2 h4 h7
        · exact i2 p h6 h4 h5
      · rw [hb, if_pos rfl] at hc
        cases hc
    · exact fun p h3 h4 => by omega
theorem nobad {s : ByteArray} (h : chkFrom s s.size 0 = none) {p : Nat} (hp : p < s.size) (hb : Bd s p) : badB s p = false := nobad_from s.size 0 (by omega) (by omega) h p (by omega) hp hb
theorem chk_ext {s : ByteArray} {a e : Nat} (hg : chkFrom s s.size 0 = none) (he : Bd s e) (hae : a ≤ e) : ∀ (f p : Nat), a ≤ p → p ≤ e → Bd s p → chkFrom (s.extract a e) f (p - a) = none
  | 0, _, _, _, _ => rfl
  | f + 1, p, h1, h2, hp => by
    have hs : (s.extract a e).size = e - a := by rw [ByteArray.size_extract]; have := he.1; omega
    unfold chkFrom
    by_cases hlt : p < e
    · have hps : p < s.size := by have := he.1; omega
      rw [if_pos (by omega)]
      obtain ⟨n, g, hn⟩ := (good_of hg).2 p hps hp
      have hle := ga_le g he hlt
      have n1 := g.n1
      have hd : Utf8.decode (s.extract a e) (p - a) = Utf8.decode s p := g.same _ _ (by omega) (fun j hj => by rw [by_ext (by omega) he.1]; congr 1; omega)
      have hb : badB (s.extract a e) (p - a) = false := by
        rw [bad_ref (by omega), hd, ← bad_ref hps]; exact nobad hg hps hp
      rw [hb, if_neg (by decide), hd, g.dec, show p - a + n = p + n - a by omega]
      exact chk_ext hg he hae f (p + n) (by omega) hle hn
    · rw [if_neg (by omega)]
/-- A part of a good text that begins and ends where characters do is good. -/
theorem chk_part {s : ByteArray} {a e : Nat} (hg : chkFrom s s.size 0 = none) (ha : Bd s a) (he : Bd s e) (hae : a ≤ e) : chkFrom (s.extract a e) (s.extract a e).size 0 = none := by
  have := chk_ext hg he hae (s.extract a e).size a (Nat.le_refl _) hae ha
  rw [Nat.sub_self] at this
  exact this
theorem dec_fit {s : ByteArray} {p : Nat} (h : p < s.size) : 1 ≤ (Utf8.decode s p).2 ∧ (Utf8.decode s p).2 ≤ 4 ∧ p + (Utf8.decode s p).2 ≤ s.size := by
  rcases dec_parts s p h with ⟨_, hd⟩ | ⟨_, hd⟩ | ⟨n, h1, h2, _, hd, _, h3, _⟩
  · rw [hd]; exact ⟨by simp, by simp, h⟩
  · rw [hd]; exact ⟨by simp, by simp, h⟩
  · rw [hd]; omega
/-- A cell of the widths of a good text. -/
def WC (s : ByteArray) (v : Nat → Int) (j : Nat) : Prop := (by_ s j / 64 = 2 → v j = 0) ∧ (by_ s j / 64 ≠ 2 → ∃ n : Nat, GA s j n ∧ v j = n)
def up (v : Nat → Int) (i : Nat) (x : Int) : Nat → Int := fun j => if j = i then x else v j
theorem up_at (v : Nat → Int) (i : Nat) (x : Int) : up v i x i = x := if_pos rfl
theorem up_ne (v : Nat → Int) {i j : Nat} (x : Int) (h : j ≠ i) : up v i x j = v j := if_neg h
/-- The widths so far. -/
def WI (s : ByteArray) (i : Nat) (v : Nat → Int) : Prop :=
  (∀ j, i ≤ j → v j = 0) ∧ (∀ j, -1 ≤ v j ∧ v j ≤ 4) ∧ ((∃ f, s.size ≤ i + f ∧ chkFrom s f i = chkFrom s s.size 0 ∧ ∀ j, j < i → WC s v j) ∨ (∃ p, chkFrom s s.size 0 = some p ∧ p < i ∧ v p = -1 ∧ ∀ j, j < p → 0 ≤ v j))
/-- The widths. -/
def WdOk (s : ByteArray) (v : Nat → Int) : Prop :=
  (∀ j, -1 ≤ v j ∧ v j ≤ 4) ∧ ((chkFrom s s.size 0 = none ∧ ∀ j, j < s.size → WC s v j) ∨ (∃ p, p < s.size ∧ chkFrom s s.size 0 = some p ∧ v p = -1 ∧ ∀ j, j < p → 0 ≤ v j))
theorem wi_init (s : ByteArray) : WI s 0 (fun _ => 0) := ⟨fun _ _ => rfl, fun _ => ⟨by show (-1 : Int) ≤ 0; decide, by show (0 : Int) ≤ 4; decide⟩, .inl ⟨s.size, by omega, rfl, fun j hj => by omega⟩⟩
theorem wc_nn {s : ByteArray} {v : Nat → Int} {j : Nat} (h : WC s v j) : 0 ≤ v j := by
  by_cases e : by_ s j / 64 = 2
  · rw [h.1 e]; decide
  · obtain ⟨n, _, h2⟩ := h.2 e; rw [h2]; omega
theorem wc_up {s : ByteArray} {v : Nat → Int} {i j : Nat} {x : Int} (h : WC s v j) (hj : j ≠ i) : WC s (up v i x) j := by
  unfold WC; rw [up_ne v x hj]; exact h
theorem chk_some {s : ByteArray} {f i : Nat} (hf : s.size ≤ i + f) (hi : i < s.size) (hb : badB s i = true) : chkFrom s f i = some i := by
  cases f with
  | zero => omega
  | succ f => unfold chkFrom; rw [if_pos hi, if_pos hb]
theorem chk_go {s : ByteArray} {f i : Nat} (hf : s.size ≤ i + f) (hi : i < s.size) (hb : badB s i = false) : ∃ g, s.size ≤ i + (Utf8.decode s i).2 + g ∧ chkFrom s g (i + (Utf8.decode s i).2) = chkFrom s f i := by
  cases f with
  | zero => omega
  | succ f =>
    refine ⟨f, by have := (dec_fit hi).1; omega, ?_⟩
    conv => rhs; unfold chkFrom
    rw [if_pos hi, hb, if_neg (by decide)]
theorem wi_bad {s : ByteArray} {i : Nat} {v : Nat → Int} (h : WI s i v) (hi : i < s.size) (hb : badB s i = true) : WI s (i + 1) (up v i (-1)) := by
  obtain ⟨h1, h2, h3⟩ := h
  refine ⟨fun j hj => by rw [up_ne v _ (by omega)]; exact h1 j (by omega), fun j => by unfold up; split; exact ⟨by decide, by decide⟩; exact h2 j, .inr ?_⟩
  rcases h3 with ⟨f, hf, hc, hw⟩ | ⟨p, hp, hpi, hv, hn⟩
  · exact ⟨i, by rw [← hc]; exact chk_some hf hi hb, by omega, up_at v i _, fun j hj => by rw [up_ne v _ (by omega)]; exact wc_nn (hw j hj)⟩
  · exact ⟨p, hp, by omega, by rw [up_ne v _ (by omega)]; exact hv, fun j hj => by rw [up_ne v _ (by omega)]; exact hn j hj⟩
theorem wi_good {s : ByteArray} {i : Nat} {v : Nat → Int} (h : WI s i v) (hi : i < s.size) (hb : badB s i = false) : WI s (i + (Utf8.decode s i).2) (up v i ((Utf8.decode s i).2 : Nat)) := by
  obtain ⟨h1, h2, h3⟩ := h
  obtain ⟨k1, k2, k3⟩ := dec_fit hi
  refine ⟨fun j hj => by rw [up_ne v _ (by omega)]; exact h1 j (by omega), fun j => by unfold up; split; omega; exact h2 j, ?_⟩
  rcases h3 with ⟨f, hf, hc, hw⟩ | ⟨p, hp, hpi, hv, hn⟩
  · obtain ⟨g, hg, hcg⟩ := chk_go hf hi hb
    refine .inl ⟨g, hg, hcg.trans hc, fun j hj => ?_⟩
    obtain ⟨n, ga⟩ := ga_of hi hb
    rcases Nat.lt_trichotomy j i with e | e | e
    · exact wc_up (hw j e) (by omega)
    · subst e
      exact ⟨fun e => absurd e ga.st, fun _ => ⟨n, ga, by rw [up_at, ga.dec]⟩⟩
    · have := ga.ct (j - i) (by omega) (by have := ga.dec; omega)
      rw [show i + (j - i) = j by omega] at this
      exact ⟨fun _ => by rw [up_ne v _ (by omega)]; exact h1 j (by omega), fun e2 => absurd this e2⟩
  · exact .inr ⟨p, hp, by omega, by rw [up_ne v _ (by omega)]; exact hv, fun j hj => by rw [up_ne v _ (by omega)]; exact hn j hj⟩
theorem wi_end {s : ByteArray} {i : Nat} {v : Nat → Int} (h : WI s i v) (h0 : i ≤ s.size) (hi : ¬ i < s.size) : WdOk s v := by
  obtain ⟨_, h2, h3⟩ := h
  obtain rfl : i = s.size := by omega
  refine ⟨h2, ?_⟩
  rcases h3 with ⟨f, hf, hc, hw⟩ | ⟨p, hp, hpi, hv, hn⟩
  · refine .inl ⟨?_, hw⟩
    rw [← hc]
    cases f with
    | zero => rfl
    | succ f => unfold chkFrom; rw [if_neg hi]
  · exact .inr ⟨p, hpi, hp, hv, hn⟩
/-- Line j of a text. -/
def LnAt (s : ByteArray) (j : Nat) (x : ByteArray) : Prop := ∃ b t, LB s j b ∧ LE s b t ∧ x = s.extract b t
theorem ln_uniq {s : ByteArray} {j : Nat} {x y : ByteArray} (h : LnAt s j x) (k : LnAt s j y) : x = y := by
  obtain ⟨b, t, h1, h2, rfl⟩ := h
  obtain ⟨c, u, k1, k2, rfl⟩ := k
  obtain rfl := lb_uniq h1 k1
  have : t = u := by
    have a := le_ge h2 k2.2.1 k2.1 k2.2.2.1
    have b := le_ge k2 h2.2.1 h2.1 h2.2.2.1
    omega
  rw [this]
theorem at_zero (s : ByteArray) : PosAt s 0 0 := ⟨Nat.le_refl _, lb_zero s, fun j h1 h2 => by omega⟩
theorem at_nl {s : ByteArray} {i b : Nat} (h : PosAt s i b) (hi : i < s.size) (h10 : by_ s i = 10) : PosAt s (i + 1) (i + 1) := by
  refine ⟨Nat.le_refl _, ⟨by omega, rfl, .inr ⟨by omega, h10⟩⟩, fun j h1 h2 => by omega⟩
theorem nl_10 {s : ByteArray} {i : Nat} (h10 : by_ s i = 10) : nl s 0 (i + 1) = nl s 0 i + 1 := by rw [nl_succ, Nat.zero_add, if_pos h10]
theorem nl_no {s : ByteArray} {i : Nat} (h10 : by_ s i ≠ 10) : nl s 0 (i + 1) = nl s 0 i := by rw [nl_succ, Nat.zero_add, if_neg h10, Nat.add_zero]
theorem at_no {s : ByteArray} {i b : Nat} (h : PosAt s i b) (h10 : by_ s i ≠ 10) : PosAt s (i + 1) b := by
  obtain ⟨h1, h2, h3⟩ := h
  refine ⟨by omega, by rw [nl_no h10]; exact h2, fun j k1 k2 => ?_⟩
  rcases Nat.lt_or_ge j i with e | e
  · exact h3 j k1 e
  · rw [show j = i by omega]; exact h10
theorem ext_app {s : ByteArray} {b i : Nat} (hb : b ≤ i) (hi : i < s.size) : s.extract b i ++ s.extract i (i + 1) = s.extract b (i + 1) := by
  refine ba_ext ?_
  rw [ByteArray.data_append, Array.toList_append, ext_list, ext_list, ext_list, ← List.drop_append_of_le_length (by simp; have : s.data.size = s.size := rfl; omega)]
  congr 1
  rw [List.take_add_one]
  congr 1
  rw [List.drop_append_of_le_length (by simp; have : s.data.size = s.size := rfl; omega)]
  simp
/-- The lines so far. -/
def LI (s : ByteArray) (i : Nat) (out : List ByteArray) (line : ByteArray) : Prop :=
  i ≤ s.size ∧ out.length = nl s 0 i ∧ (∀ j x, out[j]? = some x → LnAt s j x) ∧ ∃ b, PosAt s i b ∧ line = s.extract b i
theorem li_init (s : ByteArray) : LI s 0 [] ⟨#[]⟩ := ⟨Nat.zero_le _, rfl, fun j x h => by simp at h, 0, at_zero s, by rw [ByteArray.extract_eq_empty_iff.2 (by simp)]; rfl⟩
theorem li_snoc {s : ByteArray} {i : Nat} {out : List ByteArray} {line : ByteArray} (h : LI s i out line) (hl : LnAt s (nl s 0 i) line) : (out ++ [line]).length = nl s 0 i + 1 ∧ ∀ j x, (out ++ [line])[j]? = some x → LnAt s j x := by
  obtain ⟨_, h2, h3, _⟩ := h
  refine ⟨by simp [h2], fun j x hx => ?_⟩
  rcases Nat.lt_or_ge j out.length with e | e
  · rw [List.getElem?_append_left e] at hx; exact h3 j x hx
  · rw [List.getElem?_append_right e] at hx
    have : j - out.length = 0 := by
      rcases Nat.eq_zero_or_pos (j - out.length) with q | q
      · exact q
      · rw [List.getElem?_eq_none (by simp; omega)] at hx; cases hx
    rw [this] at hx
    simp at hx
    rw [← hx, show j = nl s 0 i by omega]; exact hl
theorem li_nl {s : ByteArray} {i : Nat} {out : List ByteArray} {line : ByteArray} (h : LI s i out line) (hi : i < s.size) (h10 : by_ s i = 10) : LI s (i + 1) (out ++ [line]) ⟨#[]⟩ := by
  have h' := h
  obtain ⟨_, h2, h3, b, hb, hl⟩ := h
  have := li_snoc h' ⟨b, i, hb.2.1, ⟨hb.1, by omega, hb.2.2, fun _ => h10⟩, hl⟩
  refine ⟨by omega, by rw [this.1, nl_10 h10], this.2, i + 1, at_nl hb hi h10, by rw [ByteArray.extract_eq_empty_iff.2 (by omega)]; rfl⟩
theorem li_no {s : ByteArray} {i : Nat} {out : List ByteArray} {line : ByteArray} (h : LI s i out line) (hi : i < s.size) (h10 : by_ s i ≠ 10) : LI s (i + 1) out (line ++ s.extract i (i + 1)) := by
  obtain ⟨_, h2, h3, b, hb, rfl⟩ := h
  exact ⟨by omega, by rw [h2, nl_no h10], h3, b, at_no hb h10, ext_app hb.1 hi⟩
theorem li_end {s : ByteArray} {i : Nat} {out : List ByteArray} {line : ByteArray} (h : LI s i out line) (hi : ¬ i < s.size) : (out ++ [line]).length = nl s 0 s.size + 1 ∧ ∀ j x, (out ++ [line])[j]? = some x → LnAt s j x := by
  have h' := h
  obtain ⟨h1, h2, h3, b, hb, hl⟩ := h
  obtain rfl : i = s.size := by omega
  exact li_snoc h' ⟨b, s.size, hb.2.1, ⟨hb.1, Nat.le_refl _, hb.2.2, fun q => by omega⟩, hl⟩
/-- A place, as a line and a column. -/
def PI (s : ByteArray) (i l c : Nat) : Prop := ∃ b, PosAt s i b ∧ l = nl s 0 i + 1 ∧ c = nb s b (i - b) + 1
theorem pi_init (s : ByteArray) : PI s 0 1 1 := ⟨0, at_zero s, rfl, rfl⟩
theorem pi_nl {s : ByteArray} {i l c : Nat} (h : PI s i l c) (hi : i < s.size) (h10 : by_ s i = 10) : PI s (i + 1) (l + 1) 1 := by
  obtain ⟨b, h1, rfl, rfl⟩ := h
  exact ⟨i + 1, at_nl h1 hi h10, by rw [nl_10 h10], by rw [Nat.sub_self]; rfl⟩
theorem pi_ch {s : ByteArray} {i l c : Nat} (h : PI s i l c) (h10 : by_ s i ≠ 10) (hc : by_ s i / 64 ≠ 2) : PI s (i + 1) l (c + 1) := by
  obtain ⟨b, h1, rfl, rfl⟩ := h
  refine ⟨b, at_no h1 h10, by rw [nl_no h10], ?_⟩
  have := h1.1
  rw [show i + 1 - b = (i - b) + 1 by omega, nb_succ, show b + (i - b) = i by omega, if_neg hc]
theorem pi_ct {s : ByteArray} {i l c : Nat} (h : PI s i l c) (hc : by_ s i / 64 = 2) : PI s (i + 1) l c := by
  obtain ⟨b, h1, rfl, rfl⟩ := h
  have h10 : by_ s i ≠ 10 := by omega
  refine ⟨b, at_no h1 h10, by rw [nl_no h10], ?_⟩
  have := h1.1
  rw [show i + 1 - b = (i - b) + 1 by omega, nb_succ, show b + (i - b) = i by omega, if_pos hc]
theorem pi_uniq {s : ByteArray} {i l c l' c' : Nat} (h : PI s i l c) (k : PI s i l' c') : l = l' ∧ c = c' := by
  obtain ⟨b, h1, rfl, rfl⟩ := h
  obtain ⟨b', k1, rfl, rfl⟩ := k
  obtain rfl := lb_uniq h1.2.1 k1.2.1
  exact ⟨rfl, rfl⟩
theorem nb_ivt (s : ByteArray) (b c : Nat) : ∀ m, c ≤ nb s b m → (∃ k, k < m ∧ nb s b k = c ∧ by_ s (b + k) / 64 ≠ 2) ∨ c = nb s b m
  | 0, h => .inr (by have : nb s b 0 = 0 := rfl; omega)
  | m + 1, h => by
    rw [nb_succ] at h ⊢
    by_cases e : by_ s (b + m) / 64 = 2
    · rw [if_pos e] at h ⊢
      rcases nb_ivt s b c m (by omega) with ⟨k, k1, k2⟩ | k
      · exact .inl ⟨k, by omega, k2⟩
      · exact .inr (by omega)
    · rw [if_neg e] at h ⊢
      by_cases e2 : c = nb s b m + 1
      · exact .inr e2
      · rcases nb_ivt s b c m (by omega) with ⟨k, k1, k2⟩ | k
        · exact .inl ⟨k, by omega, k2⟩
        · exact .inl ⟨m, by omega, k.symm, e⟩
/-- Where a line and a column are. -/
theorem off_ex {s : ByteArray} {j b t c : Nat} (h : LB s j b) (k : LE s b t) (hc : c ≤ nb s b (t - b)) : ∃ o, Bd s o ∧ PosAt s o b ∧ nl s 0 o = j ∧ nb s b (o - b) = c := by
  have key : ∀ o, b ≤ o → o ≤ t → PosAt s o b ∧ nl s 0 o = j := by
    intro o h1 h2
    have h3 := nl_add s 0 b (o - b)
    rw [show b + (o - b) = o by omega, nl_none (o - b) (fun i hi => k.2.2.1 (0 + b + i) (by omega) (by omega))] at h3
    have h4 : nl s 0 o = j := by rw [h3, h.2.1]; rfl
    exact ⟨⟨h1, by rw [h4]; exact h, fun i h5 h6 => k.2.2.1 i h5 (by omega)⟩, h4⟩
  have k1 := k.1
  have k2 := k.2.1
  rcases nb_ivt s b c (t - b) hc with ⟨m, m1, m2, m3⟩ | m
  · obtain ⟨q1, q2⟩ := key (b + m) (by omega) (by omega)
    exact ⟨b + m, ⟨by omega, fun _ => m3⟩, q1, q2, by rw [show b + m - b = m by omega]; exact m2⟩
  · obtain ⟨q1, q2⟩ := key t k1 (Nat.le_refl _)
    exact ⟨t, le_bd k, q1, q2, m.symm⟩
theorem off_no {s : ByteArray} {i o l c : Nat} (G : Good s) (ho : Bd s o) (hp : PI s o l c) (hi : i < o) (hb : Bd s i) {l' c' : Nat} (hq : PI s i l' c') : ¬ (l' = l ∧ c' = c) := by
  obtain ⟨b, h1, rfl, rfl⟩ := hp
  obtain ⟨x, k1, rfl, rfl⟩ := hq
  rcases pos_lt G hb ho.1 k1.2.1 h1.2.1 k1.1 h1.1 hi with e | ⟨e1, e2⟩ <;> omega
/-- The fault of a text that is no source. -/
def SFB (s : ByteArray) (c i : Int) : Prop := (c = 1 ∧ ∃ p : Nat, i = p ∧ s.size ≤ 16000 ∧ chkFrom s s.size 0 = some p) ∨ (c = 3 ∧ i = -1 ∧ 16000 < s.size)
theorem sfb_uniq {s : ByteArray} {c i c' i' : Int} (h : SFB s c i) (k : SFB s c' i') : c = c' ∧ i = i' := by
  rcases h with ⟨rfl, p, rfl, h1, h2⟩ | ⟨rfl, rfl, h1⟩ <;> rcases k with ⟨rfl, q, rfl, k1, k2⟩ | ⟨rfl, rfl, k1⟩
  · rw [h2] at k2
    injection k2 with e
    subst e
    exact ⟨rfl, rfl⟩
  · omega
  · omega
  · exact ⟨rfl, rfl⟩
theorem sf_cases (s : ByteArray) : (s.size ≤ 16000 ∧ chkFrom s s.size 0 = none) ∨ ∃ c i, SFB s c i := by
  by_cases h : s.size ≤ 16000
  · cases hc : chkFrom s s.size 0 with
    | none => exact .inl ⟨h, rfl⟩
    | some p => exact .inr ⟨1, p, .inl ⟨rfl, p, rfl, h, hc⟩⟩
  · exact .inr ⟨3, -1, .inr ⟨rfl, rfl, by omega⟩⟩
theorem SFB.code {s : ByteArray} {c i : Int} (h : SFB s c i) : 1 ≤ c ∧ c ≤ 6 := by
  rcases h with ⟨rfl, _⟩ | ⟨rfl, _⟩ <;> exact ⟨by decide, by decide⟩
theorem check_b (s : ByteArray) (w : World) (hz : s.size ≤ 9223372036854775807) {c i : Int} (h : Hid (SFB s c i)) :
    Calls Tryd.prog 10 #[.string s] w fun e w' => e = .returned (flt c i) ∧ Below w.heap.size w w' :=
  (check_any s w hz).mono fun e w' ⟨c', i', he, k, hb⟩ => by
    rcases k with ⟨rfl, rfl, k1, k2⟩ | ⟨p, rfl, rfl, k1, k2⟩ | ⟨rfl, rfl, k⟩
    · exfalso
      rcases h.out with ⟨_, p, _, _, h2⟩ | ⟨_, _, h1⟩
      · rw [k2] at h2; cases h2
      · omega
    · obtain ⟨rfl, rfl⟩ := sfb_uniq h.out (.inl ⟨rfl, p, rfl, k1, k2⟩)
      exact ⟨he, hb⟩
    · obtain ⟨rfl, rfl⟩ := sfb_uniq h.out (.inr ⟨rfl, rfl, k⟩)
      exact ⟨he, hb⟩
set_option maxHeartbeats 4000000 in
theorem lines_b (s : ByteArray)  (w : World) (hz : s.size ≤ 9223372036854775807) {c i : Int} (h : Hid (SFB s c i)) :
    Calls Tryd.prog 8 #[.string s] w fun e w' => e = .returned (.tuple #[.int .i64 0, flt c i]) ∧ Below w.heap.size w w' := by
  have hc1 : 1 ≤ c ∧ c ≤ 6 := h.out.code
  go_enter Tryd.func8, Tryd.ntmps8
  go_wp2_with fail
  refine (check_b s _ hz h).mono ?_
  rintro e w1 ⟨rfl, hb1⟩
  have P6 : Bk2 w1 w.heap.size (.int .i64 0) (.int .i64 0) := (Bk2.newAt w _ rfl _ _ _).below hb1 (by simp)
  have s1 : w.heap.size + 1 ≤ w1.heap.size := by have := hb1.size; simpa using this
  have E1 : Below w.heap.size w w1 := ((Below.refl _ _).alloc (Nat.le_refl _) _).trans (hb1.mono (by simp))
  clear hb1
  have lt6 := P6.lt
  have z0 : w1.cell? ⟨w.heap.size, 0, none⟩ = some (.int .i64 0) := P6.c0
  have z1 : w1.cell? ⟨w.heap.size, 1, none⟩ = some (.int .i64 0) := P6.c1
  have z2 : w1.frozen? ⟨w.heap.size, 0, none⟩ = false := P6.z0
  have z3 : w1.frozen? ⟨w.heap.size, 1, none⟩ = false := P6.z1
  have d1 : (c != 0) = true := by rw [bne_iff_ne]; omega
  go_upto_region 3 with fail
  clear d1
  obtain ⟨V, hV⟩ : ∃ V, V = w1.alloc (.cells #[.int .i64 c, .int .i64 i] 24) := ⟨_, rfl⟩
  have F7 : Bk2 V w1.heap.size (.int .i64 c) (.int .i64 i) := by rw [hV]; exact Bk2.newAt _ _ rfl _ _ _
  have P6v : Bk2 V w.heap.size (.int .i64 0) (.int .i64 0) := by rw [hV]; exact P6.alloc _
  have EV : Below w.heap.size w V := by rw [hV]; exact E1.alloc (by omega) _
  rw [← hV]
  clear hV z0 z1 z2 z3 P6 E1
  have ltF := F7.lt
  obtain ⟨y0, y1, y2, y3, lt6v⟩ := P6v
  obtain ⟨x0, x1, _, _, _⟩ := F7
  go_region
  go_wp2
  refine bodyPost_ret (v := .tuple #[.int .i64 0, flt c i]) (by simp [results, Tryd.results8, go_sem, y0, y1]) rfl ⟨rfl, ?_⟩
  exact (by (repeat (first | with_reducible exact EV | with_reducible refine Below.drew ?_ | with_reducible refine below_drewN ?_ _ | with_reducible refine Below.setCell ?_ (by first | (simp; done) | (simp; omega) | omega) _)))
set_option maxHeartbeats 4000000 in
theorem pos_b (s : ByteArray) (o : Int) (w : World) (hz : s.size ≤ 9223372036854775807) {c i : Int} (h : Hid (SFB s c i)) :
    Calls Tryd.prog 12 #[.string s, .int .i64 o] w fun e w' => e = .returned (.tuple #[.int .i64 0, .int .i64 0, flt c i]) ∧ Below w.heap.size w w' := by
  have hc1 : 1 ≤ c ∧ c ≤ 6 := h.out.code
  go_enter Tryd.func12, Tryd.ntmps12
  go_wp2_with fail
  refine (check_b s _ hz h).mono ?_
  rintro e w1 ⟨rfl, hb1⟩
  have P6 : Bk2 w1 w.heap.size (.int .i64 0) (.int .i64 0) := (Bk2.newAt w _ rfl _ _ _).below hb1 (by simp)
  have s1 : w.heap.size + 1 ≤ w1.heap.size := by have := hb1.size; simpa using this
  have E1 : Below w.heap.size w w1 := ((Below.refl _ _).alloc (Nat.le_refl _) _).trans (hb1.mono (by simp))
  clear hb1
  have lt6 := P6.lt
  have z0 : w1.cell? ⟨w.heap.size, 0, none⟩ = some (.int .i64 0) := P6.c0
  have z1 : w1.cell? ⟨w.heap.size, 1, none⟩ = some (.int .i64 0) := P6.c1
  have z2 : w1.frozen? ⟨w.heap.size, 0, none⟩ = false := P6.z0
  have z3 : w1.frozen? ⟨w.heap.size, 1, none⟩ = false := P6.z1
  have d1 : (c != 0) = true := by rw [bne_iff_ne]; omega
  go_upto_region 3 with fail
  clear d1
  obtain ⟨V, hV⟩ : ∃ V, V = w1.alloc (.cells #[.int .i64 c, .int .i64 i] 24) := ⟨_, rfl⟩
  have F7 : Bk2 V w1.heap.size (.int .i64 c) (.int .i64 i) := by rw [hV]; exact Bk2.newAt _ _ rfl _ _ _
  have P6v : Bk2 V w.heap.size (.int .i64 0) (.int .i64 0) := by rw [hV]; exact P6.alloc _
  have EV : Below w.heap.size w V := by rw [hV]; exact E1.alloc (by omega) _
  rw [← hV]
  clear hV z0 z1 z2 z3 P6 E1
  have ltF := F7.lt
  obtain ⟨y0, y1, y2, y3, lt6v⟩ := P6v
  obtain ⟨x0, x1, _, _, _⟩ := F7
  go_region
  go_wp2
  refine bodyPost_ret (v := .tuple #[.int .i64 0, .int .i64 0, flt c i]) (by simp [results, Tryd.results12, go_sem, y0, y1]) rfl ⟨rfl, ?_⟩
  exact (by (repeat (first | with_reducible exact EV | with_reducible refine Below.drew ?_ | with_reducible refine below_drewN ?_ _ | with_reducible refine Below.setCell ?_ (by first | (simp; done) | (simp; omega) | omega) _)))
set_option maxHeartbeats 4000000 in
theorem find_b (s : ByteArray) (l : Int) (w : World) (hz : s.size ≤ 9223372036854775807) {c i : Int} (h : Hid (SFB s c i)) :
    Calls Tryd.prog 21 #[.string s, .int .i64 l] w fun e w' => e = .returned (.tuple #[.string ⟨#[]⟩, .int .i64 0, flt c i]) ∧ Below w.heap.size w w' := by
  have hc1 : 1 ≤ c ∧ c ≤ 6 := h.out.code
  go_enter Tryd.func21, Tryd.ntmps21
  go_wp2_with fail
  refine (check_b s _ hz h).mono ?_
  rintro e w1 ⟨rfl, hb1⟩
  have P6 : Bk2 w1 w.heap.size (.int .i64 0) (.int .i64 0) := (Bk2.newAt w _ rfl _ _ _).below hb1 (by simp)
  have s1 : w.heap.size + 1 ≤ w1.heap.size := by have := hb1.size; simpa using this
  have E1 : Below w.heap.size w w1 := ((Below.refl _ _).alloc (Nat.le_refl _) _).trans (hb1.mono (by simp))
  clear hb1
  have lt6 := P6.lt
  have z0 : w1.cell? ⟨w.heap.size, 0, none⟩ = some (.int .i64 0) := P6.c0
  have z1 : w1.cell? ⟨w.heap.size, 1, none⟩ = some (.int .i64 0) := P6.c1
  have z2 : w1.frozen? ⟨w.heap.size, 0, none⟩ = false := P6.z0
  have z3 : w1.frozen? ⟨w.heap.size, 1, none⟩ = false := P6.z1
  have d1 : (c != 0) = true := by rw [bne_iff_ne]; omega
  go_upto_region 3 with fail
  clear d1
  obtain ⟨V, hV⟩ : ∃ V, V = w1.alloc (.cells #[.int .i64 c, .int .i64 i] 24) := ⟨_, rfl⟩
  have F7 : Bk2 V w1.heap.size (.int .i64 c) (.int .i64 i) := by rw [hV]; exact Bk2.newAt _ _ rfl _ _ _
  have P6v : Bk2 V w.heap.size (.int .i64 0) (.int .i64 0) := by rw [hV]; exact P6.alloc _
  have EV : Below w.heap.size w V := by rw [hV]; exact E1.alloc (by omega) _
  rw [← hV]
  clear hV z0 z1 z2 z3 P6 E1
  have ltF := F7.lt
  obtain ⟨y0, y1, y2, y3, lt6v⟩ := P6v
  obtain ⟨x0, x1, _, _, _⟩ := F7
  go_region
  go_wp2
  refine bodyPost_ret (v := .tuple #[.string ⟨#[]⟩, .int .i64 0, flt c i]) (by simp [results, Tryd.results21, go_sem, y0, y1]) rfl ⟨rfl, ?_⟩
  exact (by (repeat (first | with_reducible exact EV | with_reducible refine Below.drew ?_ | with_reducible refine below_drewN ?_ _ | with_reducible refine Below.setCell ?_ (by first | (simp; done) | (simp; omega) | omega) _)))
set_option maxHeartbeats 4000000 in
theorem find_r (s : ByteArray) (l : Int) (w : World) (hs : s.size ≤ 16000) (hg : Hid (chkFrom s s.size 0 = none)) (hl : l < 1 ∨ ((nl s 0 s.size : Nat) : Int) + 1 < l) :
    Calls Tryd.prog 21 #[.string s, .int .i64 l] w fun e w' => e = .returned (.tuple #[.string ⟨#[]⟩, .int .i64 0, flt 4 (-2)]) ∧ Below w.heap.size w w' := by
  obtain ⟨T, hT⟩ : ∃ T, T = nl s 0 s.size := ⟨_, rfl⟩
  have HC := Lib.hid (show Lib.countByte s.data.toList 10 = T by rw [hT]; exact ct_all s)
  have t1 : T ≤ 16000 := by have := nl_le s 0 s.size; omega
  rw [← hT] at hl
  clear hT
  by_cases h1 : l < 1
  · have d1 : decide (l < 1) = true := decide_eq_true (by omega)
    clear hl
    go_enter Tryd.func21, Tryd.ntmps21
    go_wp2_with fail
    refine (check_good s _ hs hg).mono ?_
    rintro e w1 ⟨rfl, hb1⟩
    have P6 : Bk2 w1 w.heap.size (.int .i64 0) (.int .i64 0) := (Bk2.newAt w _ rfl _ _ _).below hb1 (by simp)
    have s1 : w.heap.size + 1 ≤ w1.heap.size := by have := hb1.size; simpa using this
    have E1 : Below w.heap.size w w1 := ((Below.refl _ _).alloc (Nat.le_refl _) _).trans (hb1.mono (by simp))
    clear hb1
    have lt6 := P6.lt
    have z0 : w1.cell? ⟨w.heap.size, 0, none⟩ = some (.int .i64 0) := P6.c0
    have z1 : w1.cell? ⟨w.heap.size, 1, none⟩ = some (.int .i64 0) := P6.c1
    have z2 : w1.frozen? ⟨w.heap.size, 0, none⟩ = false := P6.z0
    have z3 : w1.frozen? ⟨w.heap.size, 1, none⟩ = false := P6.z1
    go_wp2_with (go_at_call 20; refine (sct_any _ _).mono ?_; rintro e w' ⟨rfl, rfl⟩; rw [HC.out])
    obtain ⟨f0, f1, _, _, _⟩ := (P6.set (.int .i64 4) (.int .i64 (-2))).alloc (.cells #[.int .i64 0, .int .i64 0] 24)
    refine bodyPost_ret (v := .tuple #[.string ⟨#[]⟩, .int .i64 0, flt 4 (-2)]) (by simp [results, Tryd.results21, go_sem, f0, f1]) rfl ⟨rfl, ?_⟩
    exact (by (repeat (first | with_reducible exact E1 | with_reducible exact BN | with_reducible refine Below.drew ?_ | with_reducible refine below_drewN ?_ _ | with_reducible refine Below.setCell ?_ (by first | (simp; done) | (simp; omega) | omega) _ | with_reducible refine Below.alloc ?_ (by first | (simp; done) | (simp; omega) | omega) _)))
  · have d1 : decide (l < 1) = false := decide_eq_false (by omega)
    have d2 : decide ((T : Int) + 1 < l) = true := decide_eq_true (by omega)
    clear hl
    go_enter Tryd.func21, Tryd.ntmps21
    go_wp2_with fail
    refine (check_good s _ hs hg).mono ?_
    rintro e w1 ⟨rfl, hb1⟩
    have P6 : Bk2 w1 w.heap.size (.int .i64 0) (.int .i64 0) := (Bk2.newAt w _ rfl _ _ _).below hb1 (by simp)
    have s1 : w.heap.size + 1 ≤ w1.heap.size := by have := hb1.size; simpa using this
    have E1 : Below w.heap.size w w1 := ((Below.refl _ _).alloc (Nat.le_refl _) _).trans (hb1.mono (by simp))
    clear hb1
    have lt6 := P6.lt
    have z0 : w1.cell? ⟨w.heap.size, 0, none⟩ = some (.int .i64 0) := P6.c0
    have z1 : w1.cell? ⟨w.heap.size, 1, none⟩ = some (.int .i64 0) := P6.c1
    have z2 : w1.frozen? ⟨w.heap.size, 0, none⟩ = false := P6.z0
    have z3 : w1.frozen? ⟨w.heap.size, 1, none⟩ = false := P6.z1
    go_wp2_with (go_at_call 20; refine (sct_any _ _).mono ?_; rintro e w' ⟨rfl, rfl⟩; rw [HC.out])
    obtain ⟨f0, f1, _, _, _⟩ := (P6.set (.int .i64 4) (.int .i64 (-2))).alloc (.cells #[.int .i64 0, .int .i64 0] 24)
    refine bodyPost_ret (v := .tuple #[.string ⟨#[]⟩, .int .i64 0, flt 4 (-2)]) (by simp [results, Tryd.results21, go_sem, f0, f1]) rfl ⟨rfl, ?_⟩
    exact (by (repeat (first | with_reducible exact E1 | with_reducible exact BN | with_reducible refine Below.drew ?_ | with_reducible refine below_drewN ?_ _ | with_reducible refine Below.setCell ?_ (by first | (simp; done) | (simp; omega) | omega) _ | with_reducible refine Below.alloc ?_ (by first | (simp; done) | (simp; omega) | omega) _)))
set_option maxHeartbeats 4000000 in
theorem locate_f (s : ByteArray) (l k : Int) (w : World) {c i : Int} (h : 1 ≤ c ∧ c ≤ 6) (hf : ∀ w, Calls Tryd.prog 21 #[.string s, .int .i64 l] w fun e w' => e = .returned (.tuple #[.string ⟨#[]⟩, .int .i64 0, flt c i]) ∧ Below w.heap.size w w') :
    Calls Tryd.prog 27 #[.string s, .int .i64 l, .int .i64 k] w fun e w' => e = .returned (.tuple #[.string ⟨#[]⟩, .int .i64 0, flt c i]) ∧ Below w.heap.size w w' := by
  have hc1 : 1 ≤ c ∧ c ≤ 6 := h
  go_enter Tryd.func27, Tryd.ntmps27
  go_wp2_with fail
  refine (hf _).mono ?_
  rintro e w1 ⟨rfl, hb1⟩
  have P6 : Bk2 w1 w.heap.size (.int .i64 0) (.int .i64 0) := (Bk2.newAt w _ rfl _ _ _).below hb1 (by simp)
  have s1 : w.heap.size + 1 ≤ w1.heap.size := by have := hb1.size; simpa using this
  have E1 : Below w.heap.size w w1 := ((Below.refl _ _).alloc (Nat.le_refl _) _).trans (hb1.mono (by simp))
  clear hb1
  have lt6 := P6.lt
  have z0 : w1.cell? ⟨w.heap.size, 0, none⟩ = some (.int .i64 0) := P6.c0
  have z1 : w1.cell? ⟨w.heap.size, 1, none⟩ = some (.int .i64 0) := P6.c1
  have z2 : w1.frozen? ⟨w.heap.size, 0, none⟩ = false := P6.z0
  have z3 : w1.frozen? ⟨w.heap.size, 1, none⟩ = false := P6.z1
  have d1 : (c != 0) = true := by rw [bne_iff_ne]; omega
  go_upto_region 3 with fail
  clear d1
  obtain ⟨V, hV⟩ : ∃ V, V = w1.alloc (.cells #[.int .i64 c, .int .i64 i] 24) := ⟨_, rfl⟩
  have F7 : Bk2 V w1.heap.size (.int .i64 c) (.int .i64 i) := by rw [hV]; exact Bk2.newAt _ _ rfl _ _ _
  have P6v : Bk2 V w.heap.size (.int .i64 0) (.int .i64 0) := by rw [hV]; exact P6.alloc _
  have EV : Below w.heap.size w V := by rw [hV]; exact E1.alloc (by omega) _
  rw [← hV]
  clear hV z0 z1 z2 z3 P6 E1
  have ltF := F7.lt
  obtain ⟨y0, y1, y2, y3, lt6v⟩ := P6v
  obtain ⟨x0, x1, _, _, _⟩ := F7
  go_region
  go_wp2
  refine bodyPost_ret (v := .tuple #[.string ⟨#[]⟩, .int .i64 0, flt c i]) (by simp [results, Tryd.results27, go_sem, y0, y1]) rfl ⟨rfl, ?_⟩
  exact (by (repeat (first | with_reducible exact EV | with_reducible refine Below.drew ?_ | with_reducible refine below_drewN ?_ _ | with_reducible refine Below.setCell ?_ (by first | (simp; done) | (simp; omega) | omega) _)))
set_option maxHeartbeats 4000000 in
theorem locate_r (s : ByteArray) (j : Nat) (k : Int) (w : World) (hs : s.size ≤ 16000) (hg : Hid (chkFrom s s.size 0 = none)) (hj : Hid (j ≤ nl s 0 s.size)) (hk : Hid (∀ b t, LB s j b → LE s b t → k < 1 ∨ ((nb s b (t - b) : Nat) : Int) + 1 < k)) :
    Calls Tryd.prog 27 #[.string s, .int .i64 ((j : Int) + 1), .int .i64 k] w fun e w' => e = .returned (.tuple #[.string ⟨#[]⟩, .int .i64 0, flt 4 (-3)]) ∧ Below w.heap.size w w' := by
  have G := Lib.hid (good_of hg.out)
  go_enter Tryd.func27, Tryd.ntmps27
  go_wp2_with fail
  refine (find_ok s j _ hs hg hj).mono ?_
  rintro e w1 ⟨b, t, hLB, hLE, rfl, hb1⟩
  have P6 : Bk2 w1 w.heap.size (.int .i64 0) (.int .i64 0) := (Bk2.newAt w _ rfl _ _ _).below hb1 (by simp)
  have s1 : w.heap.size + 1 ≤ w1.heap.size := by have := hb1.size; simpa using this
  have E1 : Below w.heap.size w w1 := ((Below.refl _ _).alloc (Nat.le_refl _) _).trans (hb1.mono (by simp))
  clear hb1
  have lt6 := P6.lt
  have z0 : w1.cell? ⟨w.heap.size, 0, none⟩ = some (.int .i64 0) := P6.c0
  have z1 : w1.cell? ⟨w.heap.size, 1, none⟩ = some (.int .i64 0) := P6.c1
  have z2 : w1.frozen? ⟨w.heap.size, 0, none⟩ = false := P6.z0
  have z3 : w1.frozen? ⟨w.heap.size, 1, none⟩ = false := P6.z1
  have HR := Lib.hid (rc_part G.out (lb_bd G.out hLB) (le_bd hLE) hLE.1)
  have hk2 := hk.out b t hLB hLE
  have hle := nb_le s b (t - b)
  obtain ⟨M, hM⟩ : ∃ M, M = nb s b (t - b) := ⟨_, rfl⟩
  rw [← hM] at HR hk2 hle
  have b1 : b ≤ t := hLE.1
  have b2 : t ≤ s.size := hLE.2.1
  obtain ⟨C, hC⟩ : ∃ C, C = s.extract b t := ⟨_, rfl⟩
  rw [← hC] at HR ⊢
  have szC : C.size ≤ 16000 := by rw [hC, ByteArray.size_extract]; omega
  have m1 : M ≤ 16000 := by omega
  clear hLB hLE hM hC hle
  by_cases h1 : k < 1
  · have d1 : decide (k < 1) = true := decide_eq_true (by omega)
    clear hk2 h1
    go_wp2_with fail
    obtain ⟨f0, f1, _, _, _⟩ := (P6.set (.int .i64 4) (.int .i64 (-3))).alloc (.cells #[.int .i64 0, .int .i64 0] 24)
    refine bodyPost_ret (v := .tuple #[.string ⟨#[]⟩, .int .i64 0, flt 4 (-3)]) (by simp [results, Tryd.results27, go_sem, f0, f1]) rfl ⟨rfl, ?_⟩
    exact (by (repeat (first | with_reducible exact E1 | with_reducible exact BN | with_reducible refine Below.drew ?_ | with_reducible refine below_drewN ?_ _ | with_reducible refine Below.setCell ?_ (by first | (simp; done) | (simp; omega) | omega) _ | with_reducible refine Below.alloc ?_ (by first | (simp; done) | (simp; omega) | omega) _)))
  · have d1 : decide (k < 1) = false := decide_eq_false (by omega)
    have d2 : decide ((M : Int) + 1 < k) = true := decide_eq_true (by omega)
    clear hk2 h1
    go_wp2_with (go_at_call 26; (with_reducible refine (rc_any C _ (by omega)).mono ?_); rw [HR.out]; rintro e w2 ⟨rfl, hb2⟩; have B12 : Below w1.heap.size w1 w2 := (by refine Below.trans ?_ (hb2.mono (by simp)); (repeat (first | with_reducible exact Below.refl _ _ | with_reducible refine Below.alloc ?_ (by first | (simp; done) | (simp; omega) | omega) _))); have P6q := P6.below B12 P6.lt; have BN := E1.trans (B12.mono (by omega)); obtain ⟨y0, y1, y2, y3, _⟩ := id P6q)
    obtain ⟨f0, f1, _, _, _⟩ := P6q.set (.int .i64 4) (.int .i64 (-3))
    refine bodyPost_ret (v := .tuple #[.string ⟨#[]⟩, .int .i64 0, flt 4 (-3)]) (by simp [results, Tryd.results27, go_sem, f0, f1]) rfl ⟨rfl, ?_⟩
    exact (by (repeat (first | with_reducible exact E1 | with_reducible exact BN | with_reducible refine Below.drew ?_ | with_reducible refine below_drewN ?_ _ | with_reducible refine Below.setCell ?_ (by first | (simp; done) | (simp; omega) | omega) _ | with_reducible refine Below.alloc ?_ (by first | (simp; done) | (simp; omega) | omega) _)))
set_option maxHeartbeats 4000000 in
theorem offset_f (s : ByteArray) (l k : Int) (w : World) {c i : Int} (h : 1 ≤ c ∧ c ≤ 6) (hf : ∀ w, Calls Tryd.prog 27 #[.string s, .int .i64 l, .int .i64 k] w fun e w' => e = .returned (.tuple #[.string ⟨#[]⟩, .int .i64 0, flt c i]) ∧ Below w.heap.size w w') :
    Calls Tryd.prog 15 #[.string s, .int .i64 l, .int .i64 k] w fun e w' => e = .returned (.tuple #[.int .i64 0, flt c i]) ∧ Below w.heap.size w w' := by
  have hc1 : 1 ≤ c ∧ c ≤ 6 := h
  go_enter Tryd.func15, Tryd.ntmps15
  go_wp2_with fail
  refine (hf _).mono ?_
  rintro e w1 ⟨rfl, hb1⟩
  have P6 : Bk2 w1 w.heap.size (.int .i64 0) (.int .i64 0) := (Bk2.newAt w _ rfl _ _ _).below hb1 (by simp)
  have s1 : w.heap.size + 1 ≤ w1.heap.size := by have := hb1.size; simpa using this
  have E1 : Below w.heap.size w w1 := ((Below.refl _ _).alloc (Nat.le_refl _) _).trans (hb1.mono (by simp))
  clear hb1
  have lt6 := P6.lt
  have z0 : w1.cell? ⟨w.heap.size, 0, none⟩ = some (.int .i64 0) := P6.c0
  have z1 : w1.cell? ⟨w.heap.size, 1, none⟩ = some (.int .i64 0) := P6.c1
  have z2 : w1.frozen? ⟨w.heap.size, 0, none⟩ = false := P6.z0
  have z3 : w1.frozen? ⟨w.heap.size, 1, none⟩ = false := P6.z1
  have d1 : (c != 0) = true := by rw [bne_iff_ne]; omega
  go_upto_region 3 with fail
  clear d1
  obtain ⟨V, hV⟩ : ∃ V, V = w1.alloc (.cells #[.int .i64 c, .int .i64 i] 24) := ⟨_, rfl⟩
  have F7 : Bk2 V w1.heap.size (.int .i64 c) (.int .i64 i) := by rw [hV]; exact Bk2.newAt _ _ rfl _ _ _
  have P6v : Bk2 V w.heap.size (.int .i64 0) (.int .i64 0) := by rw [hV]; exact P6.alloc _
  have EV : Below w.heap.size w V := by rw [hV]; exact E1.alloc (by omega) _
  rw [← hV]
  clear hV z0 z1 z2 z3 P6 E1
  have ltF := F7.lt
  obtain ⟨y0, y1, y2, y3, lt6v⟩ := P6v
  obtain ⟨x0, x1, _, _, _⟩ := F7
  go_region
  go_wp2
  refine bodyPost_ret (v := .tuple #[.int .i64 0, flt c i]) (by simp [results, Tryd.results15, go_sem, y0, y1]) rfl ⟨rfl, ?_⟩
  exact (by (repeat (first | with_reducible exact EV | with_reducible refine Below.drew ?_ | with_reducible refine below_drewN ?_ _ | with_reducible refine Below.setCell ?_ (by first | (simp; done) | (simp; omega) | omega) _)))
set_option maxHeartbeats 4000000 in
theorem pos_r (s : ByteArray) (o : Int) (w : World) (hs : s.size ≤ 16000) (hg : Hid (chkFrom s s.size 0 = none)) (h : o < 0 ∨ (s.size : Int) < o) :
    Calls Tryd.prog 12 #[.string s, .int .i64 o] w fun e w' => e = .returned (.tuple #[.int .i64 0, .int .i64 0, flt 4 (-2)]) ∧ Below w.heap.size w w' := by
  by_cases ho : o < 0
  · have d1 : decide (o < 0) = true := decide_eq_true ho
    clear h ho
    go_enter Tryd.func12, Tryd.ntmps12
    go_wp2_with fail
    refine (check_good s _ hs hg).mono ?_
    rintro e w1 ⟨rfl, hb1⟩
    have P6 : Bk2 w1 w.heap.size (.int .i64 0) (.int .i64 0) := (Bk2.newAt w _ rfl _ _ _).below hb1 (by simp)
    have s1 : w.heap.size + 1 ≤ w1.heap.size := by have := hb1.size; simpa using this
    have E1 : Below w.heap.size w w1 := ((Below.refl _ _).alloc (Nat.le_refl _) _).trans (hb1.mono (by simp))
    clear hb1
    have lt6 := P6.lt
    have z0 : w1.cell? ⟨w.heap.size, 0, none⟩ = some (.int .i64 0) := P6.c0
    have z1 : w1.cell? ⟨w.heap.size, 1, none⟩ = some (.int .i64 0) := P6.c1
    have z2 : w1.frozen? ⟨w.heap.size, 0, none⟩ = false := P6.z0
    have z3 : w1.frozen? ⟨w.heap.size, 1, none⟩ = false := P6.z1
    go_wp2
    obtain ⟨f0, f1, _, _, _⟩ := (P6.set (.int .i64 4) (.int .i64 (-2))).alloc (.cells #[.int .i64 0, .int .i64 0] 24)
    refine bodyPost_ret (v := .tuple #[.int .i64 0, .int .i64 0, flt 4 (-2)]) (by simp [results, Tryd.results12, go_sem, f0, f1]) rfl ⟨rfl, ?_⟩
    exact (by (repeat (first | with_reducible exact E1 | with_reducible exact BN | with_reducible refine Below.drew ?_ | with_reducible refine below_drewN ?_ _ | with_reducible refine Below.setCell ?_ (by first | (simp; done) | (simp; omega) | omega) _ | with_reducible refine Below.alloc ?_ (by first | (simp; done) | (simp; omega) | omega) _)))
  · have d1 : decide (o < 0) = false := decide_eq_false ho
    have d2 : decide ((s.size : Int) < o) = true := decide_eq_true (by omega)
    clear h ho
    go_enter Tryd.func12, Tryd.ntmps12
    go_wp2_with fail
    refine (check_good s _ hs hg).mono ?_
    rintro e w1 ⟨rfl, hb1⟩
    have P6 : Bk2 w1 w.heap.size (.int .i64 0) (.int .i64 0) := (Bk2.newAt w _ rfl _ _ _).below hb1 (by simp)
    have s1 : w.heap.size + 1 ≤ w1.heap.size := by have := hb1.size; simpa using this
    have E1 : Below w.heap.size w w1 := ((Below.refl _ _).alloc (Nat.le_refl _) _).trans (hb1.mono (by simp))
    clear hb1
    have lt6 := P6.lt
    have z0 : w1.cell? ⟨w.heap.size, 0, none⟩ = some (.int .i64 0) := P6.c0
    have z1 : w1.cell? ⟨w.heap.size, 1, none⟩ = some (.int .i64 0) := P6.c1
    have z2 : w1.frozen? ⟨w.heap.size, 0, none⟩ = false := P6.z0
    have z3 : w1.frozen? ⟨w.heap.size, 1, none⟩ = false := P6.z1
    go_wp2
    obtain ⟨f0, f1, _, _, _⟩ := (P6.set (.int .i64 4) (.int .i64 (-2))).alloc (.cells #[.int .i64 0, .int .i64 0] 24)
    refine bodyPost_ret (v := .tuple #[.int .i64 0, .int .i64 0, flt 4 (-2)]) (by simp [results, Tryd.results12, go_sem, f0, f1]) rfl ⟨rfl, ?_⟩
    exact (by (repeat (first | with_reducible exact E1 | with_reducible exact BN | with_reducible refine Below.drew ?_ | with_reducible refine below_drewN ?_ _ | with_reducible refine Below.setCell ?_ (by first | (simp; done) | (simp; omega) | omega) _ | with_reducible refine Below.alloc ?_ (by first | (simp; done) | (simp; omega) | omega) _)))
set_option maxHeartbeats 4000000 in
theorem pos_f (s : ByteArray) (o : Nat) (w : World) (hs : s.size ≤ 16000) (hg : Hid (chkFrom s s.size 0 = none)) (hlt : o < s.size) (h : Hid (by_ s o / 64 = 2)) :
    Calls Tryd.prog 12 #[.string s, .int .i64 (o : Int)] w fun e w' => e = .returned (.tuple #[.int .i64 0, .int .i64 0, flt 6 (-2)]) ∧ Below w.heap.size w w' := by
  have d1 : decide ((o : Int) < 0) = false := decide_eq_false (by omega)
  have d2 : decide ((s.size : Int) < (o : Int)) = false := decide_eq_false (by omega)
  have d3 : decide ((o : Int) < (s.size : Int)) = true := decide_eq_true (by omega)
  have i1 : (0 : Int) ≤ (o : Int) := by omega
  have i2 : (o : Int) < (s.size : Int) := by omega
  have HRS := Lib.hid (show decide (((s[o]'(by omega)).toNat : Int) / 64 ≠ 2) = false by
    have h9 := h.out
    have h8 : by_ s o = (s[o]'(by omega)).toNat := by unfold by_; rw [← get_at s o (by omega)]; rfl
    rw [h8] at h9
    exact decide_eq_false (by omega))
  go_enter Tryd.func12, Tryd.ntmps12
  go_wp2_with fail
  refine (check_good s _ hs hg).mono ?_
  rintro e w1 ⟨rfl, hb1⟩
  have P6 : Bk2 w1 w.heap.size (.int .i64 0) (.int .i64 0) := (Bk2.newAt w _ rfl _ _ _).below hb1 (by simp)
  have s1 : w.heap.size + 1 ≤ w1.heap.size := by have := hb1.size; simpa using this
  have E1 : Below w.heap.size w w1 := ((Below.refl _ _).alloc (Nat.le_refl _) _).trans (hb1.mono (by simp))
  clear hb1
  have lt6 := P6.lt
  have z0 : w1.cell? ⟨w.heap.size, 0, none⟩ = some (.int .i64 0) := P6.c0
  have z1 : w1.cell? ⟨w.heap.size, 1, none⟩ = some (.int .i64 0) := P6.c1
  have z2 : w1.frozen? ⟨w.heap.size, 0, none⟩ = false := P6.z0
  have z3 : w1.frozen? ⟨w.heap.size, 1, none⟩ = false := P6.z1
  go_wp2_with (go_at_call 24; refine (rst_any _ (by omega) (by have := (s[o]'(by omega)).toNat_lt; omega) _).mono ?_; rintro e w' ⟨rfl, rfl⟩; rw [HRS.out])
  obtain ⟨f0, f1, _, _, _⟩ := (P6.set (.int .i64 6) (.int .i64 (-2))).alloc (.cells #[.int .i64 0, .int .i64 0] 24)
  refine bodyPost_ret (v := .tuple #[.int .i64 0, .int .i64 0, flt 6 (-2)]) (by simp [results, Tryd.results12, go_sem, f0, f1]) rfl ⟨rfl, ?_⟩
  exact (by (repeat (first | with_reducible exact E1 | with_reducible exact BN | with_reducible refine Below.drew ?_ | with_reducible refine below_drewN ?_ _ | with_reducible refine Below.setCell ?_ (by first | (simp; done) | (simp; omega) | omega) _ | with_reducible refine Below.alloc ?_ (by first | (simp; done) | (simp; omega) | omega) _)))
end Go.Proofs.YtlohapafpgihaaaDoor
