/- Characters and lines of a text. -/
import Derived.Test.YtlohapafpgihaaaDoorWords
import Derived.WalkSpells
import Derived.WalkLawsBesides
import Derived.Deep.QuietTactic
import Derived.BigQuiet
import Derived.Lib.Walk
import Derived.IntWalk
import Derived.LoopTactic
import Derived.Laws.RangeAny
import Derived.Lib.LastIndexByte
import Derived.Lib.RuneCount
import Derived.Lib.Bytealg
import Derived.Lib.IndexLaws
import Derived.Below
namespace Go.Proofs.YtlohapafpgihaaaDoor
open Go.RowKit
set_option maxHeartbeats 400000
set_option maxRecDepth 100000
set_option linter.unusedSimpArgs false
set_option linter.unusedVariables false

/-- A byte as a number. -/
def by_ (s : ByteArray) (i : Nat) : Nat := (s.get! i).toNat
theorem by_lt (s : ByteArray) (i : Nat) : by_ s i < 256 := (s.get! i).toNat_lt
/-- What decode is, case by case: a byte below 128, a wrong one, or two to four bytes. -/
theorem dec_parts (s : ByteArray) (p : Nat) (h : p < s.size) :
    (by_ s p < 128 ∧ Utf8.decode s p = (by_ s p, 1)) ∨ (128 ≤ by_ s p ∧ Utf8.decode s p = (65533, 1)) ∨
    (∃ n, 2 ≤ n ∧ n ≤ 4 ∧ 192 ≤ by_ s p ∧ (Utf8.decode s p).2 = n ∧ 128 ≤ (Utf8.decode s p).1 ∧ p + n ≤ s.size ∧ (∀ j, 0 < j → j < n → by_ s (p + j) / 64 = 2) ∧
      ∀ (t : ByteArray) (q : Nat), q + n ≤ t.size → (∀ j, j < n → by_ t (q + j) = by_ s (p + j)) → Utf8.decode t q = Utf8.decode s p) := by
  have e0 : by_ s (p + 0) = by_ s p := rfl
  by_cases h0 : by_ s p < 128
  · left
    refine ⟨h0, ?_⟩
    simp only [Utf8.decode]
    show (if by_ s (p + 0) < 128 then _ else _) = _
    rw [if_pos (by omega)]
    rfl
  · right
    have d : ∀ (t : ByteArray) (q : Nat), 128 ≤ by_ t q → Utf8.decode t q = (if (by_ t q / 32 == 6 && (decide (q + 1 < t.size) && by_ t (q + 1) / 64 == 2)) = true then (if by_ t q % 32 * 64 + by_ t (q + 1) % 64 ≥ 128 then (by_ t q % 32 * 64 + by_ t (q + 1) % 64, 2) else (65533, 1))
        else if (by_ t q / 16 == 14 && (decide (q + 1 < t.size) && by_ t (q + 1) / 64 == 2) && (decide (q + 2 < t.size) && by_ t (q + 2) / 64 == 2)) = true then (if (decide (by_ t q % 16 * 4096 + by_ t (q + 1) % 64 * 64 + by_ t (q + 2) % 64 ≥ 2048) && Utf8.valid ((by_ t q % 16 * 4096 + by_ t (q + 1) % 64 * 64 + by_ t (q + 2) % 64 : Nat) : Int)) = true then (by_ t q % 16 * 4096 + by_ t (q + 1) % 64 * 64 + by_ t (q + 2) % 64, 3) else (65533, 1))
        else if (by_ t q / 8 == 30 && (decide (q + 1 < t.size) && by_ t (q + 1) / 64 == 2) && (decide (q + 2 < t.size) && by_ t (q + 2) / 64 == 2) && (decide (q + 3 < t.size) && by_ t (q + 3) / 64 == 2)) = true then (if (decide (by_ t q % 8 * 262144 + by_ t (q + 1) % 64 * 4096 + by_ t (q + 2) % 64 * 64 + by_ t (q + 3) % 64 ≥ 65536) && Utf8.valid ((by_ t q % 8 * 262144 + by_ t (q + 1) % 64 * 4096 + by_ t (q + 2) % 64 * 64 + by_ t (q + 3) % 64 : Nat) : Int)) = true then (by_ t q % 8 * 262144 + by_ t (q + 1) % 64 * 4096 + by_ t (q + 2) % 64 * 64 + by_ t (q + 3) % 64, 4) else (65533, 1))
        else (65533, 1)) := by
      intro t q hq
      simp only [Utf8.decode]
      show (if by_ t (q + 0) < 128 then _ else _) = _
      rw [if_neg (by show ¬ by_ t q < 128; omega)]
      rfl
    have hh : 128 ≤ by_ s p := by omega
    have ds := d s p hh
    by_cases c2 : (by_ s p / 32 == 6 && (decide (p + 1 < s.size) && by_ s (p + 1) / 64 == 2)) = true
    · rw [if_pos c2] at ds
      simp only [Bool.and_eq_true, beq_iff_eq, decide_eq_true_eq] at c2
      obtain ⟨k1, k2, k3⟩ := c2
      by_cases g : by_ s p % 32 * 64 + by_ s (p + 1) % 64 ≥ 128
      · rw [if_pos g] at ds
        right
        refine ⟨2, by omega, by omega, by omega, by rw [ds], by rw [ds]; exact g, by omega, fun j h1 h2 => by obtain rfl : j = 1 := (by omega); exact k3, fun t q h1 h2 => ?_⟩
        have a0 := h2 0 (by omega)
        have a1 := h2 1 (by omega)
        have a0' : by_ t q = by_ s p := a0
        rw [d t q (by omega), if_pos (by simp only [Bool.and_eq_true, beq_iff_eq, decide_eq_true_eq]; rw [a0', a1]; exact ⟨k1, by omega, k3⟩), a0', a1, if_pos g, ds]
      · rw [if_neg g] at ds
        exact .inl ⟨hh, ds⟩
    · rw [if_neg c2] at ds
      by_cases c3 : (by_ s p / 16 == 14 && (decide (p + 1 < s.size) && by_ s (p + 1) / 64 == 2) && (decide (p + 2 < s.size) && by_ s (p + 2) / 64 == 2)) = true
      · rw [if_pos c3] at ds
        have c3' := c3
        simp only [Bool.and_eq_true, beq_iff_eq, decide_eq_true_eq] at c3
        obtain ⟨⟨k1, k2, k3⟩, k4, k5⟩ := c3
        by_cases g : (decide (by_ s p % 16 * 4096 + by_ s (p + 1) % 64 * 64 + by_ s (p + 2) % 64 ≥ 2048) && Utf8.valid ((by_ s p % 16 * 4096 + by_ s (p + 1) % 64 * 64 + by_ s (p + 2) % 64 : Nat) : Int)) = true
        · rw [if_pos g] at ds
          right
          have g1 : by_ s p % 16 * 4096 + by_ s (p + 1) % 64 * 64 + by_ s (p + 2) % 64 ≥ 2048 := by simp only [Bool.and_eq_true, decide_eq_true_eq] at g; exact g.1
          refine ⟨3, by omega, by omega, by omega, by rw [ds], by rw [ds]; show 128 ≤ by_ s p % 16 * 4096 + by_ s (p + 1) % 64 * 64 + by_ s (p + 2) % 64; omega, by omega, fun j h1 h2 => by rcases (show j = 1 ∨ j = 2 by omega) with rfl | rfl; exact k3; exact k5, fun t q h1 h2 => ?_⟩
          have a0 : by_ t q = by_ s p := h2 0 (by omega)
          have a1 := h2 1 (by omega)
          have a2 := h2 2 (by omega)
          rw [d t q (by omega), if_neg (by simp only [Bool.and_eq_true, beq_iff_eq, decide_eq_true_eq]; rw [a0]; omega), if_pos (by simp only [Bool.and_eq_true, beq_iff_eq, decide_eq_true_eq]; rw [a0, a1, a2]; exact ⟨⟨k1, by omega, k3⟩, by omega, k5⟩), a0, a1, a2, if_pos g, ds]
        · rw [if_neg g] at ds
          exact .inl ⟨hh, ds⟩
      · rw [if_neg c3] at ds
        by_cases c4 : (by_ s p / 8 == 30 && (decide (p + 1 < s.size) && by_ s (p + 1) / 64 == 2) && (decide (p + 2 < s.size) && by_ s (p + 2) / 64 == 2) && (decide (p + 3 < s.size) && by_ s (p + 3) / 64 == 2)) = true
        · rw [if_pos c4] at ds
          simp only [Bool.and_eq_true, beq_iff_eq, decide_eq_true_eq] at c4
          obtain ⟨⟨⟨k1, k2, k3⟩, k4, k5⟩, k6, k7⟩ := c4
          by_cases g : (decide (by_ s p % 8 * 262144 + by_ s (p + 1) % 64 * 4096 + by_ s (p + 2) % 64 * 64 + by_ s (p + 3) % 64 ≥ 65536) && Utf8.valid ((by_ s p % 8 * 262144 + by_ s (p + 1) % 64 * 4096 + by_ s (p + 2) % 64 * 64 + by_ s (p + 3) % 64 : Nat) : Int)) = true
          · rw [if_pos g] at ds
            right
            have g1 : by_ s p % 8 * 262144 + by_ s (p + 1) % 64 * 4096 + by_ s (p + 2) % 64 * 64 + by_ s (p + 3) % 64 ≥ 65536 := by simp only [Bool.and_eq_true, decide_eq_true_eq] at g; exact g.1
            refine ⟨4, by omega, by omega, by omega, by rw [ds], by rw [ds]; show 128 ≤ by_ s p % 8 * 262144 + by_ s (p + 1) % 64 * 4096 + by_ s (p + 2) % 64 * 64 + by_ s (p + 3) % 64; omega, by omega, fun j h1 h2 => by rcases (show j = 1 ∨ j = 2 ∨ j = 3 by omega) with rfl | rfl | rfl; exact k3; exact k5; exact k7, fun t q h1 h2 => ?_⟩
            have a0 : by_ t q = by_ s p := h2 0 (by omega)
            have a1 := h2 1 (by omega)
            have a2 := h2 2 (by omega)
            have a3 := h2 3 (by omega)
            rw [d t q (by omega), if_neg (by simp only [Bool.and_eq_true, beq_iff_eq, decide_eq_true_eq]; rw [a0]; omega), if_neg (by simp only [Bool.and_eq_true, beq_iff_eq, decide_eq_true_eq]; rw [a0]; omega), if_pos (by simp only [Bool.and_eq_true, beq_iff_eq, decide_eq_true_eq]; rw [a0, a1, a2, a3]; exact ⟨⟨⟨k1, by omega, k3⟩, by omega, k5⟩, by omega, k7⟩), a0, a1, a2, a3, if_pos g, ds]
          · rw [if_neg g] at ds
            exact .inl ⟨hh, ds⟩
        · rw [if_neg c4] at ds
          exact .inl ⟨hh, ds⟩
/-- The bytes EF BF BD are decoded as three. -/
theorem dec_rep (s : ByteArray) (p : Nat) (h : p + 3 ≤ s.size) (h0 : by_ s p = 239) (h1 : by_ s (p + 1) = 191) (h2 : by_ s (p + 2) = 189) : (Utf8.decode s p).2 = 3 := by
  rcases dec_parts s p (by omega) with ⟨k, _⟩ | ⟨_, k⟩ | ⟨n, a, b, c, e, _, f, g, _⟩
  · omega
  · exfalso
    simp only [Utf8.decode] at k
    have e0 : (s.get! (p + 0)).toNat = 239 := h0
    have e1 : (s.get! (p + 1)).toNat = 191 := h1
    have e2 : (s.get! (p + 2)).toNat = 189 := h2
    simp only [e0, e1, e2] at k
    simp [show p + 1 < s.size by omega, show p + 2 < s.size by omega, Utf8.valid] at k
  · have e0 : (s.get! (p + 0)).toNat = 239 := h0
    have e1 : (s.get! (p + 1)).toNat = 191 := h1
    have e2 : (s.get! (p + 2)).toNat = 189 := h2
    simp only [Utf8.decode, e0, e1, e2]
    simp [show p + 1 < s.size by omega, show p + 2 < s.size by omega, Utf8.valid]
/-- Where a character may begin. -/
def Bd (s : ByteArray) (p : Nat) : Prop := p ≤ s.size ∧ (p < s.size → by_ s p / 64 ≠ 2)
/-- A permitted character of n bytes. -/
structure GA (s : ByteArray) (p n : Nat) : Prop where
  n1 : 1 ≤ n
  le : p + n ≤ s.size
  dec : (Utf8.decode s p).2 = n
  st : by_ s p / 64 ≠ 2
  ct : ∀ j, 0 < j → j < n → by_ s (p + j) / 64 = 2
  one : by_ s p < 128 → n = 1
  same : ∀ (t : ByteArray) (q : Nat), q + n ≤ t.size → (∀ j, j < n → by_ t (q + j) = by_ s (p + j)) → Utf8.decode t q = Utf8.decode s p
def Good (s : ByteArray) : Prop := Bd s 0 ∧ ∀ p, p < s.size → Bd s p → ∃ n, GA s p n ∧ Bd s (p + n)
/-- The character that stands for wrong bytes, written out. -/
def repB (s : ByteArray) (p : Nat) : Bool := decide (p + 3 ≤ s.size) && by_ s p == 239 && by_ s (p + 1) == 191 && by_ s (p + 2) == 189
def badB (s : ByteArray) (p : Nat) : Bool := (decide ((Utf8.decode s p).1 < 32) && !((Utf8.decode s p).1 == 10)) || ((Utf8.decode s p).1 == 65533 && !repB s p)
def chkFrom (s : ByteArray) : Nat → Nat → Option Nat
  | 0, _ => none
  | f + 1, p => if p < s.size then (if badB s p then some p else chkFrom s f (p + (Utf8.decode s p).2)) else none
theorem ga_of {s : ByteArray} {p : Nat} (h : p < s.size) (hb : badB s p = false) : ∃ n, GA s p n := by
  unfold badB at hb
  simp only [Bool.or_eq_false_iff, Bool.and_eq_false_iff, Bool.not_eq_false', decide_eq_false_iff_not, beq_eq_false_iff_ne, beq_iff_eq] at hb
  rcases dec_parts s p h with ⟨h0, hd⟩ | ⟨h0, hd⟩ | ⟨n, h2, h4, hs, hd, _, hl, hc, hsame⟩
  · refine ⟨1, by omega, by omega, by rw [hd], by omega, fun j h1 h2 => by omega, fun _ => rfl, fun t q h1 h2 => ?_⟩
    have a0 : by_ t q = by_ s p := h2 0 (by omega)
    rcases dec_parts t q (by omega) with ⟨k0, kd⟩ | ⟨k0, _⟩ | ⟨_, _, _, k0, _⟩
    · rw [kd, hd, a0]
    · omega
    · omega
  · exfalso
    rcases hb.2 with h1 | h1
    · exact h1 (by rw [hd])
    · unfold repB at h1
      simp only [Bool.and_eq_true, decide_eq_true_eq, beq_iff_eq] at h1
      have := dec_rep s p h1.1.1.1 h1.1.1.2 h1.1.2 h1.2
      rw [hd] at this
      cases this
  · exact ⟨n, by omega, hl, hd, by omega, hc, fun h => by omega, hsame⟩
theorem good_from {s : ByteArray} : ∀ (f pos : Nat), s.size ≤ pos + f → pos ≤ s.size → chkFrom s f pos = none → Bd s pos ∧ ∀ p, pos ≤ p → p < s.size → Bd s p → ∃ n, GA s p n ∧ Bd s (p + n)
  | 0, pos, h1, h2, _ => ⟨⟨h2, fun h => by omega⟩, fun p h3 h4 => by omega⟩
  | f + 1, pos, h1, h2, hc => by
    unfold chkFrom at hc
    by_cases hp : pos < s.size
    · rw [if_pos hp] at hc
      cases hb : badB s pos
      · rw [hb, if_neg (by decide)] at hc
        obtain ⟨n, g⟩ := ga_of hp hb
        rw [g.dec] at hc
        have n1 := g.n1
        obtain ⟨i1, i2⟩ := good_from f (pos + n) (by omega) g.le hc
        refine ⟨⟨h2, fun _ => g.st⟩, fun p h3 h4 h5 => ?_⟩
        rcases Nat.lt_or_ge p (pos + n) with h6 | h6
        · rcases Nat.eq_or_lt_of_le h3 with e | e
          · subst e; exact ⟨n, g, i1⟩
          · exfalso
            have h7 := g.ct (p - pos) (by omega) (by omega)
            rw [show pos + (p - pos) = p by omega] at h7
            exact h5.2 h4 h7
        · exact i2 p h6 h4 h5
      · rw [hb, if_pos rfl] at hc
        cases hc
    · exact ⟨⟨h2, fun h => absurd h hp⟩, fun p h3 h4 => by omega⟩
theorem good_of {s : ByteArray} (h : chkFrom s s.size 0 = none) : Good s := by
  obtain ⟨h1, h2⟩ := good_from s.size 0 (by omega) (by omega) h
  exact ⟨h1, fun p h3 h4 => h2 p (by omega) h3 h4⟩
/-- How many characters begin in k bytes from a on. -/
def nb (s : ByteArray) (a : Nat) : Nat → Nat
  | 0 => 0
  | k + 1 => nb s a k + if by_ s (a + k) / 64 = 2 then 0 else 1
/-- How many line feeds there are. -/
def nl (s : ByteArray) (a : Nat) : Nat → Nat
  | 0 => 0
  | k + 1 => nl s a k + if by_ s (a + k) = 10 then 1 else 0
theorem nb_succ (s : ByteArray) (a k : Nat) : nb s a (k + 1) = nb s a k + if by_ s (a + k) / 64 = 2 then 0 else 1 := rfl
theorem nl_succ (s : ByteArray) (a k : Nat) : nl s a (k + 1) = nl s a k + if by_ s (a + k) = 10 then 1 else 0 := rfl
theorem nb_add (s : ByteArray) (a k : Nat) : ∀ j, nb s a (k + j) = nb s a k + nb s (a + k) j
  | 0 => rfl
  | j + 1 => by rw [← Nat.add_assoc, nb_succ, nb_succ, nb_add s a k j, Nat.add_assoc a k j, Nat.add_assoc]
theorem nl_add (s : ByteArray) (a k : Nat) : ∀ j, nl s a (k + j) = nl s a k + nl s (a + k) j
  | 0 => rfl
  | j + 1 => by rw [← Nat.add_assoc, nl_succ, nl_succ, nl_add s a k j, Nat.add_assoc a k j, Nat.add_assoc]
theorem nb_cont {s : ByteArray} {a : Nat} : ∀ k, (∀ j, j < k → by_ s (a + j) / 64 = 2) → nb s a k = 0
  | 0, _ => rfl
  | k + 1, h => by
    show nb s a k + _ = 0
    rw [nb_cont k (fun j hj => h j (by omega)), if_pos (h k (by omega))]
theorem nb_one {s : ByteArray} {p n : Nat} (g : GA s p n) : nb s p n = 1 := by
  have n1 := g.n1
  obtain ⟨m, rfl⟩ : ∃ m, n = 1 + m := ⟨n - 1, by omega⟩
  rw [nb_add, nb_cont m (fun j hj => by have := g.ct (1 + j) (by omega) (by omega); rw [← Nat.add_assoc] at this; exact this)]
  show 0 + (if by_ s p / 64 = 2 then 0 else 1) + 0 = 1
  rw [if_neg g.st]
theorem nl_none {s : ByteArray} {a : Nat} : ∀ k, (∀ j, j < k → by_ s (a + j) ≠ 10) → nl s a k = 0
  | 0, _ => rfl
  | k + 1, h => by
    show nl s a k + _ = 0
    rw [nl_none k (fun j hj => h j (by omega)), if_neg (h k (by omega))]
/-- A character does not reach beyond a place where one begins. -/
theorem ga_le {s : ByteArray} {p n e : Nat} (g : GA s p n) (he : Bd s e) (h : p < e) : p + n ≤ e := by
  rcases Nat.lt_or_ge e (p + n) with h1 | h1
  · exfalso
    have h2 := g.ct (e - p) (by omega) (by omega)
    rw [show p + (e - p) = e by omega] at h2
    exact he.2 (by have := g.le; omega) h2
  · exact h1
theorem nb_pos {s : ByteArray} {p k : Nat} (h : by_ s p / 64 ≠ 2) (hk : 0 < k) : 0 < nb s p k := by
  obtain ⟨m, rfl⟩ : ∃ m, k = 1 + m := ⟨k - 1, by omega⟩
  rw [nb_add]
  have : nb s p 1 = 1 := by show 0 + (if by_ s p / 64 = 2 then 0 else 1) = 1; rw [if_neg h]
  omega
/-- The bytes of a part. -/
theorem by_ext {s : ByteArray} {a e j : Nat} (h : a + j < e) (he : e ≤ s.size) : by_ (s.extract a e) j = by_ s (a + j) := by
  show (s.extract a e).data[j]!.toNat = s.data[a + j]!.toNat
  have h1 : j < (s.extract a e).size := by rw [ByteArray.size_extract]; omega
  have h2 : a + j < s.size := by omega
  have h1' : j < (s.extract a e).data.size := h1
  have h2' : a + j < s.data.size := h2
  rw [getElem!_pos (s.extract a e).data j h1', getElem!_pos s.data (a + j) h2']
  exact congrArg UInt8.toNat (ByteArray.getElem_extract (b := s) (start := a) (stop := e) (i := j) (h := h1))
theorem rc_from {s : ByteArray} {a e : Nat} (G : Good s) (he : Bd s e) (hae : a ≤ e) : ∀ (f p : Nat), a ≤ p → p ≤ e → e - p ≤ f → Bd s p → Lib.runeCountFrom (s.extract a e) f (p - a) = nb s p (e - p)
  | 0, p, h1, h2, h3, _ => by
    rw [show e - p = 0 by omega]; rfl
  | f + 1, p, h1, h2, h3, hp => by
    have hs : (s.extract a e).size = e - a := by rw [ByteArray.size_extract]; have := he.1; omega
    unfold Lib.runeCountFrom
    by_cases hlt : p < e
    · rw [if_pos (by omega)]
      obtain ⟨n, g, hn⟩ := G.2 p (by have := he.1; omega) hp
      have hle := ga_le g he hlt
      have n1 := g.n1
      have hd : Utf8.decode (s.extract a e) (p - a) = Utf8.decode s p := g.same _ _ (by omega) (fun j hj => by rw [by_ext (by omega) he.1]; congr 1; omega)
      rw [hd, g.dec, show p - a + n = p + n - a by omega, rc_from G he hae f (p + n) (by omega) hle (by omega) hn]
      have h8 := nb_add s p n (e - (p + n))
      rw [nb_one g, show n + (e - (p + n)) = e - p by omega] at h8
      exact h8.symm
    · rw [if_neg (by omega), show e - p = 0 by omega]; rfl
/-- The number of characters of a part. -/
theorem rc_part {s : ByteArray} {a e : Nat} (G : Good s) (ha : Bd s a) (he : Bd s e) (hae : a ≤ e) : Lib.runeCount (s.extract a e) = nb s a (e - a) := by
  have hs : (s.extract a e).size = e - a := by rw [ByteArray.size_extract]; have := he.1; omega
  have := rc_from G he hae (s.extract a e).size a (Nat.le_refl _) hae (by omega) ha
  rw [Nat.sub_self] at this
  exact this
/-- The number of bytes of the first c characters. -/
def szFrom (s : ByteArray) : Nat → Nat → Nat → Nat
  | 0, _, _ => s.size
  | f + 1, p, c => if p < s.size then (if c = 0 then p else szFrom s f (p + (Utf8.decode s p).2) (c - 1)) else s.size
theorem sz_from {s : ByteArray} {a e o : Nat} (G : Good s) (he : Bd s e) (hae : a ≤ e) (ho : Bd s o) (hoe : o ≤ e) : ∀ (f p : Nat), a ≤ p → p ≤ o → e - p ≤ f → Bd s p → szFrom (s.extract a e) f (p - a) (nb s p (o - p)) = o - a
  | 0, p, h1, h2, h3, _ => by
    have hs : (s.extract a e).size = e - a := by rw [ByteArray.size_extract]; have := he.1; omega
    show (s.extract a e).size = _
    omega
  | f + 1, p, h1, h2, h3, hp => by
    have hs : (s.extract a e).size = e - a := by rw [ByteArray.size_extract]; have := he.1; omega
    unfold szFrom
    by_cases hlt : p < e
    · rw [if_pos (by omega)]
      by_cases hpo : p = o
      · subst hpo
        rw [Nat.sub_self, if_pos (show nb s p 0 = 0 from rfl)]
      · obtain ⟨n, g, hn⟩ := G.2 p (by have := he.1; omega) hp
        have hle := ga_le g he hlt
        have hle2 := ga_le g ho (by omega)
        have n1 := g.n1
        have hd : Utf8.decode (s.extract a e) (p - a) = Utf8.decode s p := g.same _ _ (by omega) (fun j hj => by rw [by_ext (by omega) he.1]; congr 1; omega)
        have h8 := nb_add s p n (o - (p + n))
        rw [nb_one g, show n + (o - (p + n)) = o - p by omega] at h8
        rw [if_neg (by omega), hd, g.dec, show p - a + n = p + n - a by omega, h8, show 1 + nb s (p + n) (o - (p + n)) - 1 = nb s (p + n) (o - (p + n)) by omega]
        exact sz_from G he hae ho hoe f (p + n) (by omega) hle2 (by omega) hn
    · rw [if_neg (by omega)]; omega
/-- The first bytes of a part up to a character are those of so many characters. -/
theorem sz_part {s : ByteArray} {a e o : Nat} (G : Good s) (ha : Bd s a) (he : Bd s e) (hao : a ≤ o) (ho : Bd s o) (hoe : o ≤ e) : szFrom (s.extract a e) (s.extract a e).size 0 (nb s a (o - a)) = o - a := by
  have hs : (s.extract a e).size = e - a := by rw [ByteArray.size_extract]; have := he.1; omega
  have := sz_from G he (by omega) ho hoe (s.extract a e).size a (Nat.le_refl _) hao (by omega) ha
  rw [Nat.sub_self] at this
  exact this
/-- Behind a line feed a character begins. -/
theorem bd_nl {s : ByteArray} {p : Nat} (G : Good s) (h : p < s.size) (hp : by_ s p = 10) : Bd s p ∧ Bd s (p + 1) := by
  have hb : Bd s p := ⟨by omega, fun _ => by omega⟩
  obtain ⟨n, g, hn⟩ := G.2 p h hb
  rw [g.one (by omega)] at hn
  exact ⟨hb, hn⟩
/-- A line begins at b: j line feeds lie ahead of it, the last one just ahead. -/
def LB (s : ByteArray) (j b : Nat) : Prop := b ≤ s.size ∧ nl s 0 b = j ∧ (b = 0 ∨ (0 < b ∧ by_ s (b - 1) = 10))
theorem nl_mono (s : ByteArray) {a b : Nat} (h : a ≤ b) : nl s 0 a ≤ nl s 0 b := by
  obtain ⟨k, rfl⟩ : ∃ k, b = a + k := ⟨b - a, by omega⟩
  rw [nl_add]; omega
theorem lb_lt {s : ByteArray} {j b c : Nat} (h : LB s j b) (hc : c < b) : nl s 0 c < j := by
  obtain ⟨_, h2, h3⟩ := h
  rcases h3 with h3 | ⟨h3, h4⟩
  · omega
  · have h5 := nl_mono s (show c ≤ b - 1 by omega)
    have h6 := nl_add s 0 (b - 1) 1
    rw [show b - 1 + 1 = b by omega] at h6
    have h7 : nl s (0 + (b - 1)) 1 = 1 := by show 0 + (if by_ s (0 + (b - 1) + 0) = 10 then 1 else 0) = 1; rw [show 0 + (b - 1) + 0 = b - 1 by omega, if_pos h4]
    omega
theorem lb_uniq {s : ByteArray} {j b c : Nat} (h : LB s j b) (k : LB s j c) : b = c := by
  rcases Nat.lt_trichotomy b c with e | e | e
  · have := lb_lt k e; have := h.2.1; omega
  · exact e
  · have := lb_lt h e; have := k.2.1; omega
theorem lb_bd {s : ByteArray} {j b : Nat} (G : Good s) (h : LB s j b) : Bd s b := by
  obtain ⟨h1, _, h3⟩ := h
  rcases h3 with rfl | ⟨h3, h4⟩
  · exact G.1
  · have := (bd_nl G (p := b - 1) (by omega) h4).2
    rw [show b - 1 + 1 = b by omega] at this
    exact this
theorem ext_list (s : ByteArray) (a e : Nat) : (s.extract a e).data.toList = (s.data.toList.take e).drop a := by
  rw [ByteArray.data_extract, Array.toList_extract]
  simp [List.drop_take]
theorem get_list {s : ByteArray} {i : Nat} (h : i < s.size) : s.data.toList[i]? = some (s.get! i) := by
  have h' : i < s.data.size := h
  show s.data.toList[i]? = some (s.data[i]!)
  rw [Array.getElem?_toList, Array.getElem?_eq_getElem h', getElem!_pos s.data i h']
theorem by_u8 {s : ByteArray} {i : Nat} : s.get! i = 10 ↔ by_ s i = 10 := by
  unfold by_
  exact ⟨fun h => by rw [h]; rfl, fun h => UInt8.toNat_inj.1 (by rw [h]; rfl)⟩
/-- The number of line feeds, as the library counts them. -/
theorem ct_take (s : ByteArray) : ∀ k, k ≤ s.size → Lib.countByte (s.data.toList.take k) 10 = nl s 0 k
  | 0, _ => rfl
  | k + 1, h => by
    have h1 := get_list (s := s) (i := k) (by omega)
    have h2 : s.data.toList.take (k + 1) = s.data.toList.take k ++ [s.get! k] := by
      rw [List.take_add_one, h1]; rfl
    have ih := ct_take s k (by omega)
    unfold Lib.countByte at ih ⊢
    rw [h2, List.count_append, ih, nl_succ, Nat.zero_add]
    congr 1
    by_cases h3 : by_ s k = 10
    · rw [if_pos h3, by_u8.2 h3]; rfl
    · rw [if_neg h3]
      have h4 : s.get! k ≠ 10 := fun h => h3 (by_u8.1 h)
      simp [h4]
theorem ct_nl {s : ByteArray} {o : Nat} (h : o ≤ s.size) : Lib.countByte (s.extract 0 o).data.toList 10 = nl s 0 o := by
  rw [ext_list, List.drop_zero]
  exact ct_take s o h
theorem ct_all (s : ByteArray) : Lib.countByte s.data.toList 10 = nl s 0 s.size := by
  have := ct_take s s.size (Nat.le_refl _)
  rw [List.take_of_length_le (by simp)] at this
  exact this
/-- The line of a place begins behind the last line feed ahead of it. -/
theorem last_nl {s : ByteArray} {o : Nat} (h : o ≤ s.size) {r : Int} (hr : (r = -1 ∧ ∀ j, j < o → by_ s j ≠ 10) ∨ (∃ i : Nat, i < o ∧ r = i ∧ by_ s i = 10 ∧ ∀ j, i < j → j < o → by_ s j ≠ 10)) :
    ∃ b : Nat, r + 1 = b ∧ b ≤ o ∧ LB s (nl s 0 o) b ∧ ∀ j, b ≤ j → j < o → by_ s j ≠ 10 := by
  have key : ∀ b, b ≤ o → (∀ j, b ≤ j → j < o → by_ s j ≠ 10) → nl s 0 b = nl s 0 o := by
    intro b hb hn
    have h1 := nl_add s 0 b (o - b)
    rw [show b + (o - b) = o by omega] at h1
    rw [h1, nl_none (o - b) (fun j hj => hn (0 + b + j) (by omega) (by omega))]
    rfl
  rcases hr with ⟨rfl, hn⟩ | ⟨i, hi, rfl, h10, hn⟩
  · exact ⟨0, rfl, by omega, ⟨by omega, key 0 (by omega) (fun j _ => hn j), .inl rfl⟩, fun j _ => hn j⟩
  · exact ⟨i + 1, by omega, by omega, ⟨by omega, key (i + 1) (by omega) (fun j h1 h2 => hn j (by omega) h2), .inr ⟨by omega, h10⟩⟩, fun j h1 h2 => hn j (by omega) h2⟩
/-- Where a line ends. -/
def LE (s : ByteArray) (b e : Nat) : Prop := b ≤ e ∧ e ≤ s.size ∧ (∀ j, b ≤ j → j < e → by_ s j ≠ 10) ∧ (e < s.size → by_ s e = 10)
theorem le_ex (s : ByteArray) {b : Nat} (h : b ≤ s.size) : ∃ e, LE s b e := by
  have main : ∀ k, b + k ≤ s.size → (∀ j, b ≤ j → j < b + k → by_ s j ≠ 10) ∨ ∃ e, LE s b e := by
    intro k
    induction k with
    | zero => intro _; exact .inl fun j h1 h2 => by omega
    | succ k ih =>
      intro hk
      rcases ih (by omega) with h1 | h1
      · by_cases h2 : by_ s (b + k) = 10
        · exact .inr ⟨b + k, by omega, by omega, h1, fun _ => h2⟩
        · refine .inl fun j h3 h4 => ?_
          rcases Nat.lt_or_ge j (b + k) with h5 | h5
          · exact h1 j h3 h5
          · rw [show j = b + k by omega]; exact h2
      · exact .inr h1
  rcases main (s.size - b) (by omega) with h1 | h1
  · exact ⟨s.size, h, Nat.le_refl _, fun j h2 h3 => h1 j h2 (by omega), fun h4 => by omega⟩
  · exact h1
theorem le_bd {s : ByteArray} {b e : Nat} (h : LE s b e) : Bd s e := ⟨h.2.1, fun h1 => by rw [h.2.2.2 h1]; decide⟩
theorem le_ge {s : ByteArray} {b e o : Nat} (h : LE s b e) (ho : o ≤ s.size) (hb : b ≤ o) (hn : ∀ j, b ≤ j → j < o → by_ s j ≠ 10) : o ≤ e := by
  rcases Nat.lt_or_ge e o with h1 | h1
  · exact absurd (h.2.2.2 (by omega)) (hn e h.1 h1)
  · exact h1
/-- The first line feed of what is left. -/
theorem idx_nl {s : ByteArray} {b e : Nat} (h : LE s b e) : Lib.indexByte (s.extract b s.size).data.toList 10 = if e < s.size then ((e - b : Nat) : Int) else -1 := by
  obtain ⟨h1, h2, h3, h4⟩ := h
  have hg : ∀ j, b + j < s.size → (s.extract b s.size).data.toList[j]? = some (s.get! (b + j)) := by
    intro j hj
    rw [ext_list, List.getElem?_drop, List.take_of_length_le (by simp)]
    exact get_list hj
  have hge := Lib.indexByte_ge (s.extract b s.size).data.toList 10
  have hlen : (s.extract b s.size).data.toList.length = s.size - b := by
    simp
  split
  · rename_i he
    rcases (show Lib.indexByte (s.extract b s.size).data.toList 10 < 0 ∨ 0 ≤ Lib.indexByte (s.extract b s.size).data.toList 10 by omega) with k | k
    · exfalso
      refine Lib.indexByte_none (show Lib.indexByte (s.extract b s.size).data.toList 10 = -1 by omega) (e - b) ?_
      rw [hg _ (by omega), show b + (e - b) = e by omega, by_u8.2 (h4 he)]
    · obtain ⟨o, ho⟩ := Int.eq_ofNat_of_zero_le k
      have q := Lib.indexByte_some ho
      have hlo : b + o < s.size := by
        rcases Nat.lt_or_ge o (s.size - b) with q1 | q1
        · omega
        · have := q.1
          rw [List.getElem?_eq_none (by omega)] at this
          cases this
      have q1 := q.1
      rw [hg _ hlo] at q1
      have q2 : by_ s (b + o) = 10 := by_u8.1 (by injection q1)
      rcases Nat.lt_trichotomy (b + o) e with e1 | e1 | e1
      · exact absurd q2 (h3 _ (by omega) e1)
      · rw [ho]; omega
      · exact absurd (by rw [hg _ (by omega), show b + (e - b) = e by omega, by_u8.2 (h4 he)]) (q.2 (e - b) (by omega))
  · rename_i he
    rcases (show Lib.indexByte (s.extract b s.size).data.toList 10 < 0 ∨ 0 ≤ Lib.indexByte (s.extract b s.size).data.toList 10 by omega) with k | k
    · omega
    · exfalso
      obtain ⟨o, ho⟩ := Int.eq_ofNat_of_zero_le k
      have q1 := (Lib.indexByte_some ho).1
      rcases Nat.lt_or_ge o (s.size - b) with q2 | q2
      · rw [hg _ (by omega)] at q1
        exact absurd (by_u8.1 (by injection q1)) (h3 (b + o) (by omega) (by omega))
      · rw [List.getElem?_eq_none (by omega)] at q1
        cases q1
theorem lb_zero (s : ByteArray) : LB s 0 0 := ⟨Nat.zero_le _, rfl, .inl rfl⟩
/-- The next line. -/
theorem lb_next {s : ByteArray} {j b e : Nat} (h : LB s j b) (k : LE s b e) (he : e < s.size) : LB s (j + 1) (e + 1) := by
  refine ⟨by omega, ?_, .inr ⟨by omega, k.2.2.2 he⟩⟩
  have h1 := nl_add s 0 b (e - b)
  rw [show b + (e - b) = e by have := k.1; omega, nl_none (e - b) (fun j hj => k.2.2.1 (0 + b + j) (by omega) (by omega))] at h1
  rw [nl_succ, Nat.zero_add, if_pos (k.2.2.2 he), h1, h.2.1]
/-- There is a next line where there are more line feeds. -/
theorem le_lt {s : ByteArray} {j b e : Nat} (h : LB s j b) (k : LE s b e) (hj : j < nl s 0 s.size) : e < s.size := by
  rcases Nat.lt_or_ge e s.size with h1 | h1
  · exact h1
  · exfalso
    have e1 : e = s.size := by have := k.2.1; omega
    subst e1
    have h2 := nl_add s 0 b (s.size - b)
    rw [show b + (s.size - b) = s.size by have := k.1; omega, nl_none (s.size - b) (fun j hj => k.2.2.1 (0 + b + j) (by omega) (by omega))] at h2
    have := h.2.1
    omega
/-- Later places have later positions. -/
theorem pos_lt {s : ByteArray} {a b x y : Nat} (G : Good s) (ha : Bd s a) (hb : b ≤ s.size) (hx : LB s (nl s 0 a) x) (hy : LB s (nl s 0 b) y) (xa : x ≤ a) (yb : y ≤ b) (h : a < b) : nl s 0 a < nl s 0 b ∨ (nl s 0 a = nl s 0 b ∧ nb s x (a - x) < nb s y (b - y)) := by
  have h1 := nl_mono s (show a ≤ b by omega)
  rcases Nat.lt_or_ge (nl s 0 a) (nl s 0 b) with h2 | h2
  · exact .inl h2
  · right
    have e : nl s 0 a = nl s 0 b := by omega
    rw [← e] at hy
    obtain rfl := lb_uniq hx hy
    refine ⟨e, ?_⟩
    have h3 := nb_add s x (a - x) (b - a)
    rw [show a - x + (b - a) = b - x by omega, show x + (a - x) = a by omega] at h3
    have h4 := nb_pos (s := s) (p := a) (k := b - a) (ha.2 (by omega)) (by omega)
    omega
abbrev flt (c i : Int) : Value := .agg #[.int .i64 c, .int .i64 i]
structure Bk2 (w : World) (g : Nat) (u v : Value) : Prop where
  c0 : w.cell? ⟨g, 0, none⟩ = some u
  c1 : w.cell? ⟨g, 1, none⟩ = some v
  z0 : w.frozen? ⟨g, 0, none⟩ = false
  z1 : w.frozen? ⟨g, 1, none⟩ = false
  lt : g < w.heap.size
theorem Bk2.new (w : World) (u v : Value) (t : TypeId) : Bk2 (w.alloc (.cells #[u, v] t)) w.heap.size u v := ⟨by simp [go_sem], by simp [go_sem], by simp [go_sem], by simp [go_sem], by simp⟩
theorem Bk2.below {w w' : World} {g B : Nat} {u v : Value} (h : Bk2 w g u v) (hb : Below B w w') (hg : g < B) : Bk2 w' g u v := by
  obtain ⟨hc, hf⟩ := bcell hb
  exact ⟨(hc _ _ hg).trans h.c0, (hc _ _ hg).trans h.c1, (hf _ _ hg).trans h.z0, (hf _ _ hg).trans h.z1, by have := hb.size; have := h.lt; omega⟩
theorem Bk2.alloc {w : World} {g : Nat} {u v : Value} (h : Bk2 w g u v) (o : Obj) : Bk2 (w.alloc o) g u v := h.below (bl1 w o) h.lt
theorem Bk2.drew {w : World} {g : Nat} {u v : Value} (h : Bk2 w g u v) : Bk2 w.drew g u v := ⟨h.c0, h.c1, h.z0, h.z1, h.lt⟩
theorem Bk2.drewN {w : World} {g : Nat} {u v : Value} (h : Bk2 w g u v) (n : Nat) : Bk2 (w.drewN n) g u v := ⟨h.c0, h.c1, h.z0, h.z1, h.lt⟩
theorem Bk2.far {w : World} {g : Nat} {u v : Value} (h : Bk2 w g u v) {p : Addr} (hp : p.block ≠ g) (x : Value) : Bk2 (w.setCell p x) g u v :=
  ⟨(World.cell?_setCell_other _ _ _ _ (fun e => hp (by rw [e]))).trans h.c0, (World.cell?_setCell_other _ _ _ _ (fun e => hp (by rw [e]))).trans h.c1, (World.frozen?_setCell _ _ _ _).trans h.z0, (World.frozen?_setCell _ _ _ _).trans h.z1, by have := h.lt; simpa using this⟩
theorem Bk2.set {w : World} {g : Nat} {u v : Value} (h : Bk2 w g u v) (x y : Value) : Bk2 ((w.setCell ⟨g, 0, none⟩ x).setCell ⟨g, 1, none⟩ y) g x y := by
  have e0 : (w.setCell ⟨g, 0, none⟩ x).cell? ⟨g, 0, none⟩ = some x := World.cell?_setCell_same w _ _ h.c0
  have e1 : (w.setCell ⟨g, 0, none⟩ x).cell? ⟨g, 1, none⟩ = some v := (World.cell?_setCell_other w ⟨g, 0, none⟩ ⟨g, 1, none⟩ _ (by simp)).trans h.c1
  exact ⟨(World.cell?_setCell_other _ ⟨g, 1, none⟩ ⟨g, 0, none⟩ _ (by simp)).trans e0, World.cell?_setCell_same _ _ _ e1, ((World.frozen?_setCell _ _ _ _).trans (World.frozen?_setCell _ _ _ _)).trans h.z0, ((World.frozen?_setCell _ _ _ _).trans (World.frozen?_setCell _ _ _ _)).trans h.z1, by have := h.lt; simpa using this⟩
theorem Bk2.newAt (w : World) (g : Nat) (hg : w.heap.size = g) (u v : Value) (t : TypeId) : Bk2 (w.alloc (.cells #[u, v] t)) g u v := by subst hg; exact Bk2.new w u v t
theorem Bk2.far2 {w : World} {g g' : Nat} {u v : Value} (h : Bk2 w g u v) (hne : g' ≠ g) (x y : Value) : Bk2 ((w.setCell ⟨g', 0, none⟩ x).setCell ⟨g', 1, none⟩ y) g u v := (h.far (p := ⟨g', 0, none⟩) hne x).far (p := ⟨g', 1, none⟩) hne y
theorem bnext {W v v' : World} (h : Below W.heap.size W v) (hb : Below v.heap.size v v') : Below W.heap.size W v' := h.trans (hb.mono h.size)
end Go.Proofs.YtlohapafpgihaaaDoor
