/- Plain mathematics: what digits to a base stand for, sums of digits by place, that a number has one list of digits without a leading zero. -/
import Derived.Test.YtjkogajdpkbjeaaRows
namespace Go.Proofs.Ytjkogajdpkbjeaa
set_option linter.unusedVariables false

/-- The first k digits of f to the base b. -/
def S (b : Nat) (f : Nat → Nat) : Nat → Nat
  | 0 => 0
  | k + 1 => S b f k + f k * b ^ k
theorem S_zero (b : Nat) (f : Nat → Nat) : S b f 0 = 0 := rfl
theorem S_succ (b : Nat) (f : Nat → Nat) (k : Nat) : S b f (k + 1) = S b f k + f k * b ^ k := rfl
theorem S_ext {b : Nat} {f g : Nat → Nat} : ∀ {k : Nat}, (∀ j, j < k → f j = g j) → S b f k = S b g k
  | 0, _ => rfl
  | k + 1, h => by rw [S_succ, S_succ, S_ext (fun j hj => h j (by omega)), h k (by omega)]
theorem S_lt {b : Nat} {f : Nat → Nat} {k : Nat} (hb : 0 < b) (h : ∀ j, j < k → f j < b) : S b f k < b ^ k := by
  induction k with
  | zero => simp [S_zero]
  | succ k ih =>
    have h1 := ih (fun j hj => h j (by omega))
    have h2 : f k + 1 ≤ b := h k (by omega)
    have h3 : (f k + 1) * b ^ k ≤ b * b ^ k := Nat.mul_le_mul_right _ h2
    rw [Nat.add_mul, Nat.one_mul] at h3
    rw [S_succ, show b ^ (k + 1) = b * b ^ k by rw [Nat.pow_succ, Nat.mul_comm]]
    omega
theorem S_zeros {b : Nat} {f : Nat → Nat} {m : Nat} : ∀ {n : Nat}, m ≤ n → (∀ j, m ≤ j → j < n → f j = 0) → S b f n = S b f m
  | 0, hm, _ => by rw [show m = 0 by omega]
  | n + 1, hm, h => by
    rcases Nat.lt_or_ge n m with h1 | h1
    · rw [show m = n + 1 by omega]
    · rw [S_succ, h n h1 (by omega), Nat.zero_mul, Nat.add_zero]
      exact S_zeros h1 (fun j hj hj' => h j hj (by omega))
theorem S_add (b : Nat) (f : Nat → Nat) (m : Nat) : ∀ n, S b f (m + n) = S b f m + b ^ m * S b (fun i => f (m + i)) n
  | 0 => by simp [S_zero]
  | n + 1 => by
    rw [← Nat.add_assoc, S_succ, S_add b f m n, S_succ, Nat.pow_add]
    grind
theorem S_front (b : Nat) (f : Nat → Nat) (n : Nat) : S b f (n + 1) = f 0 + b * S b (fun i => f (i + 1)) n := by
  rw [Nat.add_comm n 1, S_add]
  simp [S_succ, S_zero, Nat.add_comm]
theorem S_const_zero (b n : Nat) : S b (fun _ => 0) n = 0 := by rw [S_zeros (m := 0) (Nat.zero_le _) (fun _ _ _ => rfl)]; rfl
theorem S_mono {b : Nat} {f : Nat → Nat} {m n : Nat} (h : m ≤ n) : S b f m ≤ S b f n := by
  obtain ⟨d, rfl⟩ := Nat.le.dest h
  rw [S_add]; omega
/-- The greatest place at which two numbers differ decides. -/
theorem S_less {b : Nat} {f g : Nat → Nat} {n k : Nat} (hb : 0 < b) (hk : k < n) (hf : ∀ j, j < n → f j < b) (hlt : f k < g k) (he : ∀ j, k < j → j < n → f j = g j) : S b f n < S b g n := by
  obtain ⟨d, rfl⟩ := Nat.le.dest (show k + 1 ≤ n from hk)
  rw [S_add b f (k + 1) d, S_add b g (k + 1) d, S_succ b f k, S_succ b g k]
  rw [S_ext (f := fun i => f (k + 1 + i)) (g := fun i => g (k + 1 + i)) (fun j hj => he _ (by omega) (by omega))]
  have h1 := S_lt (f := f) (k := k) hb (fun j hj => hf j (by omega))
  have h2 : (f k + 1) * b ^ k ≤ g k * b ^ k := Nat.mul_le_mul_right _ hlt
  rw [Nat.add_mul, Nat.one_mul] at h2
  omega

/-- Digits to the base b. -/
def Dig (b : Nat) (xs : List Nat) : Prop := ∀ x ∈ xs, x < b
theorem Dig.at_ {b : Nat} {xs : List Nat} (h : Dig b xs) (hb : 0 < b) (j : Nat) : xs.getD j 0 < b := by
  rcases Nat.lt_or_ge j xs.length with h1 | h1
  · rw [List.getD_eq_getElem?_getD, List.getElem?_eq_getElem h1]; exact h _ (List.getElem_mem h1)
  · rw [List.getD_eq_getElem?_getD, List.getElem?_eq_none h1]; exact hb
theorem Dig.of_at {b : Nat} {xs : List Nat} (h : ∀ j, j < xs.length → xs.getD j 0 < b) : Dig b xs := by
  intro x hx
  obtain ⟨j, hj, rfl⟩ := List.getElem_of_mem hx
  have := h j hj
  rwa [List.getD_eq_getElem?_getD, List.getElem?_eq_getElem hj] at this
/-- The number that digits stand for, the least significant one first. -/
def vb (b : Nat) (xs : List Nat) : Nat := S b (fun i => xs.getD i 0) xs.length
theorem getD_none {xs : List Nat} {j : Nat} (h : xs.length ≤ j) : xs.getD j 0 = 0 := by rw [List.getD_eq_getElem?_getD, List.getElem?_eq_none h]; rfl
theorem vb_len {b : Nat} {xs : List Nat} {n : Nat} (h : xs.length ≤ n) : S b (fun i => xs.getD i 0) n = vb b xs := S_zeros h (fun j hj _ => getD_none hj)
theorem vb_nil (b : Nat) : vb b [] = 0 := rfl
theorem vb_lt {b : Nat} {xs : List Nat} (hb : 0 < b) (h : Dig b xs) : vb b xs < b ^ xs.length := S_lt hb (fun j _ => h.at_ hb j)
theorem getD_take (xs : List Nat) (k j : Nat) : (xs.take k).getD j 0 = if j < k then xs.getD j 0 else 0 := by
  rw [List.getD_eq_getElem?_getD, List.getElem?_take]
  split
  · rw [List.getD_eq_getElem?_getD]
  · rfl
theorem getD_drop (xs : List Nat) (k j : Nat) : (xs.drop k).getD j 0 = xs.getD (k + j) 0 := by
  rw [List.getD_eq_getElem?_getD, List.getElem?_drop, List.getD_eq_getElem?_getD]
theorem getD_set (xs : List Nat) (i x j : Nat) (hi : i < xs.length) : (xs.set i x).getD j 0 = if i = j then x else xs.getD j 0 := by
  rw [List.getD_eq_getElem?_getD, List.getElem?_set]
  split
  · rfl
  · rw [List.getD_eq_getElem?_getD]
theorem getD_append (xs ys : List Nat) (j : Nat) : (xs ++ ys).getD j 0 = if j < xs.length then xs.getD j 0 else ys.getD (j - xs.length) 0 := by
  rw [List.getD_eq_getElem?_getD, List.getElem?_append]
  split
  · rw [List.getD_eq_getElem?_getD]
  · rw [List.getD_eq_getElem?_getD]
theorem vb_append {b : Nat} (xs ys : List Nat) : vb b (xs ++ ys) = vb b xs + b ^ xs.length * vb b ys := by
  unfold vb
  rw [List.length_append, S_add]
  congr 1
  · exact S_ext (fun j hj => by simp only [getD_append, if_pos hj])
  · congr 1
    exact S_ext (fun j _ => by simp only [getD_append]; rw [if_neg (by omega)]; congr 1; omega)
theorem vb_one (b x : Nat) : vb b [x] = x := by simp [vb, S_succ, S_zero]
theorem vb_snoc {b : Nat} (xs : List Nat) (x : Nat) : vb b (xs ++ [x]) = vb b xs + b ^ xs.length * x := by rw [vb_append, vb_one]
theorem vb_cons {b : Nat} (x : Nat) (xs : List Nat) : vb b (x :: xs) = x + b * vb b xs := by
  rw [show x :: xs = [x] ++ xs from rfl, vb_append, vb_one]; simp
theorem vb_take_of_zeros {b : Nat} {xs : List Nat} {k : Nat} (hk : k ≤ xs.length) (h : ∀ j, k ≤ j → j < xs.length → xs.getD j 0 = 0) : vb b (xs.take k) = vb b xs := by
  have e : (xs.take k).length = k := by rw [List.length_take]; omega
  show S b (fun i => (xs.take k).getD i 0) (xs.take k).length = S b (fun i => xs.getD i 0) xs.length
  rw [e, S_zeros (m := k) hk h]
  exact S_ext (fun j hj => by simp only [getD_take, if_pos hj])

/-- No leading zero. -/
def Top (xs : List Nat) : Prop := ∀ m, xs.length = m + 1 → xs.getD m 0 ≠ 0
theorem Top.nil : Top [] := fun m h => by cases h
theorem Top.low {b : Nat} {xs : List Nat} (h : Top xs) {m : Nat} (hm : xs.length = m + 1) : b ^ m ≤ vb b xs := by
  unfold vb
  rw [hm, S_succ]
  have h1 : 1 * b ^ m ≤ xs.getD m 0 * b ^ m := Nat.mul_le_mul_right _ (Nat.one_le_iff_ne_zero.2 (h m hm))
  omega
theorem vb_less_len {b : Nat} {xs ys : List Nat} (hb : 0 < b) (h : Dig b xs) (t : Top ys) (hl : xs.length < ys.length) : vb b xs < vb b ys := by
  obtain ⟨m, hm⟩ : ∃ m, ys.length = m + 1 := ⟨ys.length - 1, by omega⟩
  have h1 := vb_lt hb h
  have h2 := t.low (b := b) hm
  have h3 : b ^ xs.length ≤ b ^ m := Nat.pow_le_pow_right hb (by omega)
  omega
/-- Digits without a leading zero that stand for n. -/
structure Rep (b : Nat) (xs : List Nat) (n : Nat) : Prop where
  dig : Dig b xs
  val : vb b xs = n
  top : Top xs
theorem Rep.unique {b : Nat} {xs ys : List Nat} {n : Nat} (hb : 0 < b) (h : Rep b xs n) (k : Rep b ys n) : xs = ys := by
  have hl : xs.length = ys.length := by
    rcases Nat.lt_trichotomy xs.length ys.length with e | e | e
    · have := vb_less_len hb h.dig k.top e; rw [h.val, k.val] at this; omega
    · exact e
    · have := vb_less_len hb k.dig h.top e; rw [h.val, k.val] at this; omega
  have all : ∀ d, d ≤ xs.length → ∀ j, xs.length - d ≤ j → j < xs.length → xs.getD j 0 = ys.getD j 0 := by
    intro d
    induction d with
    | zero => intro _ j h1 h2; omega
    | succ d ih =>
      intro hd j h1 h2
      rcases Nat.lt_trichotomy (xs.getD j 0) (ys.getD j 0) with e | e | e
      · have := S_less (f := fun i => xs.getD i 0) (g := fun i => ys.getD i 0) hb h2 (fun i _ => h.dig.at_ hb i) e (fun i h3 h4 => ih (by omega) i (by omega) h4)
        have e1 := h.val; have e2 := k.val
        unfold vb at e1 e2
        rw [← hl] at e2
        omega
      · exact e
      · have := S_less (f := fun i => ys.getD i 0) (g := fun i => xs.getD i 0) hb h2 (fun i _ => k.dig.at_ hb i) e (fun i h3 h4 => (ih (by omega) i (by omega) h4).symm)
        have e1 := h.val; have e2 := k.val
        unfold vb at e1 e2
        rw [← hl] at e2
        omega
  refine List.ext_getElem hl (fun j h1 h2 => ?_)
  have := all xs.length (Nat.le_refl _) j (by omega) h1
  rwa [List.getD_eq_getElem?_getD, List.getD_eq_getElem?_getD, List.getElem?_eq_getElem h1, List.getElem?_eq_getElem h2] at this
theorem Rep.zero_nil {b : Nat} {xs : List Nat} (hb : 0 < b) (h : Rep b xs 0) : xs = [] := h.unique hb ⟨(by intro x hx; cases hx), rfl, Top.nil⟩
theorem Rep.length_le {b : Nat} {xs : List Nat} {n m : Nat} (hb : 1 < b) (h : Rep b xs n) (hn : n < b ^ m) : xs.length ≤ m := by
  rcases Nat.lt_or_ge m xs.length with e | e
  · obtain ⟨k, hk⟩ : ∃ k, xs.length = k + 1 := ⟨xs.length - 1, by omega⟩
    have h1 := h.top.low (b := b) hk
    have h2 : b ^ m ≤ b ^ k := Nat.pow_le_pow_right (by omega) (by omega)
    rw [h.val] at h1
    omega
  · exact e
theorem Rep.lt_pow {b : Nat} {xs : List Nat} {n : Nat} (hb : 0 < b) (h : Rep b xs n) : n < b ^ xs.length := by rw [← h.val]; exact vb_lt hb h.dig
/-- Every number has such digits. -/
theorem Rep.exists_ {b : Nat} (hb : 1 < b) (n : Nat) : ∃ xs, Rep b xs n := by
  induction n using Nat.strongRecOn with
  | _ n ih =>
    rcases Nat.eq_zero_or_pos n with h | h
    · subst h; exact ⟨[], (by intro x hx; cases hx), rfl, Top.nil⟩
    · obtain ⟨ys, hy⟩ := ih (n / b) (Nat.div_lt_self h hb)
      refine ⟨n % b :: ys, ?_, ?_, ?_⟩
      · intro x hx
        rcases List.mem_cons.1 hx with rfl | hx
        · exact Nat.mod_lt _ (by omega)
        · exact hy.dig x hx
      · rw [vb_cons, hy.val]; exact Nat.mod_add_div n b
      · intro m hm
        cases ys with
        | nil =>
          have h0 : n / b = 0 := by rw [← hy.val]; rfl
          have h1 : n < b := by
            rcases Nat.lt_or_ge n b with e | e
            · exact e
            · have := Nat.div_pos e (by omega); omega
          have : m = 0 := by simpa using hm.symm
          subst this
          show n % b ≠ 0
          rw [Nat.mod_eq_of_lt h1]; omega
        | cons y ys =>
          obtain ⟨k, rfl⟩ : ∃ k, m = k + 1 := ⟨m - 1, by simp at hm; omega⟩
          exact hy.top k (by simpa using hm)
end Go.Proofs.Ytjkogajdpkbjeaa
