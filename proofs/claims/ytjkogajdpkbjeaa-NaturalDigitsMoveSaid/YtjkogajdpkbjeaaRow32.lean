/- A row of limbs that the call itself made; make. -/
import Derived.Test.YtjkogajdpkbjeaaNat2
import Derived.Deep.QuietTactic
import Derived.BigQuiet
import Derived.StillTailTactics
import Derived.Laws.OwnMore
namespace Go.Proofs.Ytjkogajdpkbjeaa
open Go.RowKit
set_option maxHeartbeats 400000
set_option maxRecDepth 100000
set_option linter.unusedSimpArgs false
set_option linter.unusedVariables false

theorem info32 : (Try.prog.info? 58).map (fun i => (i.zero, i.size, i.bytes)) = some (some (.int .u32 0), 1, 4) := by kernel_rfl
theorem mk32 (n : Nat) (hn : n ≤ 70368744177664) (w : World) :
    (Instr.makeSlice 22 (.int .i64 (n : Int)) (.int .i64 (n : Int))).run Try.prog w = .ok (.slice (some ⟨w.heap.size, 0, none⟩) n n) (w.alloc (.cells (List.replicate n (Value.int .u32 0)).toArray 58)) := by
  obtain ⟨i, hi, hz, hs, hb⟩ := info_parts info32
  have hr := run_make (P := Try.prog) w 22 58 i (.int .u32 0) Try.underlying22 hi hz .i64 .i64 (n : Int) (n : Int) (by omega) (by omega) (by rw [hb]; omega) (by omega)
  rw [hr, hs]
  simp only [Int.toNat_natCast, Nat.mul_one]
  congr 3
  have := toList_madeCells_one (Value.int .u32 0) n
  rw [← this]
  simp [Value.cells]

/-- Block g begins with the limbs cs; behind them may be more cells. -/
def R32 (w : World) (g : Nat) (cs : List Nat) : Prop := ∃ more : List Value, Row w g 58 ((cs.map fun (x : Nat) => Value.int .u32 (x : Int)) ++ more)
section
variable {w w' : World} {g : Nat} {cs : List Nat}
theorem R32.lt (h : R32 w g cs) : g < w.heap.size := Row.lt h.choose_spec
theorem R32.cell (h : R32 w g cs) {j : Nat} (hj : j < cs.length) : w.cell? ⟨g, j, none⟩ = some (.int .u32 (nth cs j)) := by
  obtain ⟨more, h⟩ := h
  rw [Row.cell h, List.getElem?_append_left (by simpa using hj)]
  unfold nth
  simp [hj]
theorem R32.frozen (h : R32 w g cs) (j : Nat) : w.frozen? ⟨g, j, none⟩ = false := Row.frozen h.choose_spec j
theorem R32.new (w : World) (n : Nat) : R32 (w.alloc (.cells (List.replicate n (Value.int .u32 0)).toArray 58)) w.heap.size (List.replicate n 0) := by
  refine ⟨[], ?_⟩
  rw [List.map_replicate, List.append_nil]
  exact Row.new w 58 _
theorem R32.alloc (h : R32 w g cs) (o : Obj) : R32 (w.alloc o) g cs := ⟨_, Row.alloc h.choose_spec o⟩
theorem R32.put (h : R32 w g cs) (j : Nat) {v : Int} (hv : 0 ≤ v) : R32 (w.setCell ⟨g, j, none⟩ (.int .u32 v)) g (cs.set j v.toNat) := by
  obtain ⟨more, h⟩ := h
  have e : ((v.toNat : Nat) : Int) = v := Int.toNat_of_nonneg hv
  have h2 := Row.set_ h j (.int .u32 v)
  rw [List.set_append] at h2
  split at h2
  · refine ⟨more, ?_⟩
    rw [List.map_set, e]
    exact h2
  · rename_i hj
    rw [List.set_eq_of_length_le (by simpa using hj)]
    exact ⟨_, h2⟩
theorem R32.far (h : R32 w g cs) {p : Addr} (hp : g ≠ p.block) (u : Value) : R32 (w.setCell p u) g cs := ⟨_, Row.far h.choose_spec hp u⟩
theorem R32.below {B : Nat} (h : R32 w g cs) (hb : Below B w w') (hg : g < B) : R32 w' g cs := ⟨_, Row.below h.choose_spec hb hg⟩
theorem R32.grown {row : Option Nat} (h : R32 w g cs) (hb : w.grownBy w' row) (hg : some g ≠ row) : R32 w' g cs := ⟨_, Row.grown h.choose_spec hb hg⟩
theorem R32.drewN (h : R32 w g cs) (n : Nat) : R32 (w.drewN n) g cs := h
theorem R32.drew (h : R32 w g cs) : R32 w.drew g cs := h
theorem R32.pre (h : R32 w g cs) (k : Nat) : R32 w g (cs.take k) := by
  obtain ⟨more, h⟩ := h
  refine ⟨((cs.drop k).map fun (x : Nat) => Value.int .u32 (x : Int)) ++ more, ?_⟩
  rw [← List.append_assoc, ← List.map_append, List.take_append_drop]
  exact h
theorem R32.of_own {base c n : Nat} {A : Option Addr} (h : w.ownsRow base 58 1 (.slice A n c) n (cs.map fun (x : Nat) => Value.int .u32 (x : Int))) (hn : 0 < n) : ∃ g, A = some ⟨g, 0, none⟩ ∧ base ≤ g ∧ R32 w g cs ∧ n ≤ c ∧ c ≤ maxLen := by
  rcases h.2 with ⟨_, h0⟩ | ⟨g, cap, cur, hv, hg, hh, h1, h2, _, h3⟩
  · omega
  · injection hv with e1 e2 e3
    subst e1; subst e3
    refine ⟨g, rfl, hg, ⟨cur.toList.drop (n * 1), ?_⟩, h1, h2⟩
    rw [← h3, List.take_append_drop]
    unfold Row
    rw [hh]
/-- A part of the row, as a slice. -/
theorem R32.lrd (h : R32 w g cs) (hl : Lim cs) {B o n c : Nat} (hB : g < B) (hn : o + n ≤ cs.length) (hc : n ≤ c ∧ c ≤ 9223372036854775807) : LRd w B (some ⟨g, o, none⟩) n c ((cs.drop o).take n) := by
  refine ⟨?_, hc, fun x hx => hl x (List.mem_of_mem_drop (List.mem_of_mem_take hx)), fun _ => ⟨g, o, rfl, hB, fun j hj => ?_⟩⟩
  · show _ = _
    rw [List.length_take, List.length_drop]; omega
  · rw [h.cell (by omega)]
    congr 2
    unfold nth
    rw [getD_take, if_pos hj, getD_drop]
theorem R32.lrd0 (h : R32 w g cs) (hl : Lim cs) {B n c : Nat} (hB : g < B) (hn : n ≤ cs.length) (hc : n ≤ c ∧ c ≤ 9223372036854775807) : LRd w B (some ⟨g, 0, none⟩) n c (cs.take n) :=
  h.lrd hl hB (by omega) hc
end
theorem Lim.set {cs : List Nat} (h : Lim cs) {j x : Nat} (hx : x < 4294967296) : Lim (cs.set j x) := by
  intro y hy
  rcases List.mem_or_eq_of_mem_set hy with h1 | h1
  · exact h y h1
  · omega
theorem replicate_getD (n i : Nat) : (List.replicate n 0).getD i 0 = 0 := by
  rcases getD_mem_or (List.replicate n 0) i with h | h
  · exact List.eq_of_mem_replicate h
  · exact h
theorem mod_toNat_lt (v : Int) : (v % 4294967296).toNat < 4294967296 := by omega
theorem toNat_lt32 {v : Int} (h : v < 4294967296) : v.toNat < 4294967296 := by omega
theorem Lim.zeros (n : Nat) : Lim (List.replicate n 0) := by intro x hx; have := List.eq_of_mem_replicate hx; omega
theorem Lim.take {cs : List Nat} (h : Lim cs) (n : Nat) : Lim (cs.take n) := fun x hx => h x (List.mem_of_mem_take hx)

/-- What a function gives that makes a new number. -/
def GivesL (w : World) (p : Nat) (e : Ending) (w' : World) : Prop :=
  ∃ A k c zs, e = .returned (.slice A k c) ∧ LRd w' w'.heap.size A k c zs ∧ Rep 4294967296 zs p ∧ Below w.heap.size w w'
theorem trimmed {n k : Nat} {cs : List Nat} (h : TrimTo n cs k) (hl : cs.length = n) (hd : Lim cs) : Rep 4294967296 (cs.take k) (vb 4294967296 cs) := by
  have e : (cs.take k).length = k := by rw [List.length_take]; have := h.le; omega
  refine ⟨hd.take k, vb_take_of_zeros (by have := h.le; omega) (fun j h1 h2 => h.zeros j h1 (by omega)), fun m hm => ?_⟩
  rw [getD_take, if_pos (by omega)]
  exact h.top m (by omega)

theorem R32.lrdAll {w : World} {g : Nat} {cs : List Nat} (h : R32 w g cs) (hl : Lim cs) {B n c : Nat} (hB : g < B) (hn : Hid (cs.length = n)) (hc : n ≤ c ∧ c ≤ 9223372036854775807) : LRd w B (some ⟨g, 0, none⟩) n c cs := by
  have := h.lrd0 hl (n := n) hB (by rw [hn.out]; exact Nat.le_refl _) hc
  rwa [List.take_of_length_le (by rw [hn.out]; exact Nat.le_refl _)] at this
theorem gives_row {w w' : World} {g n c k p : Nat} {cs : List Nat} (hR : R32 w' g cs) (hl : Lim cs) (hn : Hid (cs.length = n)) (ht : TrimTo n cs k) (hc : n ≤ c ∧ c ≤ 9223372036854775807)
    (hb : Below w.heap.size w w') (hv : vb 4294967296 cs = p) : GivesL w p (.returned (.slice (some ⟨g, 0, none⟩) k c)) w' := by
  have := ht.le
  subst hv
  exact ⟨_, _, _, _, rfl, hR.lrd0 hl hR.lt (by rw [hn.out]; exact this) (by omega), trimmed ht hn.out hl, hb⟩

/-- Digit by digit. -/
theorem sum_step {rs xs ys : List Nat} {k : Nat} {c : Int} (hk : k < rs.length) (hc : 0 ≤ c)
    (h : S 4294967296 (fun i => rs.getD i 0) k + c.toNat * 4294967296 ^ k = S 4294967296 (fun i => xs.getD i 0) k + S 4294967296 (fun i => ys.getD i 0) k) :
    S 4294967296 (fun i => (rs.set k ((nth xs k + nth ys k + c) % 4294967296).toNat).getD i 0) (k + 1) + ((nth xs k + nth ys k + c) / 4294967296).toNat * 4294967296 ^ (k + 1) =
      S 4294967296 (fun i => xs.getD i 0) (k + 1) + S 4294967296 (fun i => ys.getD i 0) (k + 1) := by
  rw [S_succ, S_succ, S_succ, S_ext (g := fun i => rs.getD i 0) (fun j hj => by rw [getD_set _ _ _ _ hk, if_neg (by omega)])]
  rw [getD_set _ _ _ _ hk, if_pos rfl]
  unfold nth
  generalize xs.getD k 0 = x at *
  generalize ys.getD k 0 = y at *
  have e : (((x : Int) + y + c) % 4294967296).toNat + 4294967296 * (((x : Int) + y + c) / 4294967296).toNat = x + y + c.toNat := by omega
  generalize (((x : Int) + y + c) % 4294967296).toNat = r at *
  generalize (((x : Int) + y + c) / 4294967296).toNat = d at *
  rw [Nat.pow_succ]
  generalize 4294967296 ^ k = P at *
  grind
end Go.Proofs.Ytjkogajdpkbjeaa
