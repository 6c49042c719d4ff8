/- Digits to the base 65536, as lists of ints: what a slice reads as, rows, make. -/
import Derived.Test.YtjkogajdpkbjeaaNat2
import Derived.Test.YtjkogajdpkbjeaaClone
import Derived.Deep.QuietTactic
import Derived.BigQuiet
namespace Go.Proofs.Ytjkogajdpkbjeaa
open Go.RowKit
set_option maxHeartbeats 400000
set_option maxRecDepth 100000
set_option linter.unusedSimpArgs false
set_option linter.unusedVariables false

structure DRd (w : World) (B : Nat) (A : Option Addr) (n c : Nat) (xs : List Nat) : Prop where
  len : Hid (xs.length = n)
  cap : n ≤ c ∧ c ≤ 9223372036854775807
  lim : Dig 65536 xs
  rd : Rd w B A n (fun j => .int .i64 (nth xs j))
theorem Dig.nth {xs : List Nat} (h : Dig 65536 xs) (j : Nat) : Go.Proofs.Ytjkogajdpkbjeaa.nth xs j < 65536 := by
  have := Dig.at_ h (by decide) j
  unfold Go.Proofs.Ytjkogajdpkbjeaa.nth
  omega
section
variable {w w' : World} {B B' n m c : Nat} {A : Option Addr} {xs : List Nat}
theorem DRd.keep (h : DRd w B A n c xs) (hk : ∀ p : Addr, p.block < B → w'.cell? p = w.cell? p) : DRd w' B A n c xs := ⟨h.len, h.cap, h.lim, h.rd.keep hk⟩
theorem DRd.more (h : DRd w B A n c xs) (hB : B ≤ B') : DRd w B' A n c xs := ⟨h.len, h.cap, h.lim, h.rd.more hB⟩
theorem DRd.below (h : DRd w B A n c xs) (hb : Below B' w w') (hB : B ≤ B') : DRd w' B A n c xs := ⟨h.len, h.cap, h.lim, h.rd.below hb hB⟩
theorem DRd.alloc (h : DRd w B A n c xs) (hB : B ≤ w.heap.size) (o : Obj) : DRd (w.alloc o) B A n c xs := h.keep fun p hp => World.cell?_alloc_lt w o p (by omega)
theorem DRd.drewN (h : DRd w B A n c xs) (q : Nat) : DRd (w.drewN q) B A n c xs := h.keep (fun _ _ => rfl)
end
abbrev digs (xs : List Nat) : List Value := xs.map fun (x : Nat) => Value.int .i64 (x : Int)
theorem info64 : (Try.prog.info? 3).map (fun i => (i.zero, i.size, i.bytes)) = some (some (.int .i64 0), 1, 8) := by kernel_rfl
theorem mk64 (n : Nat) (hn : n ≤ 17592186044416) (w : World) :
    (Instr.makeSlice 34 (.int .i64 (n : Int)) (.int .i64 (n : Int))).run Try.prog w = .ok (.slice (some ⟨w.heap.size, 0, none⟩) n n) (w.alloc (.cells (List.replicate n (Value.int .i64 0)).toArray 3)) := by
  obtain ⟨i, hi, hz, hs, hb⟩ := info_parts info64
  have hr := run_make (P := Try.prog) w 34 3 i (.int .i64 0) Try.underlying34 hi hz .i64 .i64 (n : Int) (n : Int) (by omega) (by omega) (by rw [hb]; omega) (by omega)
  rw [hr, hs]
  simp only [Int.toNat_natCast, Nat.mul_one]
  congr 3
  have := toList_madeCells_one (Value.int .i64 0) n
  rw [← this]
  simp [Value.cells]

/-- Block g begins with the limbs cs; behind them may be more cells. -/
def R64 (w : World) (g : Nat) (cs : List Nat) : Prop := ∃ more : List Value, Row w g 3 ((cs.map fun (x : Nat) => Value.int .i64 (x : Int)) ++ more)
section
variable {w w' : World} {g : Nat} {cs : List Nat}
theorem R64.lt (h : R64 w g cs) : g < w.heap.size := Row.lt h.choose_spec
theorem R64.cell (h : R64 w g cs) {j : Nat} (hj : j < cs.length) : w.cell? ⟨g, j, none⟩ = some (.int .i64 (nth cs j)) := by
  obtain ⟨more, h⟩ := h
  rw [Row.cell h, List.getElem?_append_left (by simpa using hj)]
  unfold nth
  simp [hj]
theorem R64.frozen (h : R64 w g cs) (j : Nat) : w.frozen? ⟨g, j, none⟩ = false := Row.frozen h.choose_spec j
theorem R64.new (w : World) (n : Nat) : R64 (w.alloc (.cells (List.replicate n (Value.int .i64 0)).toArray 3)) w.heap.size (List.replicate n 0) := by
  refine ⟨[], ?_⟩
  rw [List.map_replicate, List.append_nil]
  exact Row.new w 3 _
theorem R64.alloc (h : R64 w g cs) (o : Obj) : R64 (w.alloc o) g cs := ⟨_, Row.alloc h.choose_spec o⟩
theorem R64.put (h : R64 w g cs) (j : Nat) {v : Int} (hv : 0 ≤ v) : R64 (w.setCell ⟨g, j, none⟩ (.int .i64 v)) g (cs.set j v.toNat) := by
  obtain ⟨more, h⟩ := h
  have e : ((v.toNat : Nat) : Int) = v := Int.toNat_of_nonneg hv
  have h2 := Row.set_ h j (.int .i64 v)
  rw [List.set_append] at h2
  split at h2
  · refine ⟨more, ?_⟩
    rw [List.map_set, e]
    exact h2
  · rename_i hj
    rw [List.set_eq_of_length_le (by simpa using hj)]
    exact ⟨_, h2⟩
theorem R64.far (h : R64 w g cs) {p : Addr} (hp : g ≠ p.block) (u : Value) : R64 (w.setCell p u) g cs := ⟨_, Row.far h.choose_spec hp u⟩
theorem R64.below {B : Nat} (h : R64 w g cs) (hb : Below B w w') (hg : g < B) : R64 w' g cs := ⟨_, Row.below h.choose_spec hb hg⟩
theorem R64.grown {row : Option Nat} (h : R64 w g cs) (hb : w.grownBy w' row) (hg : some g ≠ row) : R64 w' g cs := ⟨_, Row.grown h.choose_spec hb hg⟩
theorem R64.drewN (h : R64 w g cs) (n : Nat) : R64 (w.drewN n) g cs := h
theorem R64.drew (h : R64 w g cs) : R64 w.drew g cs := h
theorem R64.pre (h : R64 w g cs) (k : Nat) : R64 w g (cs.take k) := by
  obtain ⟨more, h⟩ := h
  refine ⟨((cs.drop k).map fun (x : Nat) => Value.int .i64 (x : Int)) ++ more, ?_⟩
  rw [← List.append_assoc, ← List.map_append, List.take_append_drop]
  exact h
theorem R64.of_own {base c n : Nat} {A : Option Addr} (h : w.ownsRow base 3 1 (.slice A n c) n (cs.map fun (x : Nat) => Value.int .i64 (x : Int))) (hn : 0 < n) : ∃ g, A = some ⟨g, 0, none⟩ ∧ base ≤ g ∧ R64 w g cs ∧ n ≤ c ∧ c ≤ maxLen := by
  rcases h.2 with ⟨_, h0⟩ | ⟨g, cap, cur, hv, hg, hh, h1, h2, _, h3⟩
  · omega
  · injection hv with e1 e2 e3
    subst e1; subst e3
    refine ⟨g, rfl, hg, ⟨cur.toList.drop (n * 1), ?_⟩, h1, h2⟩
    rw [← h3, List.take_append_drop]
    unfold Row
    rw [hh]
/-- A part of the row, as a slice. -/
theorem R64.drd (h : R64 w g cs) (hl : Dig 65536 cs) {B o n c : Nat} (hB : g < B) (hn : o + n ≤ cs.length) (hc : n ≤ c ∧ c ≤ 9223372036854775807) : DRd w B (some ⟨g, o, none⟩) n c ((cs.drop o).take n) := by
  refine ⟨?_, hc, fun x hx => hl x (List.mem_of_mem_drop (List.mem_of_mem_take hx)), fun _ => ⟨g, o, rfl, hB, fun j hj => ?_⟩⟩
  · show _ = _
    rw [List.length_take, List.length_drop]; omega
  · rw [h.cell (by omega)]
    congr 2
    unfold nth
    rw [getD_take, if_pos hj, getD_drop]
theorem R64.drd0 (h : R64 w g cs) (hl : Dig 65536 cs) {B n c : Nat} (hB : g < B) (hn : n ≤ cs.length) (hc : n ≤ c ∧ c ≤ 9223372036854775807) : DRd w B (some ⟨g, 0, none⟩) n c (cs.take n) :=
  h.drd hl hB (by omega) hc
end
theorem Dig.set {cs : List Nat} (h : Dig 65536 cs) {j x : Nat} (hx : x < 65536) : Dig 65536 (cs.set j x) := by
  intro y hy
  rcases List.mem_or_eq_of_mem_set hy with h1 | h1
  · exact h y h1
  · omega
theorem Dig.zeros (n : Nat) : Dig 65536 (List.replicate n 0) := by intro x hx; have := List.eq_of_mem_replicate hx; omega
theorem Dig.take {cs : List Nat} (h : Dig 65536 cs) (n : Nat) : Dig 65536 (cs.take n) := fun x hx => h x (List.mem_of_mem_take hx)
theorem Dig.nil : Dig 65536 [] := by intro x hx; cases hx
theorem Dig.snoc {cs : List Nat} (h : Dig 65536 cs) {x : Nat} (hx : x < 65536) : Dig 65536 (cs ++ [x]) := by
  intro y hy
  rcases List.mem_append.1 hy with h1 | h1
  · exact h y h1
  · rw [List.mem_singleton] at h1; omega
/-- What a function gives that makes a new number. -/
def GivesN (w : World) (p : Nat) (e : Ending) (w' : World) : Prop :=
  ∃ A k c zs, e = .returned (.slice A k c) ∧ DRd w' w'.heap.size A k c zs ∧ Rep 65536 zs p ∧ Below w.heap.size w w'
theorem trimmedD {n k : Nat} {cs : List Nat} (h : TrimTo n cs k) (hl : cs.length = n) (hd : Dig 65536 cs) : Rep 65536 (cs.take k) (vb 65536 cs) := by
  have e : (cs.take k).length = k := by rw [List.length_take]; have := h.le; omega
  refine ⟨hd.take k, vb_take_of_zeros (by have := h.le; omega) (fun j h1 h2 => h.zeros j h1 (by omega)), fun m hm => ?_⟩
  rw [getD_take, if_pos (by omega)]
  exact h.top m (by omega)
/-- What the call owns reads as digits. -/
theorem own_drd {w : World} {base n c : Nat} {A : Option Addr} {zs : List Nat} (h : w.ownsRow base 3 1 (.slice A n c) n (digs zs)) (hd : Dig 65536 zs) : DRd w w.heap.size A n c zs := by
  have hl : zs.length = n := by have := h.1; rw [List.length_map] at this; omega
  obtain ⟨A', c', e, h1, h2⟩ := own_shape h
  injection e with e1 e2 e3
  subst e3
  have hc : n ≤ c ∧ c ≤ 9223372036854775807 := ⟨h1, h2⟩
  rcases Nat.eq_zero_or_pos n with e | e
  · subst e
    exact ⟨hl, hc, hd, fun h0 => absurd h0 (by omega)⟩
  · obtain ⟨g, rfl, _, hR, _⟩ := R64.of_own h e
    have := hR.drd0 hd (B := w.heap.size) (n := n) (c := c) hR.lt (by omega) hc
    rwa [List.take_of_length_le (by omega)] at this
theorem gives_own {w w' : World} {base n c k p : Nat} {A : Option Addr} {zs : List Nat} (h : w'.ownsRow base 3 1 (.slice A n c) n (digs zs)) (hd : Dig 65536 zs) (ht : TrimTo n zs k) (hb : Below w.heap.size w w') (hv : vb 65536 zs = p) : GivesN w p (.returned (.slice A k c)) w' := by
  have hl : zs.length = n := by have := h.1; rw [List.length_map] at this; omega
  have hk := ht.le
  have hr := own_drd h hd
  subst hv
  refine ⟨A, k, c, zs.take k, rfl, ⟨by show _ = _; rw [List.length_take]; omega, ⟨by have := hr.cap; omega, hr.cap.2⟩, hd.take k, ?_⟩, trimmedD ht hl hd, hb⟩
  refine (hr.rd.take hk).congr (fun j hj => ?_)
  show Value.int .i64 _ = Value.int .i64 _
  congr 1
  unfold nth
  rw [getD_take, if_pos hj]
theorem digs_snoc (zs : List Nat) {v : Int} (hv : 0 ≤ v) : digs (zs ++ [v.toNat]) = digs zs ++ [.int .i64 v] := by
  have e : ((v.toNat : Nat) : Int) = v := Int.toNat_of_nonneg hv
  simp [digs, e]
def TrimPostD (n : Nat) (xs : List Nat) (A : Option Addr) (c : Nat) (w : World) (e : Ending) (w' : World) : Prop := ∃ k, e = .returned (.slice A k c) ∧ TrimTo n xs k ∧ w = w'
def TrimRelD (n : Nat) (xs : List Nat) (A : Option Addr) (c : Nat) (v : Value) : Prop := ∃ k, k ≤ n ∧ v = .slice A k c ∧ ∀ j, k ≤ j → j < n → xs.getD j 0 = 0

theorem trimD_any (w : World) (B : Nat) (A : Option Addr) (n c : Nat) (xs : List Nat) (h : DRd w B A n c xs) : Calls Try.prog 45 #[.slice A n c] w (TrimPostD n xs A c w) := by
  have hcap := h.cap
  go_enter Try.func45, Try.ntmps45
  go_wp2
  go_loop [0] (TrimRelD n xs A c) (fun v => slen v)
  case atStart => exact ⟨n, Nat.le_refl _, rfl, fun j h1 h2 => absurd h1 (by omega)⟩
  case round =>
    obtain ⟨k, hk, rfl, hz⟩ := hrel
    have HZ := Lib.hid hz
    clear hz
    by_cases h0 : k = 0
    · subst h0
      go_wp2
      go_ret
      exact ⟨0, rfl, ⟨Nat.zero_le _, HZ.out, fun m hm => by omega⟩, rfl⟩
    · obtain ⟨b, off, rfl, hb, hc⟩ := h.rd (by omega)
      obtain ⟨m, rfl⟩ : ∃ m, k = m + 1 := ⟨k - 1, by omega⟩
      have hcell := hc m (by omega)
      have l1 := nth_nn xs m
      have l2 := h.lim.nth m
      clear hc h0
      by_cases hx : nth xs m = 0
      · have hx' : (nth xs m == 0) = true := beq_iff_eq.2 hx
        have HX := Lib.hid (nth_zero hx)
        clear hx
        go_wp2
        go_round
        case rel => exact ⟨m, by omega, rfl, fun j h1 h2 => by rcases Nat.lt_or_ge m j with h3 | h3; exact HZ.out j (by omega) h2; rw [show j = m by omega]; exact HX.out⟩
        case measure => simp [slen]
      · have hx' : (nth xs m == 0) = false := beq_eq_false_iff_ne.2 hx
        have HX := Lib.hid (nth_pos hx)
        clear hx
        go_wp2
        go_ret
        exact ⟨m + 1, rfl, ⟨by omega, HZ.out, fun i hi => by rw [show i = m by omega]; exact HX.out⟩, rfl⟩

end Go.Proofs.Ytjkogajdpkbjeaa
