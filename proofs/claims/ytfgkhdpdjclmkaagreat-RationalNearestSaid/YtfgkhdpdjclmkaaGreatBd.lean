/- Digits to the base 65536, as lists of ints: what a slice reads as, rows, make. The reference's Compare and SameLimbs. The reference's Plus. The reference's Of and Limbs. The law's comparison of a result. The law's examples. The reference's Minus. The reference's Times. NaturalArithmetic: the law, where an argument is not valid. NaturalArithmetic: the law, where both arguments are valid. What Of gives is new memory. -/
import Derived.Test.YtfgkhdpdjclmkaaGreatBa
import Derived.Test.YtfgkhdpdjclmkaaGreatBb
import Derived.Deep.QuietTactic
import Derived.BigQuiet
import Derived.Deep.RegionLaw
import Derived.Deep.AppendLies
import Derived.Test.YtfgkhdpdjclmkaaGreatBc
import Derived.Deep.RegionWith
import Derived.Deep.RegionHeld3
import Derived.Deep.DeepCutAuto
namespace Go.Proofs.YtfgkhdpdjclmkaaGreat
open Go.RowKit
set_option maxHeartbeats 400000
set_option maxRecDepth 100000
set_option linter.unusedSimpArgs false
set_option linter.unusedVariables false

structure DRd (w : World) (B : Nat) (A : Option Addr) (n c : Nat) (xs : List Nat) : Prop where
  len : Hid (xs.length = n)
  cap : n ≤ c ∧ c ≤ 9223372036854775807
  lim : Dig 65536 xs
  rd : Rd w B A n (fun j => .int .i64 (nth xs j))
theorem Dig.nth {xs : List Nat} (h : Dig 65536 xs) (j : Nat) : Go.Proofs.YtfgkhdpdjclmkaaGreat.nth xs j < 65536 := by
  have := Dig.at_ h (by decide) j
  unfold Go.Proofs.YtfgkhdpdjclmkaaGreat.nth
  omega
section
variable {w w' : World} {B B' n m c : Nat} {A : Option Addr} {xs : List Nat}
theorem DRd.keep (h : DRd w B A n c xs) (hk : ∀ p : Addr, p.block < B → w'.cell? p = w.cell? p) : DRd w' B A n c xs := ⟨h.len, h.cap, h.lim, h.rd.keep hk⟩
theorem DRd.more (h : DRd w B A n c xs) (hB : B ≤ B') : DRd w B' A n c xs := ⟨h.len, h.cap, h.lim, h.rd.more hB⟩
theorem DRd.below (h : DRd w B A n c xs) (hb : Below B' w w') (hB : B ≤ B') : DRd w' B A n c xs := ⟨h.len, h.cap, h.lim, h.rd.below hb hB⟩
theorem DRd.alloc (h : DRd w B A n c xs) (hB : B ≤ w.heap.size) (o : Obj) : DRd (w.alloc o) B A n c xs := h.keep fun p hp => World.cell?_alloc_lt w o p (by omega)
theorem DRd.drewN (h : DRd w B A n c xs) (q : Nat) : DRd (w.drewN q) B A n c xs := h.keep (fun _ _ => rfl)
end
abbrev digs (xs : List Nat) : List Value := xs.map fun (x : Nat) => Value.int .i64 (x : Int)
theorem info64 : (Tryz.prog.info? 3).map (fun i => (i.zero, i.size, i.bytes)) = some (some (.int .i64 0), 1, 8) := by kernel_rfl
theorem mk64 (n : Nat) (hn : n ≤ 17592186044416) (w : World) :
    (Instr.makeSlice 38 (.int .i64 (n : Int)) (.int .i64 (n : Int))).run Tryz.prog w = .ok (.slice (some ⟨w.heap.size, 0, none⟩) n n) (w.alloc (.cells (List.replicate n (Value.int .i64 0)).toArray 3)) := by
  obtain ⟨i, hi, hz, hs, hb⟩ := info_parts info64
  have hr := run_make (P := Tryz.prog) w 38 3 i (.int .i64 0) Tryz.underlying38 hi hz .i64 .i64 (n : Int) (n : Int) (by omega) (by omega) (by rw [hb]; omega) (by omega)
  rw [hr, hs]
  simp only [Int.toNat_natCast, Nat.mul_one]
  congr 3
  have := toList_madeCells_one (Value.int .i64 0) n
  rw [← this]
  simp [Value.cells]
/-- Block g begins with the limbs cs; behind them may be more cells. -/
def R64 (w : World) (g : Nat) (cs : List Nat) : Prop := ∃ more : List Value, Row w g 3 ((cs.map fun (x : Nat) => Value.int .i64 (x : Int)) ++ more)
section
variable {w w' : World} {g : Nat} {cs : List Nat}
theorem R64.lt (h : R64 w g cs) : g < w.heap.size := Row.lt h.choose_spec
theorem R64.cell (h : R64 w g cs) {j : Nat} (hj : j < cs.length) : w.cell? ⟨g, j, none⟩ = some (.int .i64 (nth cs j)) := by
  obtain ⟨more, h⟩ := h
  rw [Row.cell h, List.getElem?_append_left (by simpa using hj)]
  unfold nth
  simp [hj]
theorem R64.frozen (h : R64 w g cs) (j : Nat) : w.frozen? ⟨g, j, none⟩ = false := Row.frozen h.choose_spec j
theorem R64.new (w : World) (n : Nat) : R64 (w.alloc (.cells (List.replicate n (Value.int .i64 0)).toArray 3)) w.heap.size (List.replicate n 0) := by
  refine ⟨[], ?_⟩
  rw [List.map_replicate, List.append_nil]
  exact Row.new w 3 _
theorem R64.alloc (h : R64 w g cs) (o : Obj) : R64 (w.alloc o) g cs := ⟨_, Row.alloc h.choose_spec o⟩
theorem R64.put (h : R64 w g cs) (j : Nat) {v : Int} (hv : 0 ≤ v) : R64 (w.setCell ⟨g, j, none⟩ (.int .i64 v)) g (cs.set j v.toNat) := by
  obtain ⟨more, h⟩ := h
  have e : ((v.toNat : Nat) : Int) = v := Int.toNat_of_nonneg hv
  have h2 := Row.set_ h j (.int .i64 v)
  rw [List.set_append] at h2
  split at h2
  · refine ⟨more, ?_⟩
    rw [List.map_set, e]
    exact h2
  · rename_i hj
    rw [List.set_eq_of_length_le (by simpa using hj)]
    exact ⟨_, h2⟩
theorem R64.far (h : R64 w g cs) {p : Addr} (hp : g ≠ p.block) (u : Value) : R64 (w.setCell p u) g cs := ⟨_, Row.far h.choose_spec hp u⟩
theorem R64.below {B : Nat} (h : R64 w g cs) (hb : Below B w w') (hg : g < B) : R64 w' g cs := ⟨_, Row.below h.choose_spec hb hg⟩
theorem R64.grown {row : Option Nat} (h : R64 w g cs) (hb : w.grownBy w' row) (hg : some g ≠ row) : R64 w' g cs := ⟨_, Row.grown h.choose_spec hb hg⟩
theorem R64.drewN (h : R64 w g cs) (n : Nat) : R64 (w.drewN n) g cs := h
theorem R64.drew (h : R64 w g cs) : R64 w.drew g cs := h
theorem R64.pre (h : R64 w g cs) (k : Nat) : R64 w g (cs.take k) := by
  obtain ⟨more, h⟩ := h
  refine ⟨((cs.drop k).map fun (x : Nat) => Value.int .i64 (x : Int)) ++ more, ?_⟩
  rw [← List.append_assoc, ← List.map_append, List.take_append_drop]
  exact h
theorem R64.of_own {base c n : Nat} {A : Option Addr} (h : w.ownsRow base 3 1 (.slice A n c) n (cs.map fun (x : Nat) => Value.int .i64 (x : Int))) (hn : 0 < n) : ∃ g, A = some ⟨g, 0, none⟩ ∧ base ≤ g ∧ R64 w g cs ∧ n ≤ c ∧ c ≤ maxLen := by
  rcases h.2 with ⟨_, h0⟩ | ⟨g, cap, cur, hv, hg, hh, h1, h2, _, h3⟩
  · omega
  · injection hv with e1 e2 e3
    subst e1; subst e3
    refine ⟨g, rfl, hg, ⟨cur.toList.drop (n * 1), ?_⟩, h1, h2⟩
    rw [← h3, List.take_append_drop]
    unfold Row
    rw [hh]
/-- A part of the row, as a slice. -/
theorem R64.drd (h : R64 w g cs) (hl : Dig 65536 cs) {B o n c : Nat} (hB : g < B) (hn : o + n ≤ cs.length) (hc : n ≤ c ∧ c ≤ 9223372036854775807) : DRd w B (some ⟨g, o, none⟩) n c ((cs.drop o).take n) := by
  refine ⟨?_, hc, fun x hx => hl x (List.mem_of_mem_drop (List.mem_of_mem_take hx)), fun _ => ⟨g, o, rfl, hB, fun j hj => ?_⟩⟩
  · show _ = _
    rw [List.length_take, List.length_drop]; omega
  · rw [h.cell (by omega)]
    congr 2
    unfold nth
    rw [getD_take, if_pos hj, getD_drop]
theorem R64.drd0 (h : R64 w g cs) (hl : Dig 65536 cs) {B n c : Nat} (hB : g < B) (hn : n ≤ cs.length) (hc : n ≤ c ∧ c ≤ 9223372036854775807) : DRd w B (some ⟨g, 0, none⟩) n c (cs.take n) :=
  h.drd hl hB (by omega) hc
end
theorem Dig.set {cs : List Nat} (h : Dig 65536 cs) {j x : Nat} (hx : x < 65536) : Dig 65536 (cs.set j x) := by
  intro y hy
  rcases List.mem_or_eq_of_mem_set hy with h1 | h1
  · exact h y h1
  · omega
theorem Dig.zeros (n : Nat) : Dig 65536 (List.replicate n 0) := by intro x hx; have := List.eq_of_mem_replicate hx; omega
theorem Dig.take {cs : List Nat} (h : Dig 65536 cs) (n : Nat) : Dig 65536 (cs.take n) := fun x hx => h x (List.mem_of_mem_take hx)
theorem Dig.nil : Dig 65536 [] := by intro x hx; cases hx
theorem Dig.snoc {cs : List Nat} (h : Dig 65536 cs) {x : Nat} (hx : x < 65536) : Dig 65536 (cs ++ [x]) := by
  intro y hy
  rcases List.mem_append.1 hy with h1 | h1
  · exact h y h1
  · rw [List.mem_singleton] at h1; omega
/-- What a function gives that makes a new number. -/
def GivesN (w : World) (p : Nat) (e : Ending) (w' : World) : Prop :=
  ∃ A k c zs, e = .returned (.slice A k c) ∧ DRd w' w'.heap.size A k c zs ∧ Rep 65536 zs p ∧ Below w.heap.size w w'
theorem trimmedD {n k : Nat} {cs : List Nat} (h : TrimTo n cs k) (hl : cs.length = n) (hd : Dig 65536 cs) : Rep 65536 (cs.take k) (vb 65536 cs) := by
  have e : (cs.take k).length = k := by rw [List.length_take]; have := h.le; omega
  refine ⟨hd.take k, vb_take_of_zeros (by have := h.le; omega) (fun j h1 h2 => h.zeros j h1 (by omega)), fun m hm => ?_⟩
  rw [getD_take, if_pos (by omega)]
  exact h.top m (by omega)
/-- What the call owns reads as digits. -/
theorem own_drd {w : World} {base n c : Nat} {A : Option Addr} {zs : List Nat} (h : w.ownsRow base 3 1 (.slice A n c) n (digs zs)) (hd : Dig 65536 zs) : DRd w w.heap.size A n c zs := by
  have hl : zs.length = n := by have := h.1; rw [List.length_map] at this; omega
  obtain ⟨A', c', e, h1, h2⟩ := own_shape h
  injection e with e1 e2 e3
  subst e3
  have hc : n ≤ c ∧ c ≤ 9223372036854775807 := ⟨h1, h2⟩
  rcases Nat.eq_zero_or_pos n with e | e
  · subst e
    exact ⟨hl, hc, hd, fun h0 => absurd h0 (by omega)⟩
  · obtain ⟨g, rfl, _, hR, _⟩ := R64.of_own h e
    have := hR.drd0 hd (B := w.heap.size) (n := n) (c := c) hR.lt (by omega) hc
    rwa [List.take_of_length_le (by omega)] at this
theorem gives_own {w w' : World} {base n c k p : Nat} {A : Option Addr} {zs : List Nat} (h : w'.ownsRow base 3 1 (.slice A n c) n (digs zs)) (hd : Dig 65536 zs) (ht : TrimTo n zs k) (hb : Below w.heap.size w w') (hv : vb 65536 zs = p) : GivesN w p (.returned (.slice A k c)) w' := by
  have hl : zs.length = n := by have := h.1; rw [List.length_map] at this; omega
  have hk := ht.le
  have hr := own_drd h hd
  subst hv
  refine ⟨A, k, c, zs.take k, rfl, ⟨by show _ = _; rw [List.length_take]; omega, ⟨by have := hr.cap; omega, hr.cap.2⟩, hd.take k, ?_⟩, trimmedD ht hl hd, hb⟩
  refine (hr.rd.take hk).congr (fun j hj => ?_)
  show Value.int .i64 _ = Value.int .i64 _
  congr 1
  unfold nth
  rw [getD_take, if_pos hj]
theorem digs_snoc (zs : List Nat) {v : Int} (hv : 0 ≤ v) : digs (zs ++ [v.toNat]) = digs zs ++ [.int .i64 v] := by
  have e : ((v.toNat : Nat) : Int) = v := Int.toNat_of_nonneg hv
  simp [digs, e]
def TrimPostD (n : Nat) (xs : List Nat) (A : Option Addr) (c : Nat) (w : World) (e : Ending) (w' : World) : Prop := ∃ k, e = .returned (.slice A k c) ∧ TrimTo n xs k ∧ w = w'
def TrimRelD (n : Nat) (xs : List Nat) (A : Option Addr) (c : Nat) (v : Value) : Prop := ∃ k, k ≤ n ∧ v = .slice A k c ∧ ∀ j, k ≤ j → j < n → xs.getD j 0 = 0
theorem trimD_any (w : World) (B : Nat) (A : Option Addr) (n c : Nat) (xs : List Nat) (h : DRd w B A n c xs) : Calls Tryz.prog 72 #[.slice A n c] w (TrimPostD n xs A c w) := by
  have hcap := h.cap
  go_enter Tryz.func72, Tryz.ntmps72
  go_wp2
  go_loop [0] (TrimRelD n xs A c) (fun v => slen v)
  case atStart => exact ⟨n, Nat.le_refl _, rfl, fun j h1 h2 => absurd h1 (by omega)⟩
  case round =>
    obtain ⟨k, hk, rfl, hz⟩ := hrel
    have HZ := Lib.hid hz
    clear hz
    by_cases h0 : k = 0
    · subst h0
      go_wp2
      go_ret
      exact ⟨0, rfl, ⟨Nat.zero_le _, HZ.out, fun m hm => by omega⟩, rfl⟩
    · obtain ⟨b, off, rfl, hb, hc⟩ := h.rd (by omega)
      obtain ⟨m, rfl⟩ : ∃ m, k = m + 1 := ⟨k - 1, by omega⟩
      have hcell := hc m (by omega)
      have l1 := nth_nn xs m
      have l2 := h.lim.nth m
      clear hc h0
      by_cases hx : nth xs m = 0
      · have hx' : (nth xs m == 0) = true := beq_iff_eq.2 hx
        have HX := Lib.hid (nth_zero hx)
        clear hx
        go_wp2
        go_round
        case rel => exact ⟨m, by omega, rfl, fun j h1 h2 => by rcases Nat.lt_or_ge m j with h3 | h3; exact HZ.out j (by omega) h2; rw [show j = m by omega]; exact HX.out⟩
        case measure => simp [slen]
      · have hx' : (nth xs m == 0) = false := beq_eq_false_iff_ne.2 hx
        have HX := Lib.hid (nth_pos hx)
        clear hx
        go_wp2
        go_ret
        exact ⟨m + 1, rfl, ⟨by omega, HZ.out, fun i hi => by rw [show i = m by omega]; exact HX.out⟩, rfl⟩
theorem compareD_len (w : World) (A D : Option Addr) (n m c d : Nat) (xs ys : List Nat) (hn : n ≤ 9223372036854775807) (hm : m ≤ 9223372036854775807) (hne : n ≠ m) :
    Calls Tryz.prog 46 #[.slice A n c, .slice D m d] w (CmpPost n m xs ys w) := by
  have h1 : ((n : Int) != (m : Int)) = true := by rw [bne_iff_ne]; omega
  by_cases hlt : n < m
  · have h2 : decide ((n : Int) < (m : Int)) = true := by simp; omega
    go_enter Tryz.func46, Tryz.ntmps46
    go_wp2_with fail
    go_ret
    exact ⟨_, rfl, CmpIs.lt_len hlt, 0, rfl⟩
  · have h2 : decide ((n : Int) < (m : Int)) = false := by simp; omega
    go_enter Tryz.func46, Tryz.ntmps46
    go_wp2_with fail
    go_ret
    exact ⟨_, rfl, CmpIs.gt_len (by omega), 0, rfl⟩
theorem compareD_same (w : World) (B : Nat) (A D : Option Addr) (n c d : Nat) (xs ys : List Nat) (h : DRd w B A n c xs) (k : DRd w B D n d ys) :
    Calls Tryz.prog 46 #[.slice A n c, .slice D n d] w (CmpPost n n xs ys w) := by
  have hcap := h.cap
  go_enter Tryz.func46, Tryz.ntmps46
  go_wp2_with fail
  go_loopw [5] (CmpRel n xs ys w) (fun v _ => (intOf v + 1).toNat)
  case atStart => exact ⟨(n : Int) - 1, rfl, by omega, by omega, fun j h1 h2 => by omega, 0, rfl⟩
  case round =>
    obtain ⟨i, rfl, h1, h2, he, q, rfl⟩ := hrel
    have HE := Lib.hid he
    clear he
    by_cases h0 : i = -1
    · subst h0
      go_wp2_with fail
      go_ret
      exact ⟨0, rfl, ⟨fun e => by omega, fun _ => ⟨rfl, fun j hj => HE.out j (by omega) hj⟩, fun e => by omega, .inr (.inl rfl)⟩, q, rfl⟩
    · obtain ⟨j, rfl⟩ := Int.eq_ofNat_of_zero_le (show 0 ≤ i by omega)
      obtain ⟨b, off, rfl, hb, hc⟩ := h.rd (by omega)
      obtain ⟨b', off', rfl, hb', hc'⟩ := k.rd (by omega)
      have g1 := hc j (by omega)
      have g2 := hc' j (by omega)
      have a1 := nth_nn xs j
      have a2 := h.lim.nth j
      have a3 := nth_nn ys j
      have a4 := k.lim.nth j
      clear hc hc' h0
      by_cases hy : nth xs j < nth ys j
      · have e2 : decide (nth xs j < nth ys j) = true := decide_eq_true hy
        have HX := Lib.hid (nth_lt hy)
        clear hy
        go_wp2_with fail
        go_quiet (fail)
        go_wp2_with fail
        go_ret
        exact ⟨-1, rfl, ⟨fun _ => .inr ⟨rfl, j, by omega, HX.out, fun i h3 h4 => HE.out i (by omega) h4⟩, fun e => by omega, fun e => by omega, .inl rfl⟩, _, (by first | (rw [World.drewN_drewN, World.drewN_drewN]; done) | (rw [World.drewN_drewN]; done) | rfl)⟩
      · have e2 : decide (nth xs j < nth ys j) = false := decide_eq_false hy
        by_cases hx : nth ys j < nth xs j
        · have e3 : decide (nth ys j < nth xs j) = true := decide_eq_true hx
          have HX := Lib.hid (nth_lt hx)
          clear hx hy
          go_wp2_with fail
          go_quiet (fail)
          go_wp2_with fail
          go_quiet (fail)
          go_wp2_with fail
          go_ret
          exact ⟨1, rfl, ⟨fun e => by omega, fun e => by omega, fun _ => .inr ⟨rfl, j, by omega, HX.out, fun i h3 h4 => (HE.out i (by omega) h4).symm⟩, .inr (.inr rfl)⟩, _, (by first | (rw [World.drewN_drewN, World.drewN_drewN]; done) | (rw [World.drewN_drewN]; done) | rfl)⟩
        · have e3 : decide (nth ys j < nth xs j) = false := decide_eq_false hx
          have HX := Lib.hid (nth_eq (show nth xs j = nth ys j by omega))
          clear hx hy
          go_wp2_with fail
          go_quiet (fail)
          go_wp2_with fail
          go_quiet (fail)
          go_wp2_with fail
          go_roundw
          case rel => exact ⟨(j : Int) - 1, rfl, by omega, by omega, fun i h3 h4 => by rcases Nat.lt_or_ge j i with h5 | h5; exact HE.out i (by omega) h4; rw [show i = j by omega]; exact HX.out, _, (by first | (rw [World.drewN_drewN, World.drewN_drewN]; done) | (rw [World.drewN_drewN]; done) | rfl)⟩
          case measure => first | (simp [intOf]; done) | (simp [intOf]; omega)
theorem compareD_any (w : World) (B : Nat) (A D : Option Addr) (n m c d : Nat) (xs ys : List Nat) (h : DRd w B A n c xs) (k : DRd w B D m d ys) :
    Calls Tryz.prog 46 #[.slice A n c, .slice D m d] w (CmpPost n m xs ys w) := by
  by_cases e : n = m
  · subst e; exact compareD_same w B A D n c d xs ys h k
  · have h1 := h.cap; have h2 := k.cap
    exact compareD_len w A D n m c d xs ys (by omega) (by omega) e
def sameB (xs ys : List Nat) : Bool := decide (xs = ys)
def SameRel (n : Nat) (xs ys : List Nat) (w : World) (v : Value) (wr : World) : Prop := ∃ j : Nat, v = .int .i64 j ∧ j ≤ n ∧ (∀ i : Nat, i < j → xs.getD i 0 = ys.getD i 0) ∧ ∃ k, wr = w.drewN k
def SamePost (xs ys : List Nat) (w : World) (e : Ending) (w' : World) : Prop := e = .returned (.bool (sameB xs ys)) ∧ ∃ k, w' = w.drewN k
theorem same_all {n : Nat} {xs ys : List Nat} (hx : xs.length = n) (hy : ys.length = n) (h : ∀ i : Nat, i < n → xs.getD i 0 = ys.getD i 0) : sameB xs ys = true := by
  unfold sameB
  rw [decide_eq_true_eq]
  refine List.ext_getElem (by omega) (fun j h1 h2 => ?_)
  have := h j (by omega)
  rwa [List.getD_eq_getElem?_getD, List.getD_eq_getElem?_getD, List.getElem?_eq_getElem h1, List.getElem?_eq_getElem h2] at this
theorem same_not {j : Nat} {xs ys : List Nat} (h : nth xs j ≠ nth ys j) : sameB xs ys = false := by
  unfold sameB
  rw [decide_eq_false_iff_not]
  rintro rfl
  exact h rfl
theorem same_len {n m : Nat} {xs ys : List Nat} (hx : xs.length = n) (hy : ys.length = m) (h : n ≠ m) : sameB xs ys = false := by
  unfold sameB
  rw [decide_eq_false_iff_not]
  rintro rfl
  omega
theorem sameLimbs_any (w : World) (B : Nat) (A D : Option Addr) (n m c d : Nat) (xs ys : List Nat) (h : LRd w B A n c xs) (k : LRd w B D m d ys) :
    Calls Tryz.prog 87 #[.slice A n c, .slice D m d] w (SamePost xs ys w) := by
  have hcap := h.cap
  have hcap2 := k.cap
  have hxl := Lib.hid h.len.out
  have hyl := Lib.hid k.len.out
  by_cases hnm : n = m
  · subst hnm
    go_enter Tryz.func87, Tryz.ntmps87
    go_wp2_with fail
    go_loopw [5] (SameRel n xs ys w) (fun v _ => n - (intOf v).toNat)
    case atStart => exact ⟨0, rfl, by omega, fun j h1 => by omega, 0, rfl⟩
    case round =>
      obtain ⟨j, rfl, h1, he, q, rfl⟩ := hrel
      have HE := Lib.hid he
      clear he
      by_cases h0 : j < n
      · obtain ⟨b, off, rfl, hb, hc⟩ := h.rd (by omega)
        obtain ⟨b', off', rfl, hb', hc'⟩ := k.rd (by omega)
        have g1 := hc j (by omega)
        have g2 := hc' j (by omega)
        have a1 := nth_nn xs j
        have a2 := h.lim.nth j
        have a3 := nth_nn ys j
        have a4 := k.lim.nth j
        clear hc hc'
        by_cases hx : nth xs j = nth ys j
        · have e1 : (nth xs j != nth ys j) = false := by rw [hx]; simp
          have HX := Lib.hid (nth_eq hx)
          clear hx
          go_wp2_with fail
          go_quiet (fail)
          go_wp2_with fail
          go_roundw
          case rel => exact ⟨j + 1, by go_num, by omega, fun i h3 => by rcases Nat.lt_or_ge i j with h5 | h5; exact HE.out i h5; rw [show i = j by omega]; exact HX.out, _, (by first | (rw [World.drewN_drewN, World.drewN_drewN]; done) | (rw [World.drewN_drewN]; done) | rfl)⟩
          case measure => simp [intOf]; omega
        · have e1 : (nth xs j != nth ys j) = true := bne_iff_ne.2 hx
          have HX := Lib.hid (same_not hx)
          clear hx
          go_wp2_with fail
          go_quiet (fail)
          go_wp2_with fail
          go_ret
          exact ⟨retb_of HX.out.symm, _, (by first | (rw [World.drewN_drewN, World.drewN_drewN]; done) | (rw [World.drewN_drewN]; done) | rfl)⟩
      · obtain rfl : j = n := by omega
        go_wp2_with fail
        go_ret
        exact ⟨retb_of (same_all hxl.out hyl.out HE.out).symm, q, rfl⟩
  · have h1 : ((n : Int) != (m : Int)) = true := by rw [bne_iff_ne]; omega
    go_enter Tryz.func87, Tryz.ntmps87
    go_wp2_with fail
    go_ret
    exact ⟨retb_of (same_len hxl.out hyl.out hnm).symm, 0, rfl⟩
theorem own_next {w wr w1 : World} {v v' : Value} {zs : List Nat} {x : Int} {o : Obj} (hx : 0 ≤ x) (hb : Below w.heap.size w wr) (hown : wr.ownsRow w.heap.size 3 1 v zs.length (digs zs))
    (hown' : w1.ownsRow w.heap.size 3 1 v' (zs.length + 1) (digs zs ++ [.int .i64 x])) (hg : (wr.alloc o).grownBy w1 v.ownBlock) :
    w1.ownsRow w.heap.size 3 1 v' (zs ++ [x.toNat]).length (digs (zs ++ [x.toNat])) ∧ Below w.heap.size w w1 := by
  refine ⟨by rw [digs_snoc zs hx, List.length_append]; exact hown', ?_⟩
  exact (hb.alloc hb.size o).grown hg (by have := hb.size; simp; omega) (fun k hk => (hown.lt k hk).1)
theorem S_snoc_low {b : Nat} {zs : List Nat} {x k : Nat} (hk : k ≤ zs.length) : S b (fun i => (zs ++ [x]).getD i 0) k = S b (fun i => zs.getD i 0) k :=
  S_ext (fun j hj => by rw [getD_append, if_pos (by omega)])
theorem S_snoc {b : Nat} {zs : List Nat} {x k : Nat} (hk : zs.length = k) : S b (fun i => (zs ++ [x]).getD i 0) (k + 1) = S b (fun i => zs.getD i 0) k + x * b ^ k := by
  rw [S_succ, S_snoc_low (by omega), getD_append, if_neg (by omega), hk, Nat.sub_self]; rfl
theorem plus_nat {b k c d r x y z s t : Nat} (h : z + c * b ^ k = s + t) (e : r + b * d = c + x + y) : z + r * b ^ k + d * b ^ (k + 1) = (s + x * b ^ k) + (t + y * b ^ k) := by
  rw [Nat.pow_succ]
  generalize b ^ k = P at *
  grind
/-- k digits are done; behind the longer list there is a carry at most once. -/
def PlRel (M : Nat) (xs ys : List Nat) (w : World) (out carry i : Value) (wr : World) : Prop :=
  ∃ (k : Nat) (c : Int) (zs : List Nat), k ≤ M + 1 ∧ i = .int .i64 k ∧ carry = .int .i64 c ∧ 0 ≤ c ∧ c ≤ 1 ∧ (k = M + 1 → c = 0) ∧ wr.ownsRow w.heap.size 3 1 out zs.length (digs zs) ∧ Hid (zs.length = k) ∧ Dig 65536 zs ∧ Below w.heap.size w wr ∧
    Hid (S 65536 (fun i => zs.getD i 0) k + c.toNat * 65536 ^ k = S 65536 (fun i => xs.getD i 0) k + S 65536 (fun i => ys.getD i 0) k)
theorem plus_step {zs xs ys : List Nat} {k : Nat} {c t : Int} (hk : zs.length = k) (hc : 0 ≤ c) (ht : t = c + nth xs k + nth ys k)
    (h : S 65536 (fun i => zs.getD i 0) k + c.toNat * 65536 ^ k = S 65536 (fun i => xs.getD i 0) k + S 65536 (fun i => ys.getD i 0) k) :
    S 65536 (fun i => (zs ++ [(t % 65536).toNat]).getD i 0) (k + 1) + (t / 65536).toNat * 65536 ^ (k + 1) = S 65536 (fun i => xs.getD i 0) (k + 1) + S 65536 (fun i => ys.getD i 0) (k + 1) := by
  rw [S_snoc hk, S_succ, S_succ]
  refine plus_nat h ?_
  unfold nth at ht
  omega
theorem plus_last {zs xs ys : List Nat} {k : Nat} (hz : zs.length = k) (hx : xs.length ≤ k) (hy : ys.length ≤ k)
    (h : S 65536 (fun i => zs.getD i 0) k + (0 : Int).toNat * 65536 ^ k = S 65536 (fun i => xs.getD i 0) k + S 65536 (fun i => ys.getD i 0) k) : vb 65536 zs = vb 65536 xs + vb 65536 ys := by
  rw [vb_len hx, vb_len hy, vb_len (by omega)] at h
  simpa using h
theorem nth_out {xs : List Nat} {k : Nat} (h : xs.length ≤ k) : nth xs k = 0 := by unfold nth; rw [getD_none h]; rfl
set_option maxHeartbeats 4000000 in
theorem plus_any (w : World) (B : Nat) (A D : Option Addr) (n m c d M : Nat) (xs ys : List Nat) (h : DRd w B A n c xs) (k : DRd w B D m d ys) (hB : B ≤ w.heap.size) (hn : n ≤ M) (hm : m ≤ M) (hM : M ≤ 10000000000000) (hM2 : M = n ∨ M = m) :
    Calls Tryz.prog 85 #[.slice A n c, .slice D m d] w (GivesN w (vb 65536 xs + vb 65536 ys)) := by
  obtain ⟨i0, hi, hz0, hz1, hz2⟩ := info_parts info64
  have hcap := h.cap
  have hcap2 := k.cap
  have hxl := Lib.hid h.len.out
  have hyl := Lib.hid k.len.out
  go_enter Tryz.func85, Tryz.ntmps85
  go_wp2_with fail
  go_loopw [5, 6, 7] (PlRel M xs ys w) (fun _ _ i _ => M + 2 - (intOf i).toNat)
  case atStart => exact ⟨0, 0, [], by omega, rfl, rfl, by omega, by omega, fun _ => rfl, World.ownsRow_nil _ _ _ _, rfl, Dig.nil, Below.refl _ _, (by show _ = _; simp [S_zero])⟩
  case round =>
    obtain ⟨j, q, zs, hj, rfl, rfl, q0, q1, hq, hown, hzl, hzd, hbw, HS⟩ := hrel
    have HQ := Lib.hid hq
    have hzn : zs.length ≤ M + 1 := by have := hzl.out; omega
    have hsz := hbw.size
    clear hq
    by_cases h1 : j < n
    · by_cases h2 : j < m
      · obtain ⟨b, off, rfl, hb, hc⟩ := h.rd (by omega)
        have g1 := (hbw.cell (p := ⟨b, off + j, none⟩) (by show b < _; omega)).trans (hc j (by omega))
        have a1 := nth_nn xs j
        have a2 := h.lim.nth j
        clear hc
        obtain ⟨b', off', rfl, hb', hc'⟩ := k.rd (by omega)
        have g2 := (hbw.cell (p := ⟨b', off' + j, none⟩) (by show b' < _; omega)).trans (hc' j (by omega))
        have a3 := nth_nn ys j
        have a4 := k.lim.nth j
        clear hc'
        have ST := Lib.hid (plus_step (t := q + nth xs j + nth ys j) hzl.out q0 (by rfl) HS.out)
        have HCZ := Lib.hid (show j + 1 = M + 1 → (q + nth xs j + nth ys j) / 65536 = 0 by intro e; omega)
        have hzn2 : zs.length + 1 ≤ 10000000000002 := by omega
        go_wp2_with (at_builtin; refine wpList_append_own _ rfl _ _ 38 rfl w.heap.size 3 i0 (.int .i64 0) 1 8 Tryz.underlying38 hi hz0 hz1 hz2 rfl (by decide) _ _ _ rfl (hown.alloc _) ⟨wr.heap.size, 0, none⟩ 1 1 [.int .i64 ((q + nth xs j + nth ys j) % 65536)] rfl rfl (cell_one_new _ _ _) (fun u hu => by simp at hu; subst hu; rfl) (by unfold maxLen; omega) (by omega) (by first | (simp; omega) | omega) ?_; intro v' w1 hown' hgrow _)
        obtain ⟨ho, hb1⟩ := own_next (Int.emod_nonneg _ (by decide)) hbw hown hown' hgrow
        clear hown hown' hgrow
        go_wp2_with fail
        go_roundw
        case rel => exact ⟨j + 1, _, _, by omega, by go_num, rfl, Int.ediv_nonneg (by omega) (by decide), by omega, HCZ.out, ho, (by show _ = _; rw [List.length_append, hzl.out]; rfl), hzd.snoc (by omega), hb1, ST.out⟩
        case measure => simp [intOf]; omega

      · obtain ⟨b, off, rfl, hb, hc⟩ := h.rd (by omega)
        have g1 := (hbw.cell (p := ⟨b, off + j, none⟩) (by show b < _; omega)).trans (hc j (by omega))
        have a1 := nth_nn xs j
        have a2 := h.lim.nth j
        clear hc
        have HY := Lib.hid (nth_out (k := j) (by rw [hyl.out]; omega) : nth ys j = 0)
        have ST := Lib.hid (plus_step (t := q + nth xs j) hzl.out q0 (by rw [HY.out]; omega) HS.out)
        have HCZ := Lib.hid (show j + 1 = M + 1 → (q + nth xs j) / 65536 = 0 by intro e; omega)
        have hzn2 : zs.length + 1 ≤ 10000000000002 := by omega
        go_wp2_with (at_builtin; refine wpList_append_own _ rfl _ _ 38 rfl w.heap.size 3 i0 (.int .i64 0) 1 8 Tryz.underlying38 hi hz0 hz1 hz2 rfl (by decide) _ _ _ rfl (hown.alloc _) ⟨wr.heap.size, 0, none⟩ 1 1 [.int .i64 ((q + nth xs j) % 65536)] rfl rfl (cell_one_new _ _ _) (fun u hu => by simp at hu; subst hu; rfl) (by unfold maxLen; omega) (by omega) (by first | (simp; omega) | omega) ?_; intro v' w1 hown' hgrow _)
        obtain ⟨ho, hb1⟩ := own_next (Int.emod_nonneg _ (by decide)) hbw hown hown' hgrow
        clear hown hown' hgrow
        go_wp2_with fail
        go_roundw
        case rel => exact ⟨j + 1, _, _, by omega, by go_num, rfl, Int.ediv_nonneg (by omega) (by decide), by omega, HCZ.out, ho, (by show _ = _; rw [List.length_append, hzl.out]; rfl), hzd.snoc (by omega), hb1, ST.out⟩
        case measure => simp [intOf]; omega

    · by_cases h2 : j < m
      · obtain ⟨b', off', rfl, hb', hc'⟩ := k.rd (by omega)
        have g2 := (hbw.cell (p := ⟨b', off' + j, none⟩) (by show b' < _; omega)).trans (hc' j (by omega))
        have a3 := nth_nn ys j
        have a4 := k.lim.nth j
        clear hc'
        have HX := Lib.hid (nth_out (k := j) (by rw [hxl.out]; omega) : nth xs j = 0)
        have ST := Lib.hid (plus_step (t := q + nth ys j) hzl.out q0 (by rw [HX.out]; omega) HS.out)
        have HCZ := Lib.hid (show j + 1 = M + 1 → (q + nth ys j) / 65536 = 0 by intro e; omega)
        have hzn2 : zs.length + 1 ≤ 10000000000002 := by omega
        go_wp2_with (at_builtin; refine wpList_append_own _ rfl _ _ 38 rfl w.heap.size 3 i0 (.int .i64 0) 1 8 Tryz.underlying38 hi hz0 hz1 hz2 rfl (by decide) _ _ _ rfl (hown.alloc _) ⟨wr.heap.size, 0, none⟩ 1 1 [.int .i64 ((q + nth ys j) % 65536)] rfl rfl (cell_one_new _ _ _) (fun u hu => by simp at hu; subst hu; rfl) (by unfold maxLen; omega) (by omega) (by first | (simp; omega) | omega) ?_; intro v' w1 hown' hgrow _)
        obtain ⟨ho, hb1⟩ := own_next (Int.emod_nonneg _ (by decide)) hbw hown hown' hgrow
        clear hown hown' hgrow
        go_wp2_with fail
        go_roundw
        case rel => exact ⟨j + 1, _, _, by omega, by go_num, rfl, Int.ediv_nonneg (by omega) (by decide), by omega, HCZ.out, ho, (by show _ = _; rw [List.length_append, hzl.out]; rfl), hzd.snoc (by omega), hb1, ST.out⟩
        case measure => simp [intOf]; omega

      · by_cases h3 : 0 < q
        · have HX := Lib.hid (nth_out (k := j) (by rw [hxl.out]; omega) : nth xs j = 0)
          have HY := Lib.hid (nth_out (k := j) (by rw [hyl.out]; omega) : nth ys j = 0)
          have hjM : j ≤ M := by rcases Nat.lt_or_ge M j with e | e; have := HQ.out (by omega); omega; exact e
          have ST := Lib.hid (plus_step (t := q) hzl.out q0 (by rw [HX.out, HY.out]; omega) HS.out)
          have HCZ := Lib.hid (show j + 1 = M + 1 → (q) / 65536 = 0 by intro e; omega)
          have hzn2 : zs.length + 1 ≤ 10000000000002 := by omega
          go_wp2_with (at_builtin; refine wpList_append_own _ rfl _ _ 38 rfl w.heap.size 3 i0 (.int .i64 0) 1 8 Tryz.underlying38 hi hz0 hz1 hz2 rfl (by decide) _ _ _ rfl (hown.alloc _) ⟨wr.heap.size, 0, none⟩ 1 1 [.int .i64 (q % 65536)] rfl rfl (cell_one_new _ _ _) (fun u hu => by simp at hu; subst hu; rfl) (by unfold maxLen; omega) (by omega) (by first | (simp; omega) | omega) ?_; intro v' w1 hown' hgrow _)
          obtain ⟨ho, hb1⟩ := own_next (Int.emod_nonneg _ (by decide)) hbw hown hown' hgrow
          clear hown hown' hgrow
          go_wp2_with fail
          go_roundw
          case rel => exact ⟨j + 1, _, _, by omega, by go_num, rfl, Int.ediv_nonneg (by omega) (by decide), by omega, HCZ.out, ho, (by show _ = _; rw [List.length_append, hzl.out]; rfl), hzd.snoc (by omega), hb1, ST.out⟩
          case measure => simp [intOf]; omega

        · obtain rfl : q = 0 := by omega
          have HV := Lib.hid (plus_last (xs := xs) (ys := ys) hzl.out (by rw [hxl.out]; omega) (by rw [hyl.out]; omega) HS.out)
          obtain ⟨A', c', rfl, hc1, hc2⟩ := own_shape hown
          have hdr := own_drd hown hzd
          go_wp2_with fail
          refine (trimD_any _ _ _ _ _ _ hdr).mono ?_
          rintro e w' ⟨t, rfl, ht, rfl⟩
          go_wp2_with fail
          go_ret
          exact gives_own hown hzd ht hbw HV.out
/-- Each limb is two digits. -/
theorem of_nat {k : Nat} {z x s u v : Nat} (h : z = s) (hk : u + 65536 * v = x) : z + u * 65536 ^ (2 * k) + v * 65536 ^ (2 * k + 1) = s + x * 4294967296 ^ k := by
  have e : (4294967296 : Nat) ^ k = 65536 ^ (2 * k) := by rw [Nat.pow_mul]
  rw [e, Nat.pow_succ, h, ← hk]
  generalize 65536 ^ (2 * k) = P
  grind
def OfRel (n : Nat) (xs : List Nat) (w : World) (out i : Value) (wr : World) : Prop :=
  ∃ (k : Nat) (zs : List Nat), k ≤ n ∧ i = .int .i64 k ∧ wr.ownsRow w.heap.size 3 1 out zs.length (digs zs) ∧ Hid (zs.length = 2 * k) ∧ Dig 65536 zs ∧ Below w.heap.size w wr ∧
    Hid (S 65536 (fun i => zs.getD i 0) (2 * k) = S 4294967296 (fun i => xs.getD i 0) k)
theorem of_step {zs xs : List Nat} {k : Nat} (hk : zs.length = 2 * k) (h : S 65536 (fun i => zs.getD i 0) (2 * k) = S 4294967296 (fun i => xs.getD i 0) k) :
    S 65536 (fun i => (zs ++ [(nth xs k % 65536).toNat, (nth xs k / 65536).toNat]).getD i 0) (2 * (k + 1)) = S 4294967296 (fun i => xs.getD i 0) (k + 1) := by
  have e : zs ++ [(nth xs k % 65536).toNat, (nth xs k / 65536).toNat] = (zs ++ [(nth xs k % 65536).toNat]) ++ [(nth xs k / 65536).toNat] := by simp
  rw [e, show 2 * (k + 1) = (2 * k + 1) + 1 by omega, S_snoc (by rw [List.length_append, hk]; rfl), S_snoc hk, S_succ]
  refine of_nat h ?_
  unfold nth
  omega
theorem of_dig {zs : List Nat} (h : Dig 65536 zs) (x : Int) (hx : 0 ≤ x ∧ x < 4294967296) : Dig 65536 (zs ++ [(x % 65536).toNat, (x / 65536).toNat]) := by
  intro y hy
  rcases List.mem_append.1 hy with e | e
  · exact h y e
  · simp only [List.mem_cons, List.not_mem_nil, or_false] at e
    rcases e with e | e <;> omega
theorem cells_two (w : World) (a b : Value) (t : TypeId) : ∀ (j : Nat) (u : Value), [a, b][j]? = some u → (w.alloc (.cells #[a, b] t)).cell? ((⟨w.heap.size, 0, none⟩ : Addr).add j) = some u := by
  intro j u hu
  rw [add_mk, Row.cell (Row.new w t [a, b])]
  simpa using hu
theorem own_next2 {w wr w1 : World} {v v' : Value} {zs : List Nat} {x y : Int} {o : Obj} (hx : 0 ≤ x) (hy : 0 ≤ y) (hb : Below w.heap.size w wr) (hown : wr.ownsRow w.heap.size 3 1 v zs.length (digs zs))
    (hown' : w1.ownsRow w.heap.size 3 1 v' (zs.length + 2) (digs zs ++ [.int .i64 x, .int .i64 y])) (hg : (wr.alloc o).grownBy w1 v.ownBlock) :
    w1.ownsRow w.heap.size 3 1 v' (zs ++ [x.toNat, y.toNat]).length (digs (zs ++ [x.toNat, y.toNat])) ∧ Below w.heap.size w w1 := by
  have e1 : ((x.toNat : Nat) : Int) = x := Int.toNat_of_nonneg hx
  have e2 : ((y.toNat : Nat) : Int) = y := Int.toNat_of_nonneg hy
  refine ⟨by rw [List.length_append]; simpa [digs, e1, e2] using hown', ?_⟩
  exact (hb.alloc hb.size o).grown hg (by have := hb.size; simp; omega) (fun k hk => (hown.lt k hk).1)
set_option maxHeartbeats 4000000 in
theorem of_any (w : World) (B : Nat) (A : Option Addr) (n c : Nat) (xs : List Nat) (h : LRd w B A n c xs) (hB : B ≤ w.heap.size) (hM : n ≤ 4000000000000) :
    Calls Tryz.prog 30 #[.slice A n c] w (GivesN w (vb 4294967296 xs)) := by
  obtain ⟨i0, hi, hz0, hz1, hz2⟩ := info_parts info64
  have hcap := h.cap
  have hxl := Lib.hid h.len.out
  go_enter Tryz.func30, Tryz.ntmps30
  go_wp2_with fail
  go_loopw [3, 4] (OfRel n xs w) (fun _ i _ => n - (intOf i).toNat)
  case atStart => exact ⟨0, [], by omega, rfl, World.ownsRow_nil _ _ _ _, rfl, Dig.nil, Below.refl _ _, (by show _ = _; simp [S_zero])⟩
  case round =>
    obtain ⟨j, zs, hj, rfl, hown, hzl, hzd, hbw, HS⟩ := hrel
    have hzn : zs.length ≤ 2 * n := by have := hzl.out; omega
    have hsz := hbw.size
    by_cases h1 : j < n
    · obtain ⟨b, off, rfl, hb, hc⟩ := h.rd (by omega)
      have g1 := (hbw.cell (p := ⟨b, off + j, none⟩) (by show b < _; omega)).trans (hc j (by omega))
      have a1 := nth_nn xs j
      have a2 := h.lim.nth j
      have ST := Lib.hid (of_step hzl.out HS.out)
      clear hc
      go_wp2_with fail
      have t1 : (nth xs j).tmod 65536 = nth xs j % 65536 := Int.tmod_eq_emod_of_nonneg a1
      have t2 : (nth xs j).tdiv 65536 = nth xs j / 65536 := Int.tdiv_eq_ediv_of_nonneg a1
      have e1 : IntKind.i64.wrap ((nth xs j).tmod 65536) = nth xs j % 65536 := by rw [t1]; exact IntWalk.i64_in _ (by omega)
      have e2 : IntKind.i64.wrap (IntKind.u32.wrap ((nth xs j).tdiv 65536)) = nth xs j / 65536 := by rw [t2, IntWalk.u32_in _ (by omega)]; exact IntWalk.i64_in _ (by omega)
      clear t1 t2
      go_region_law (refine step_append_lies _ rfl (.tmp 11) (.tmp 24) 38 rfl w.heap.size 3 i0 (.int .i64 0) 1 8 Tryz.underlying38 hi hz0 hz1 hz2 rfl (by decide) _ _ _ (by rfl) (hown.alloc _).drew ⟨wr.heap.size, 0, none⟩ 2 2 [.int .i64 (nth xs j % 65536), .int .i64 (nth xs j / 65536)] (by rfl) rfl (by exact cells_two wr _ _ _) (fun u hu => by simp at hu; rcases hu with rfl | rfl <;> rfl) (by omega) (by unfold maxLen; omega) (by omega) (by first | (simp; omega) | omega) _ rfl ?_; intro g cap w1 hown' hgrow _ _)
      all_goals
        obtain ⟨ho, hb1⟩ := own_next2 (Int.emod_nonneg _ (by decide)) (Int.ediv_nonneg a1 (by decide)) hbw hown hown' ⟨hgrow.os, hgrow.tape, hgrow.output, hgrow.size, hgrow.block⟩
        clear hown hown' hgrow
        go_wp2_with fail
        go_roundw
        case rel => exact ⟨j + 1, _, by omega, by go_num, ho, (by show _ = _; rw [List.length_append, hzl.out]; simp; omega), of_dig hzd (nth xs j) ⟨a1, a2⟩, hb1, ST.out⟩
        case measure => simp [intOf]; omega
    · obtain rfl : j = n := by omega
      have HV := Lib.hid (show vb 65536 zs = vb 4294967296 xs by unfold vb; rw [hzl.out, hxl.out]; exact HS.out)
      obtain ⟨A', c', rfl, hc1, hc2⟩ := own_shape hown
      have hdr := own_drd hown hzd
      go_wp2_with fail
      refine (trimD_any _ _ _ _ _ _ hdr).mono ?_
      rintro e w' ⟨t, rfl, ht, rfl⟩
      go_wp2_with fail
      go_ret
      exact gives_own hown hzd ht hbw HV.out
/-- Two digits are a limb. -/
theorem li_nat {k z s u v x : Nat} (h : z = s) (hx : x = u + 65536 * v) : z + x * 4294967296 ^ k = s + u * 65536 ^ (2 * k) + v * 65536 ^ (2 * k + 1) := by
  have e : (4294967296 : Nat) ^ k = 65536 ^ (2 * k) := by rw [Nat.pow_mul]
  rw [e, Nat.pow_succ, h, hx]
  generalize 65536 ^ (2 * k) = P
  grind
def LiRel (n : Nat) (xs : List Nat) (w : World) (out i : Value) (wr : World) : Prop :=
  ∃ (k : Nat) (zs : List Nat), 2 * k ≤ n + 1 ∧ i = .int .i64 (2 * (k : Int)) ∧ wr.ownsRow w.heap.size 95 1 out zs.length (limbs zs) ∧ Hid (zs.length = k) ∧ Lim zs ∧ Below w.heap.size w wr ∧
    Hid (S 4294967296 (fun i => zs.getD i 0) k = S 65536 (fun i => xs.getD i 0) (2 * k)) ∧ Hid (∀ i, i < k → zs.getD i 0 = xs.getD (2 * i) 0 + 65536 * xs.getD (2 * i + 1) 0)
theorem li_step {zs xs : List Nat} {k : Nat} {x : Int} (hk : zs.length = k) (hx : x = nth xs (2 * k) + 65536 * nth xs (2 * k + 1)) (h : S 4294967296 (fun i => zs.getD i 0) k = S 65536 (fun i => xs.getD i 0) (2 * k)) :
    S 4294967296 (fun i => (zs ++ [x.toNat]).getD i 0) (k + 1) = S 65536 (fun i => xs.getD i 0) (2 * (k + 1)) := by
  rw [show 2 * (k + 1) = (2 * k + 1) + 1 by omega, S_snoc hk, S_succ, S_succ]
  refine li_nat h ?_
  unfold nth at hx
  omega
theorem li_all {zs xs : List Nat} {k : Nat} {x : Int} (hk : zs.length = k) (hx : x = nth xs (2 * k) + 65536 * nth xs (2 * k + 1)) (h : ∀ i, i < k → zs.getD i 0 = xs.getD (2 * i) 0 + 65536 * xs.getD (2 * i + 1) 0) :
    ∀ i, i < k + 1 → (zs ++ [x.toNat]).getD i 0 = xs.getD (2 * i) 0 + 65536 * xs.getD (2 * i + 1) 0 := by
  intro i hi
  rw [getD_append]
  rcases Nat.lt_or_ge i k with e | e
  · rw [if_pos (by omega)]; exact h i e
  · obtain rfl : i = k := by omega
    rw [if_neg (by omega), hk, Nat.sub_self]
    show x.toNat = _
    unfold nth at hx
    omega
theorem li_rep {zs xs : List Nat} {k n p : Nat} (hr : Rep 65536 xs p) (hn : xs.length = n) (hk : zs.length = k) (h1 : n ≤ 2 * k) (h2 : 2 * k ≤ n + 1) (hL : Lim zs) (h : S 4294967296 (fun i => zs.getD i 0) k = S 65536 (fun i => xs.getD i 0) (2 * k)) (ha : ∀ i, i < k → zs.getD i 0 = xs.getD (2 * i) 0 + 65536 * xs.getD (2 * i + 1) 0) : Rep 4294967296 zs p := by
  refine ⟨hL, ?_, fun m hm => ?_⟩
  · rw [← hr.val, ← vb_len (xs := xs) (n := 2 * k) (by omega), ← h]; unfold vb; rw [hk]
  · rw [ha m (by omega)]
    obtain ⟨t, ht⟩ : ∃ t, xs.length = t + 1 := ⟨xs.length - 1, by omega⟩
    have h3 := hr.top t ht
    rcases (show t = 2 * m ∨ t = 2 * m + 1 by omega) with e | e
    · rw [← e]; omega
    · rw [← e]; omega
theorem limbs_snoc (zs : List Nat) {v : Int} (hv : 0 ≤ v) : limbs (zs ++ [v.toNat]) = limbs zs ++ [.int .u32 v] := by
  have e : ((v.toNat : Nat) : Int) = v := Int.toNat_of_nonneg hv
  simp [limbs, e]
theorem ownL_next {w wr w1 : World} {v v' : Value} {zs : List Nat} {x : Int} {o : Obj} (hx : 0 ≤ x) (hb : Below w.heap.size w wr) (hown : wr.ownsRow w.heap.size 95 1 v zs.length (limbs zs))
    (hown' : w1.ownsRow w.heap.size 95 1 v' (zs.length + 1) (limbs zs ++ [.int .u32 x])) (hg : (wr.alloc o).grownBy w1 v.ownBlock) :
    w1.ownsRow w.heap.size 95 1 v' (zs ++ [x.toNat]).length (limbs (zs ++ [x.toNat])) ∧ Below w.heap.size w w1 := by
  refine ⟨by rw [limbs_snoc zs hx, List.length_append]; exact hown', ?_⟩
  exact (hb.alloc hb.size o).grown hg (by have := hb.size; simp; omega) (fun k hk => (hown.lt k hk).1)
theorem own_lrd {w : World} {base n c : Nat} {A : Option Addr} {zs : List Nat} (h : w.ownsRow base 95 1 (.slice A n c) n (limbs zs)) (hd : Lim zs) : LRd w w.heap.size A n c zs := by
  have hl : zs.length = n := by have := h.1; rw [List.length_map] at this; omega
  obtain ⟨A', c', e, h1, h2⟩ := own_shape h
  injection e with e1 e2 e3
  subst e3
  have hc : n ≤ c ∧ c ≤ 9223372036854775807 := ⟨h1, h2⟩
  rcases Nat.eq_zero_or_pos n with e | e
  · subst e
    exact ⟨hl, hc, hd, fun h0 => absurd h0 (by omega)⟩
  · obtain ⟨g, rfl, _, hR, _⟩ := R32.of_own h e
    have := hR.lrd0 hd (B := w.heap.size) (n := n) (c := c) hR.lt (by omega) hc
    rwa [List.take_of_length_le (by omega)] at this
theorem Lim.snoc {cs : List Nat} (h : Lim cs) {x : Nat} (hx : x < 4294967296) : Lim (cs ++ [x]) := by
  intro y hy
  rcases List.mem_append.1 hy with h1 | h1
  · exact h y h1
  · rw [List.mem_singleton] at h1; omega
theorem Lim.nil : Lim [] := by intro x hx; cases hx
set_option maxHeartbeats 4000000 in
theorem limbs_any (w : World) (B : Nat) (A : Option Addr) (n c p : Nat) (xs : List Nat) (h : DRd w B A n c xs) (hB : B ≤ w.heap.size) (hM : n ≤ 4000000000000) (hr : Rep 65536 xs p) :
    Calls Tryz.prog 88 #[.slice A n c] w (GivesL w p) := by
  obtain ⟨i0, hi, hz0, hz1, hz2⟩ := info_parts info32
  have hcap := h.cap
  have hxl := Lib.hid h.len.out
  go_enter Tryz.func88, Tryz.ntmps88
  go_wp2_with fail
  go_loopw [3, 4] (LiRel n xs w) (fun _ i _ => n + 1 - (intOf i).toNat)
  case atStart => exact ⟨0, [], by omega, rfl, World.ownsRow_nil _ _ _ _, rfl, Lim.nil, Below.refl _ _, (by show _ = _; simp [S_zero]), fun i hi => by omega⟩
  case round =>
    obtain ⟨j, zs, hj, rfl, hown, hzl, hzd, hbw, HS, HA⟩ := hrel
    have hzn : zs.length ≤ n := by have := hzl.out; omega
    have hsz := hbw.size
    by_cases h1 : 2 * j < n
    · obtain ⟨b, off, rfl, hb, hc⟩ := h.rd (by omega)
      have g1 := (hbw.cell (p := ⟨b, off + 2 * j, none⟩) (by show b < _; omega)).trans (hc (2 * j) (by omega))
      have a1 := nth_nn xs (2 * j)
      have a2 := h.lim.nth (2 * j)
      by_cases h2 : 2 * j + 1 < n
      · have g2 := (hbw.cell (p := ⟨b, off + (2 * j + 1), none⟩) (by show b < _; omega)).trans (hc (2 * j + 1) (by omega))
        have a3 := nth_nn xs (2 * j + 1)
        have a4 := h.lim.nth (2 * j + 1)
        have ST := Lib.hid (li_step (x := nth xs (2 * j) + nth xs (2 * j + 1) * 65536) hzl.out (by omega) HS.out)
        have SA := Lib.hid (li_all (x := nth xs (2 * j) + nth xs (2 * j + 1) * 65536) hzl.out (by omega) HA.out)
        clear hc
        go_wp2_with (at_builtin; refine wpList_append_own _ rfl _ _ 22 rfl w.heap.size 95 i0 (.int .u32 0) 1 4 Tryz.underlying22 hi hz0 hz1 hz2 rfl (by decide) _ _ _ rfl (hown.alloc _) ⟨wr.heap.size, 0, none⟩ 1 1 [.int .u32 (nth xs (2 * j) + nth xs (2 * j + 1) * 65536)] rfl rfl (cell_one_new _ _ _) (fun u hu => by simp at hu; subst hu; rfl) (by unfold maxLen; omega) (by omega) (by first | (simp; omega) | omega) ?_; intro v' w1 hown' hgrow _)
        obtain ⟨ho, hb1⟩ := ownL_next (by omega) hbw hown hown' hgrow
        clear hown hown' hgrow
        go_wp2_with fail
        go_roundw
        case rel => exact ⟨j + 1, _, by omega, (by first | (congr 1; done) | (congr 1; omega)), ho, (by show _ = _; rw [List.length_append, hzl.out]; rfl), hzd.snoc (by omega), hb1, ST.out, SA.out⟩
        case measure => simp [intOf]; omega
      · have HX := Lib.hid (nth_out (k := 2 * j + 1) (by rw [hxl.out]; omega) : nth xs (2 * j + 1) = 0)
        have ST := Lib.hid (li_step (x := nth xs (2 * j)) hzl.out (by rw [HX.out]; omega) HS.out)
        have SA := Lib.hid (li_all (x := nth xs (2 * j)) hzl.out (by rw [HX.out]; omega) HA.out)
        clear hc
        go_wp2_with (at_builtin; refine wpList_append_own _ rfl _ _ 22 rfl w.heap.size 95 i0 (.int .u32 0) 1 4 Tryz.underlying22 hi hz0 hz1 hz2 rfl (by decide) _ _ _ rfl (hown.alloc _) ⟨wr.heap.size, 0, none⟩ 1 1 [.int .u32 (nth xs (2 * j))] rfl rfl (cell_one_new _ _ _) (fun u hu => by simp at hu; subst hu; rfl) (by unfold maxLen; omega) (by omega) (by first | (simp; omega) | omega) ?_; intro v' w1 hown' hgrow _)
        obtain ⟨ho, hb1⟩ := ownL_next (by omega) hbw hown hown' hgrow
        clear hown hown' hgrow
        go_wp2_with fail
        go_roundw
        case rel => exact ⟨j + 1, _, by omega, (by first | (congr 1; done) | (congr 1; omega)), ho, (by show _ = _; rw [List.length_append, hzl.out]; rfl), hzd.snoc (by omega), hb1, ST.out, SA.out⟩
        case measure => simp [intOf]; omega
    · obtain ⟨A', c', rfl, hc1, hc2⟩ := own_shape hown
      have hdr := own_lrd hown hzd
      have HR := Lib.hid (li_rep hr hxl.out hzl.out (by omega) (by omega) hzd HS.out HA.out)
      go_wp2_with fail
      go_ret
      exact ⟨A', _, c', zs, rfl, hdr, HR.out, hbw⟩
theorem big65 {m : Nat} (h : m = 1200) : Big = 65536 ^ m := by
  subst h
  obtain ⟨t, ht⟩ : ∃ t, t = 600 := ⟨_, rfl⟩
  rw [big_pow ht, show 1200 = 2 * t by omega, Nat.pow_mul]
theorem sameB_refl (xs : List Nat) : sameB xs xs = true := by unfold sameB; simp
theorem rep1 (a : Nat) (ha : a < 4294967296) (h0 : a ≠ 0) : Rep 4294967296 [a] a := by
  refine ⟨fun x hx => by rw [List.mem_singleton] at hx; omega, vb_one _ _, fun m hm => ?_⟩
  obtain rfl : m = 0 := by simpa using hm.symm
  exact h0
theorem rep_vld {xs : List Nat} (ht : Top xs) (hl : xs.length ≤ 600) : vld xs = true := by
  unfold vld
  simp only [Bool.and_eq_true, decide_eq_true_eq, Bool.or_eq_true, beq_iff_eq, bne_iff_ne]
  refine ⟨hl, ?_⟩
  rcases Nat.eq_zero_or_pos xs.length with e | e
  · exact .inl e
  · exact .inr (ht (xs.length - 1) (by omega))
theorem minus_nat {b k c d r x y z s t : Nat} (h : z + t = s + c * b ^ k) (e : r + y + c = x + b * d) : z + r * b ^ k + (t + y * b ^ k) = (s + x * b ^ k) + d * b ^ (k + 1) := by
  rw [Nat.pow_succ]
  generalize b ^ k = P at *
  grind
def MiRel (n : Nat) (xs ys : List Nat) (w : World) (out borrow i : Value) (wr : World) : Prop :=
  ∃ (k : Nat) (c : Int) (zs : List Nat), k ≤ n ∧ i = .int .i64 k ∧ borrow = .int .i64 c ∧ 0 ≤ c ∧ c ≤ 1 ∧ wr.ownsRow w.heap.size 3 1 out zs.length (digs zs) ∧ Hid (zs.length = k) ∧ Dig 65536 zs ∧ Below w.heap.size w wr ∧
    Hid (S 65536 (fun i => zs.getD i 0) k + S 65536 (fun i => ys.getD i 0) k = S 65536 (fun i => xs.getD i 0) k + c.toNat * 65536 ^ k)
theorem minus_step {zs xs ys : List Nat} {k : Nat} {c r d : Int} (hk : zs.length = k) (hc : 0 ≤ c) (hr : 0 ≤ r) (hd : 0 ≤ d) (ht : r + nth ys k + c = nth xs k + 65536 * d)
    (h : S 65536 (fun i => zs.getD i 0) k + S 65536 (fun i => ys.getD i 0) k = S 65536 (fun i => xs.getD i 0) k + c.toNat * 65536 ^ k) :
    S 65536 (fun i => (zs ++ [r.toNat]).getD i 0) (k + 1) + S 65536 (fun i => ys.getD i 0) (k + 1) = S 65536 (fun i => xs.getD i 0) (k + 1) + d.toNat * 65536 ^ (k + 1) := by
  rw [S_snoc hk, S_succ, S_succ]
  refine minus_nat h ?_
  unfold nth at ht
  omega
theorem minus_last {xs ys zs : List Nat} {n : Nat} {q : Int} (hr : zs.length = n) (hy : ys.length ≤ n) (hx : xs.length = n) (hL : Dig 65536 zs) (q0 : 0 ≤ q) (q1 : q ≤ 1) (hle : vb 65536 ys ≤ vb 65536 xs)
    (h : S 65536 (fun i => zs.getD i 0) n + S 65536 (fun i => ys.getD i 0) n = S 65536 (fun i => xs.getD i 0) n + q.toNat * 65536 ^ n) : vb 65536 zs = vb 65536 xs - vb 65536 ys := by
  rw [vb_len (xs := xs) (by omega), vb_len (xs := ys) hy, vb_len (xs := zs) (by omega)] at h
  have h1 : vb 65536 zs < 65536 ^ n := by rw [← hr]; exact vb_lt (by decide) hL
  have h2 : q = 0 ∨ q = 1 := by omega
  rcases h2 with rfl | rfl
  · simp at h; omega
  · simp at h; omega
set_option maxHeartbeats 4000000 in
theorem minus_any (w : World) (B : Nat) (A D : Option Addr) (n m c d : Nat) (xs ys : List Nat) (h : DRd w B A n c xs) (k : DRd w B D m d ys) (hB : B ≤ w.heap.size) (hm : m ≤ n) (hM : n ≤ 10000000000000) (hle : vb 65536 ys ≤ vb 65536 xs) :
    Calls Tryz.prog 86 #[.slice A n c, .slice D m d] w (GivesN w (vb 65536 xs - vb 65536 ys)) := by
  obtain ⟨i0, hi, hz0, hz1, hz2⟩ := info_parts info64
  have hcap := h.cap
  have hcap2 := k.cap
  have hxl := Lib.hid h.len.out
  have hyl := Lib.hid k.len.out
  have HLE := Lib.hid hle
  clear hle
  go_enter Tryz.func86, Tryz.ntmps86
  go_wp2_with fail
  go_loopw [5, 6, 7] (MiRel n xs ys w) (fun _ _ i _ => n - (intOf i).toNat)
  case atStart => exact ⟨0, 0, [], by omega, rfl, rfl, by omega, by omega, World.ownsRow_nil _ _ _ _, rfl, Dig.nil, Below.refl _ _, (by show _ = _; simp [S_zero])⟩
  case round =>
    obtain ⟨j, q, zs, hj, rfl, rfl, q0, q1, hown, hzl, hzd, hbw, HS⟩ := hrel
    have hzn : zs.length ≤ n := by have := hzl.out; omega
    have hsz := hbw.size
    by_cases h1 : j < n
    · obtain ⟨b, off, rfl, hb, hc⟩ := h.rd (by omega)
      have g1 := (hbw.cell (p := ⟨b, off + j, none⟩) (by show b < _; omega)).trans (hc j (by omega))
      have a1 := nth_nn xs j
      have a2 := h.lim.nth j
      clear hc
      by_cases h2 : j < m
      · obtain ⟨b', off', rfl, hb', hc'⟩ := k.rd (by omega)
        have g2 := (hbw.cell (p := ⟨b', off' + j, none⟩) (by show b' < _; omega)).trans (hc' j (by omega))
        have a3 := nth_nn ys j
        have a4 := k.lim.nth j
        clear hc'
        by_cases h3 : nth xs j - q - nth ys j < 0
        · have ST := Lib.hid (minus_step (r := nth xs j - q - nth ys j + 65536) (d := 1) hzl.out q0 (by omega) (by omega) (by omega) HS.out)
          go_wp2_with (at_builtin; refine wpList_append_own _ rfl _ _ 38 rfl w.heap.size 3 i0 (.int .i64 0) 1 8 Tryz.underlying38 hi hz0 hz1 hz2 rfl (by decide) _ _ _ rfl (hown.alloc _) ⟨wr.heap.size, 0, none⟩ 1 1 [.int .i64 (nth xs j - q - nth ys j + 65536)] rfl rfl (cell_one_new _ _ _) (fun u hu => by simp at hu; subst hu; rfl) (by unfold maxLen; omega) (by omega) (by first | (simp; omega) | omega) ?_; intro v' w1 hown' hgrow _)
          obtain ⟨ho, hb1⟩ := own_next (by omega) hbw hown hown' hgrow
          clear hown hown' hgrow
          go_wp2_with fail
          go_roundw
          case rel => exact ⟨j + 1, 1, _, by omega, by go_num, rfl, by omega, by omega, ho, (by show _ = _; rw [List.length_append, hzl.out]; rfl), hzd.snoc (by omega), hb1, ST.out⟩
          case measure => simp [intOf]; omega

        · have ST := Lib.hid (minus_step (r := nth xs j - q - nth ys j) (d := 0) hzl.out q0 (by omega) (by omega) (by omega) HS.out)
          go_wp2_with (at_builtin; refine wpList_append_own _ rfl _ _ 38 rfl w.heap.size 3 i0 (.int .i64 0) 1 8 Tryz.underlying38 hi hz0 hz1 hz2 rfl (by decide) _ _ _ rfl (hown.alloc _) ⟨wr.heap.size, 0, none⟩ 1 1 [.int .i64 (nth xs j - q - nth ys j)] rfl rfl (cell_one_new _ _ _) (fun u hu => by simp at hu; subst hu; rfl) (by unfold maxLen; omega) (by omega) (by first | (simp; omega) | omega) ?_; intro v' w1 hown' hgrow _)
          obtain ⟨ho, hb1⟩ := own_next (by omega) hbw hown hown' hgrow
          clear hown hown' hgrow
          go_wp2_with fail
          go_roundw
          case rel => exact ⟨j + 1, 0, _, by omega, by go_num, rfl, by omega, by omega, ho, (by show _ = _; rw [List.length_append, hzl.out]; rfl), hzd.snoc (by omega), hb1, ST.out⟩
          case measure => simp [intOf]; omega

      · have HY := Lib.hid (nth_out (k := j) (by rw [hyl.out]; omega) : nth ys j = 0)
        by_cases h3 : nth xs j - q < 0
        · have ST := Lib.hid (minus_step (r := nth xs j - q + 65536) (d := 1) hzl.out q0 (by omega) (by omega) (by rw [HY.out]; omega) HS.out)
          go_wp2_with (at_builtin; refine wpList_append_own _ rfl _ _ 38 rfl w.heap.size 3 i0 (.int .i64 0) 1 8 Tryz.underlying38 hi hz0 hz1 hz2 rfl (by decide) _ _ _ rfl (hown.alloc _) ⟨wr.heap.size, 0, none⟩ 1 1 [.int .i64 (nth xs j - q + 65536)] rfl rfl (cell_one_new _ _ _) (fun u hu => by simp at hu; subst hu; rfl) (by unfold maxLen; omega) (by omega) (by first | (simp; omega) | omega) ?_; intro v' w1 hown' hgrow _)
          obtain ⟨ho, hb1⟩ := own_next (by omega) hbw hown hown' hgrow
          clear hown hown' hgrow
          go_wp2_with fail
          go_roundw
          case rel => exact ⟨j + 1, 1, _, by omega, by go_num, rfl, by omega, by omega, ho, (by show _ = _; rw [List.length_append, hzl.out]; rfl), hzd.snoc (by omega), hb1, ST.out⟩
          case measure => simp [intOf]; omega

        · have ST := Lib.hid (minus_step (r := nth xs j - q) (d := 0) hzl.out q0 (by omega) (by omega) (by rw [HY.out]; omega) HS.out)
          go_wp2_with (at_builtin; refine wpList_append_own _ rfl _ _ 38 rfl w.heap.size 3 i0 (.int .i64 0) 1 8 Tryz.underlying38 hi hz0 hz1 hz2 rfl (by decide) _ _ _ rfl (hown.alloc _) ⟨wr.heap.size, 0, none⟩ 1 1 [.int .i64 (nth xs j - q)] rfl rfl (cell_one_new _ _ _) (fun u hu => by simp at hu; subst hu; rfl) (by unfold maxLen; omega) (by omega) (by first | (simp; omega) | omega) ?_; intro v' w1 hown' hgrow _)
          obtain ⟨ho, hb1⟩ := own_next (by omega) hbw hown hown' hgrow
          clear hown hown' hgrow
          go_wp2_with fail
          go_roundw
          case rel => exact ⟨j + 1, 0, _, by omega, by go_num, rfl, by omega, by omega, ho, (by show _ = _; rw [List.length_append, hzl.out]; rfl), hzd.snoc (by omega), hb1, ST.out⟩
          case measure => simp [intOf]; omega

    · obtain rfl : j = n := by omega
      have HV := Lib.hid (minus_last (xs := xs) (ys := ys) hzl.out (by rw [hyl.out]; omega) hxl.out hzd q0 q1 HLE.out HS.out)
      obtain ⟨A', c', rfl, hc1, hc2⟩ := own_shape hown
      have hdr := own_drd hown hzd
      go_wp2_with fail
      refine (trimD_any _ _ _ _ _ _ hdr).mono ?_
      rintro e w' ⟨t, rfl, ht, rfl⟩
      go_wp2_with fail
      go_ret
      exact gives_own hown hzd ht hbw HV.out
theorem gives_rowD {w w' : World} {g n c k p : Nat} {cs : List Nat} (hR : R64 w' g cs) (hl : Dig 65536 cs) (hn : Hid (cs.length = n)) (ht : TrimTo n cs k) (hc : n ≤ c ∧ c ≤ 9223372036854775807)
    (hb : Below w.heap.size w w') (hv : vb 65536 cs = p) : GivesN w p (.returned (.slice (some ⟨g, 0, none⟩) k c)) w' := by
  have := ht.le
  subst hv
  exact ⟨_, _, _, _, rfl, hR.drd0 hl hR.lt (by rw [hn.out]; exact this) (by omega), trimmedD ht hn.out hl, hb⟩
theorem R64.drdAll {w : World} {g : Nat} {cs : List Nat} (h : R64 w g cs) (hl : Dig 65536 cs) {B n c : Nat} (hB : g < B) (hn : Hid (cs.length = n)) (hc : n ≤ c ∧ c ≤ 9223372036854775807) : DRd w B (some ⟨g, 0, none⟩) n c cs := by
  have := h.drd0 hl (n := n) hB (by rw [hn.out]; exact Nat.le_refl _) hc
  rwa [List.take_of_length_le (by rw [hn.out]; exact Nat.le_refl _)] at this
theorem S_set {b N p v : Nat} {rs : List Nat} (hp : p < N) (hl : p < rs.length) : S b (fun i => (rs.set p v).getD i 0) N + rs.getD p 0 * b ^ p = S b (fun i => rs.getD i 0) N + v * b ^ p := by
  obtain ⟨d, rfl⟩ := Nat.le.dest (show p + 1 ≤ N from hp)
  rw [S_add b (fun i => (rs.set p v).getD i 0) (p + 1) d, S_add b (fun i => rs.getD i 0) (p + 1) d, S_succ b (fun i => (rs.set p v).getD i 0) p, S_succ b (fun i => rs.getD i 0) p, getD_set _ _ _ _ hl, if_pos rfl]
  rw [S_ext (f := fun i => (rs.set p v).getD i 0) (g := fun i => rs.getD i 0) (k := p) (fun j hj => by rw [getD_set _ _ _ _ hl, if_neg (by omega)])]
  rw [S_ext (f := fun i => (rs.set p v).getD (p + 1 + i) 0) (g := fun i => rs.getD (p + 1 + i) 0) (fun j hj => by rw [getD_set _ _ _ _ hl, if_neg (by omega)])]
  omega
theorem tm_nat {b i k c d r v x y s s' s0 t : Nat} (h : s + c * b ^ (i + k) = s0 + x * b ^ i * t) (hs : s' + r * b ^ (i + k) = s + v * b ^ (i + k)) (e : r + c + x * y = v + b * d) :
    s' + d * b ^ (i + (k + 1)) = s0 + x * b ^ i * (t + y * b ^ k) := by
  rw [show i + (k + 1) = (i + k) + 1 by omega, Nat.pow_succ]
  rw [Nat.pow_add] at h hs ⊢
  generalize b ^ i = Q at *
  generalize b ^ k = P at *
  have e2 : s' + d * (Q * P * b) + r * (Q * P) = s0 + x * Q * (t + y * P) + r * (Q * P) := by grind
  omega
def TmIs (N i : Nat) (ys rs0 : List Nat) (x : Int) (k : Nat) (c : Int) (rs : List Nat) : Prop :=
  rs.length = N ∧ S 65536 (fun t => rs.getD t 0) N + c.toNat * 65536 ^ (i + k) = S 65536 (fun t => rs0.getD t 0) N + x.toNat * 65536 ^ i * S 65536 (fun t => ys.getD t 0) k
theorem tm_step {N i k : Nat} {ys rs0 rs : List Nat} {x c t : Int} (h : TmIs N i ys rs0 x k c rs) (hp : i + k < N) (hx : 0 ≤ x) (hc : 0 ≤ c) (ht0 : 0 ≤ t) (ht : t = nth rs (i + k) + c + x * nth ys k) :
    TmIs N i ys rs0 x (k + 1) (t / 65536) (rs.set (i + k) (t % 65536).toNat) := by
  obtain ⟨h1, h2⟩ := h
  refine ⟨by rw [List.length_set, h1], ?_⟩
  rw [S_succ]
  refine tm_nat h2 (S_set hp (by omega)) ?_
  unfold nth at ht
  obtain ⟨x, rfl⟩ := Int.eq_ofNat_of_zero_le hx
  obtain ⟨c, rfl⟩ := Int.eq_ofNat_of_zero_le hc
  rw [← Int.natCast_mul] at ht
  simp only [Int.toNat_natCast] at *
  generalize x * ys.getD k 0 = xy at *
  clear h2
  omega
/-- Behind the digits of ys there is a carry at most once. -/
theorem tm_far {N i k m : Nat} {xs ys rs0 rs : List Nat} {c : Int} (h : TmIs N i ys rs0 (nth xs i) k c rs) (hk : m ≤ k) (hy : ys.length = m) (dx : Dig 65536 xs) (dy : Dig 65536 ys) (hc : 0 < c)
    (h0 : S 65536 (fun t => rs0.getD t 0) N = S 65536 (fun t => xs.getD t 0) i * S 65536 (fun t => ys.getD t 0) m) : k ≤ m := by
  obtain ⟨h1, h2⟩ := h
  rcases Nat.lt_or_ge m k with e | e
  · exfalso
    rw [vb_len (xs := ys) (n := k) (by omega)] at h2
    rw [vb_len (xs := ys) (n := m) (by omega)] at h0
    have e1 : S 65536 (fun t => xs.getD t 0) (i + 1) < 65536 ^ (i + 1) := S_lt (by decide) (fun j _ => Dig.at_ dx (by decide) j)
    have e2 : vb 65536 ys < 65536 ^ m := by rw [← hy]; exact vb_lt (by decide) dy
    have e3 : S 65536 (fun t => xs.getD t 0) (i + 1) * vb 65536 ys < 65536 ^ (i + k) := by
      have a1 : S 65536 (fun t => xs.getD t 0) (i + 1) * vb 65536 ys < 65536 ^ (i + 1) * 65536 ^ m := Nat.mul_lt_mul'' e1 e2
      rw [← Nat.pow_add] at a1
      have a2 : 65536 ^ (i + 1 + m) ≤ 65536 ^ (i + k) := Nat.pow_le_pow_right (by decide) (by omega)
      omega
    rw [S_succ, Nat.add_mul, ← h0] at e3
    have e4 : 1 * 65536 ^ (i + k) ≤ c.toNat * 65536 ^ (i + k) := Nat.mul_le_mul_right _ (by omega)
    unfold nth at h2
    rw [Int.toNat_natCast] at h2
    omega
  · exact e
theorem tm_next {N i k m : Nat} {xs ys rs0 rs : List Nat} (h : TmIs N i ys rs0 (nth xs i) k 0 rs) (hk : m ≤ k) (hy : ys.length = m)
    (h0 : S 65536 (fun t => rs0.getD t 0) N = S 65536 (fun t => xs.getD t 0) i * S 65536 (fun t => ys.getD t 0) m) :
    S 65536 (fun t => rs.getD t 0) N = S 65536 (fun t => xs.getD t 0) (i + 1) * S 65536 (fun t => ys.getD t 0) m := by
  obtain ⟨h1, h2⟩ := h
  rw [vb_len (xs := ys) (n := k) (by omega)] at h2
  rw [vb_len (xs := ys) (n := m) (by omega)] at h0 ⊢
  unfold nth at h2
  rw [Int.toNat_natCast] at h2
  rw [S_succ, Nat.add_mul, ← h0, ← h2]
  simp
def TmRel (n m N : Nat) (xs ys : List Nat) (w : World) (i : Value) (wr : World) : Prop :=
  ∃ (k : Nat) (rs : List Nat), k ≤ n ∧ i = .int .i64 k ∧ R64 wr w.heap.size rs ∧ Hid (rs.length = N) ∧ Dig 65536 rs ∧ Below w.heap.size w wr ∧
    Hid (S 65536 (fun i => rs.getD i 0) N = S 65536 (fun i => xs.getD i 0) k * S 65536 (fun i => ys.getD i 0) m)
def TiRel (m N i : Nat) (ys rs0 : List Nat) (x : Int) (w : World) (carry k : Value) (wr : World) : Prop :=
  ∃ (j : Nat) (c : Int) (rs : List Nat), j ≤ m + 1 ∧ k = .int .i64 j ∧ carry = .int .i64 c ∧ 0 ≤ c ∧ c < 65536 ∧ R64 wr w.heap.size rs ∧ Dig 65536 rs ∧ Below w.heap.size w wr ∧ Hid (TmIs N i ys rs0 x j c rs)
theorem tm_prod (x y : Int) (hx : 0 ≤ x ∧ x < 65536) (hy : 0 ≤ y ∧ y < 65536) : 0 ≤ x * y ∧ x * y ≤ 4294836225 := by
  constructor
  · exact Int.mul_nonneg hx.1 hy.1
  · have : x * y ≤ 65535 * 65535 := Int.mul_le_mul (by omega) (by omega) hy.1 (by omega)
    omega
set_option maxHeartbeats 4000000 in
theorem times_any (w : World) (B : Nat) (A D : Option Addr) (n m c d : Nat) (xs ys : List Nat) (h : DRd w B A n c xs) (k : DRd w B D m d ys) (hB : B ≤ w.heap.size) (hn : n ≤ 1000000000000) (hm : m ≤ 1000000000000) :
    Calls Tryz.prog 68 #[.slice A n c, .slice D m d] w (GivesN w (vb 65536 xs * vb 65536 ys)) := by
  have hcap := h.cap
  have hcap2 := k.cap
  have hxl := Lib.hid h.len.out
  have hyl := Lib.hid k.len.out
  have hmk := mk64 (n + m + 1) (by omega)
  rw [Int.natCast_add, Int.natCast_add, Int.natCast_one] at hmk
  have hr0 := R64.new w (n + m + 1)
  go_enter Tryz.func68, Tryz.ntmps68
  go_wp2_with fail
  go_loopw [6] (TmRel n m (n + m + 1) xs ys w) (fun i _ => n - (intOf i).toNat)
  case atStart => exact ⟨0, List.replicate (n + m + 1) 0, Nat.zero_le _, rfl, hr0, (by show _ = _; simp), Dig.zeros _, bl1 _ _, (by show _ = _; rw [S_zeros (m := 0) (Nat.zero_le _) (fun j _ _ => replicate_getD _ _)]; simp [S_zero])⟩
  case round =>
    obtain ⟨i, rs0, hi, rfl, hR0, hl0, hd0, hb0, HS⟩ := hrel
    by_cases hin : i < n
    · obtain ⟨b, off, rfl, hb, hc⟩ := h.rd (by omega)
      have HC := Lib.hid (hc i (by omega))
      have a1 := nth_nn xs i
      have a2 := h.lim.nth i
      have HSt := Lib.hid (show TmIs (n + m + 1) i ys rs0 (nth xs i) 0 0 rs0 from ⟨hl0.out, by simp [S_zero]⟩)
      clear hc
      obtain ⟨wo, rfl⟩ : ∃ wo : World, wo = wr := ⟨_, rfl⟩
      go_wp2_with fail
      go_loopw [7, 8] (TiRel m (n + m + 1) i ys rs0 (nth xs i) w) (fun _ k _ => m + 2 - (intOf k).toNat)
      case atStart => exact ⟨0, 0, rs0, by omega, rfl, rfl, by omega, by omega, hR0, hd0, hb0, HSt.out⟩
      case round =>
        clear hR0 hb0
        obtain ⟨j, q, rs, hj, rfl, rfl, q0, q1, hR, hd, hbw, HI⟩ := hrel
        have hlen := Lib.hid HI.out.1
        have hlt := hR.lt
        by_cases hjm : j < m
        · obtain ⟨b', off', rfl, hb', hc'⟩ := k.rd (by omega)
          have g1 := (hbw.cell (p := ⟨b, off + i, none⟩) (by show b < _; omega)).trans HC.out
          have g2 := (hbw.cell (p := ⟨b', off' + j, none⟩) (by show b' < _; omega)).trans (hc' j (by omega))
          have g3 := hR.cell (j := i + j) (by have := hlen.out; omega)
          have g4 := hR.frozen (i + j)
          have a3 := nth_nn ys j
          have a4 := k.lim.nth j
          have a5 := nth_nn rs (i + j)
          have a6 := hd.nth (i + j)
          have a7 := tm_prod (nth xs i) (nth ys j) ⟨a1, a2⟩ ⟨a3, a4⟩
          have ST := Lib.hid (tm_step HI.out (by omega) a1 q0 (by omega) rfl)
          have w1 : IntKind.i64.wrap (nth xs i * nth ys j) = nth xs i * nth ys j := IntWalk.i64_in _ (by omega)
          have w2 : IntKind.i64.wrap (nth rs (i + j) + q + nth xs i * nth ys j) = nth rs (i + j) + q + nth xs i * nth ys j := IntWalk.i64_in _ (by omega)
          clear hc'
          go_wp2_with fail
          go_quiet (fail)
          clear w1 w2
          go_wp2_with fail
          go_roundw
          case rel => exact ⟨j + 1, _, _, by omega, by go_num, rfl, Int.ediv_nonneg (by omega) (by decide), by omega, (hR.drewN _).put _ (Int.emod_nonneg _ (by decide)), hd.set (by omega), (below_drewN hbw _).setCell (Nat.le_refl _) _, ST.out⟩
          case measure => first | (simp [intOf]; done) | (simp [intOf]; omega)
        · by_cases hq : 0 < q
          · have hj2 := tm_far HI.out (by omega) hyl.out h.lim k.lim hq HS.out
            obtain rfl : j = m := by omega
            have HY := Lib.hid (nth_out (k := j) (by rw [hyl.out]; omega) : nth ys j = 0)
            have g3 := hR.cell (j := i + j) (by have := hlen.out; omega)
            have g4 := hR.frozen (i + j)
            have a5 := nth_nn rs (i + j)
            have a6 := hd.nth (i + j)
            have ST := Lib.hid (tm_step (t := nth rs (i + j) + q) HI.out (by omega) a1 q0 (by omega) (by rw [HY.out]; omega))
            go_wp2_with fail
            go_roundw
            case rel => exact ⟨j + 1, _, _, by omega, by go_num, rfl, Int.ediv_nonneg (by omega) (by decide), by omega, hR.put _ (Int.emod_nonneg _ (by decide)), hd.set (by omega), hbw.setCell (Nat.le_refl _) _, ST.out⟩
            case measure => first | (simp [intOf]; done) | (simp [intOf]; omega)
          · obtain rfl : q = 0 := by omega
            have SN := Lib.hid (tm_next HI.out (by omega) hyl.out HS.out)
            go_wp2_with fail
            go_roundw
            case rel => exact ⟨i + 1, rs, by omega, by go_num, hR, hlen.out, hd, hbw, SN.out⟩
            case measure => first | (simp [intOf]; done) | (simp [intOf]; omega)
    · obtain rfl : i = n := by omega
      have HV := Lib.hid (show vb 65536 rs0 = vb 65536 xs * vb 65536 ys by unfold vb; rw [hl0.out, hxl.out, hyl.out]; exact HS.out)
      have hlt := hR0.lt
      have hdr := hR0.drdAll hd0 (B := wr.heap.size) (c := i + m + 1) hlt hl0 (by omega)
      go_wp2_with fail
      refine (trimD_any _ _ _ _ _ _ hdr).mono ?_
      rintro e w' ⟨t, rfl, ht, rfl⟩
      go_wp2_with fail
      go_ret
      exact gives_rowD hR0 hd0 hl0 ht (by omega) hb0 HV.out
theorem nil_len {zs : List Nat} {k : Nat} (h : Rep 4294967296 zs 0) (hl : zs.length = k) : k = 0 := by
  obtain rfl := h.zero_nil (by decide)
  simpa using hl.symm
/-- Block g holds a fault. -/
structure FC (w : World) (g : Nat) (a b : Int) : Prop where
  c0 : w.cell? ⟨g, 0, none⟩ = some (.int .i64 a)
  c1 : w.cell? ⟨g, 1, none⟩ = some (.int .i64 b)
  lt : g < w.heap.size
  fz : ∀ o, w.frozen? ⟨g, o, none⟩ = false
theorem FC.new (w : World) (a b : Int) : FC (w.alloc (.cells #[.int .i64 a, .int .i64 b] 28)) w.heap.size a b :=
  ⟨by simp [go_sem], by simp [go_sem], by simp, fun o => by simp [go_sem]⟩
theorem FC.alloc {w : World} {g : Nat} {a b : Int} (h : FC w g a b) (o : Obj) : FC (w.alloc o) g a b :=
  ⟨(World.cell?_alloc_lt w o _ h.lt).trans h.c0, (World.cell?_alloc_lt w o _ h.lt).trans h.c1, by have := h.lt; simp; omega, fun t => by rw [World.frozen?_alloc_past _ _ _ h.lt]; exact h.fz t⟩
theorem FC.below {w w' : World} {B g : Nat} {a b : Int} (h : FC w g a b) (hb : Below B w w') (hB : g < B) : FC w' g a b :=
  ⟨(hb.cell (p := ⟨g, 0, none⟩) hB).trans h.c0, (hb.cell (p := ⟨g, 1, none⟩) hB).trans h.c1, by have := hb.size; have := h.lt; omega, fun t => ((bcell hb).2 g t hB).trans (h.fz t)⟩
theorem FC.drew {w : World} {g : Nat} {a b : Int} (h : FC w g a b) : FC w.drew g a b := ⟨h.c0, h.c1, h.lt, h.fz⟩
theorem FC.drewN {w : World} {g : Nat} {a b : Int} (h : FC w g a b) (n : Nat) : FC (w.drewN n) g a b := ⟨h.c0, h.c1, h.lt, h.fz⟩
theorem next_lt {w w' : World} {o : Obj} (hb : Below (w.alloc o).heap.size (w.alloc o) w') : w.heap.size < w'.heap.size := by have := hb.size; simp at this; omega
theorem cmp_rep {b n m p q : Nat} {xs ys : List Nat} {r : Int} (hb : 1 < b) (h : CmpIs n m xs ys r) (hx : xs.length = n) (hy : ys.length = m) (rx : Rep b xs p) (ry : Rep b ys q) : CmpV p q r := by
  have hb0 : 0 < b := by omega
  rw [← rx.val, ← ry.val]
  unfold CmpV
  rcases h.one with e | e | e
  · left; refine ⟨e, ?_⟩
    rcases h.less e with h1 | ⟨h1, k, h2, h3, h4⟩
    · exact vb_less_len hb0 rx.dig ry.top (by omega)
    · have := S_less (b := b) (f := fun i => xs.getD i 0) (g := fun i => ys.getD i 0) hb0 h2 (fun j _ => Dig.at_ rx.dig hb0 j) h3 h4
      unfold vb; rw [hx, hy, ← h1]; exact this
  · right; left; refine ⟨e, ?_⟩
    obtain ⟨h1, h2⟩ := h.same e
    unfold vb; rw [hx, hy, ← h1]; exact S_ext h2
  · right; right; refine ⟨e, ?_⟩
    rcases h.more e with h1 | ⟨h1, k, h2, h3, h4⟩
    · exact vb_less_len hb0 ry.dig rx.top (by omega)
    · have := S_less (b := b) (f := fun i => ys.getD i 0) (g := fun i => xs.getD i 0) hb0 h2 (fun j _ => Dig.at_ ry.dig hb0 j) h3 h4
      unfold vb; rw [hx, hy, ← h1]; exact this
theorem CmpV.unique {p q : Nat} {r s : Int} (h : CmpV p q r) (k : CmpV p q s) : r = s := by unfold CmpV at h k; omega
/-- What Add and Mul give. -/
def IsB (p v : Nat) (u1 u2 : Int) : Prop := (p < Big ∧ v = p ∧ u1 = 0 ∧ u2 = 0) ∨ (Big ≤ p ∧ v = 0 ∧ u1 = 14 ∧ u2 = -1)
def GivesU (w : World) (p : Nat) (e : Ending) (w' : World) : Prop := ∃ v u1 u2, IsB p v u1 u2 ∧ GivesF w v u1 u2 e w'
theorem GivesB.u {w : World} {p : Nat} {e : Ending} {w' : World} (h : GivesB w p e w') : GivesU w p e w' := by
  rcases h with ⟨h1, h2⟩ | ⟨h1, h2⟩
  · exact ⟨p, 0, 0, .inl ⟨h1, rfl, rfl, rfl⟩, h2⟩
  · exact ⟨0, 14, -1, .inr ⟨h1, rfl, rfl, rfl⟩, h2⟩
theorem vld_lt {xs : List Nat} (hl : Lim xs) (hx : vld xs = true) : vb 4294967296 xs < Big := fit_len ⟨hl, rfl, (vld_top hx).1⟩ rfl (vld_top hx).2
theorem DRd.drew {w : World} {B n c : Nat} {A : Option Addr} {xs : List Nat} (h : DRd w B A n c xs) : DRd w.drew B A n c xs := h.keep fun _ _ => rfl
section
variable (w : World) (B : Nat) (A D : Option Addr) (n m c d p q : Nat) (xs ys : List Nat) (h : LRd w B A n c xs) (k : LRd w B D m d ys) (hB : B ≤ w.heap.size) (hx : vld xs = true) (hy : vld ys = true) (hp : vb 4294967296 xs = p) (hq : vb 4294967296 ys = q)
include h k hB hx hy hp hq
end
end Go.Proofs.YtfgkhdpdjclmkaaGreat
