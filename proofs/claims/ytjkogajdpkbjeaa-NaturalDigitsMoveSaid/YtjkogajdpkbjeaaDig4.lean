/- Exported function: Digits. -/
import Derived.Test.YtjkogajdpkbjeaaDig3
import Derived.Test.YtjkogajdpkbjeaaGcd
import Derived.Deep.LoopGhost
namespace Go.Proofs.Ytjkogajdpkbjeaa
open Go.RowKit
set_option maxHeartbeats 400000
set_option maxRecDepth 100000
set_option linter.unusedSimpArgs false
set_option linter.unusedVariables false

/-- No digits, and a fault. -/
def GivesE (w : World) (f1 f2 : Int) (e : Ending) (w' : World) : Prop := e = .returned (.tuple #[.slice none 0 0, flt f1 f2]) ∧ Below w.heap.size w w'
theorem digits_bad1 (w : World) (B : Nat) (A : Option Addr) (n c : Nat) (y : Int) (xs : List Nat) (h : LRd w B A n c xs) (hB : B ≤ w.heap.size) (hx : vld xs = false) :
    Calls Try.prog 34 #[.slice A n c, .int .i64 y] w (GivesE w 6 (-1)) := by
  have h1 := fun (o : Obj) => h.below (bl1 w o) hB
  go_enter Try.func34, Try.ntmps34
  go_wp2_with fail
  refine (checkOne_bad _ B A n c xs (h1 _) (by simp; omega) hx).mono ?_
  rintro e w1 ⟨rfl, hb⟩
  obtain ⟨hc, hf⟩ := bcell hb
  have hz : w.heap.size < w1.heap.size := by have := hb.size; simp at this; omega
  go_wp2_with fail
  go_region
  go_wp2_with fail
  refine bodyPost_ret (v := .tuple #[.slice none 0 0, flt 6 (-1)]) (by simp [results, Try.results34, go_sem, hc, hf, hz]) rfl ⟨rfl, ?_⟩
  (repeat (first | exact Below.refl _ _ | exact hb | refine Below.setCell ?_ (by simp; done) _ | refine Below.alloc ?_ (by first | omega | (simp; done) | (simp; omega)) _ | refine Below.drew ?_ | refine below_drewN ?_ _ | refine Below.trans ?_ (Below.mono hb (by first | omega | (simp; done) | (simp; omega)))))
theorem digits_bad2 (w : World) (B : Nat) (A : Option Addr) (n c : Nat) (y : Int) (xs : List Nat) (h : LRd w B A n c xs) (hB : B ≤ w.heap.size) (hx : vld xs = true) (hy : y < 2 ∨ 36 < y) :
    Calls Try.prog 34 #[.slice A n c, .int .i64 y] w (GivesE w 4 (-2)) := by
  have h1 := fun (o : Obj) => h.below (bl1 w o) hB
  go_enter Try.func34, Try.ntmps34
  go_wp2_with fail
  refine (checkOne_ok _ B A n c xs (h1 _) (by simp; omega) hx).mono ?_
  rintro e w1 ⟨rfl, hb⟩
  obtain ⟨hc, hf⟩ := bcell hb
  have hz : w.heap.size < w1.heap.size := by have := hb.size; simp at this; omega
  go_wp2_with fail
  refine (checkBase_bad _ y hy).mono ?_
  rintro e w2 ⟨rfl, hb2⟩
  obtain ⟨hc2, hf2⟩ := bcell hb2
  have hz2 : w1.heap.size < w2.heap.size := by have := hb2.size; simp at this; omega
  have c0 : w2.cell? ⟨w.heap.size, 0, none⟩ = some (.int .i64 0) := by rw [hc2 w.heap.size 0 (by first | omega | (simp; omega))]; simp [go_sem, hc, hz]
  have c1 : w2.cell? ⟨w.heap.size, 1, none⟩ = some (.int .i64 0) := by rw [hc2 w.heap.size 1 (by first | omega | (simp; omega))]; simp [go_sem, hc, hz]
  have f0 : w2.frozen? ⟨w.heap.size, 0, none⟩ = false := by rw [hf2 w.heap.size 0 (by first | omega | (simp; omega))]; simp [go_sem, hf, hz]
  have f1 : w2.frozen? ⟨w.heap.size, 1, none⟩ = false := by rw [hf2 w.heap.size 1 (by first | omega | (simp; omega))]; simp [go_sem, hf, hz]
  have hz3 : w.heap.size < w2.heap.size := by omega
  clear hc hf hc2 hf2
  go_wp2_with fail
  go_region
  go_wp2_with fail
  refine bodyPost_ret (v := .tuple #[.slice none 0 0, flt 4 (-2)]) (by simp [results, Try.results34, go_sem, c0, c1, hz3]) rfl ⟨rfl, ?_⟩
  (repeat (first | exact Below.refl _ _ | exact hb2 | exact hb | refine Below.setCell ?_ (by simp; done) _ | refine Below.alloc ?_ (by first | omega | (simp; done) | (simp; omega)) _ | refine Below.drew ?_ | refine below_drewN ?_ _ | refine Below.trans ?_ (Below.mono hb2 (by first | omega | (simp; done) | (simp; omega))) | refine Below.trans ?_ (Below.mono hb (by first | omega | (simp; done) | (simp; omega)))))

def DgPost (y p : Nat) (w : World) (e : Ending) (w' : World) : Prop :=
  ∃ A k c zs, e = .returned (.tuple #[.slice A k c, flt 0 0]) ∧ DRd w' w'.heap.size A k c zs ∧ Rep y zs.reverse p ∧ Below w.heap.size w w'
def DgRel (y p g B3 : Nat) (W2 : World) (v : Nat) (s10 s11 : Value) (wr : World) : Prop :=
  ∃ A k c cs zs, s10 = .slice A k c ∧ (0 < k → A = some ⟨g, 0, none⟩ ∧ R32 wr g cs) ∧ k ≤ cs.length ∧ k ≤ c ∧ c ≤ 9223372036854775807 ∧ Lim cs ∧ Hid (Rep 4294967296 (cs.take k) v) ∧
    wr.ownsRow B3 3 1 s11 zs.length (digs zs) ∧ Dig y zs ∧ Below W2.heap.size W2 wr ∧ B3 ≤ wr.heap.size ∧ Hid (v * y ^ zs.length + vb y zs = p)
def DjRel (y L W g B3 u : Nat) (W2 : World) (cs : List Nat) (s11 s12 s42 : Value) (wr : World) : Prop :=
  ∃ j t zs, j ≤ W ∧ s42 = .int .i64 ((j : Nat) : Int) ∧ s12 = .int .i64 ((t : Nat) : Int) ∧ t ≤ 4294967295 ∧ Hid (t < y ^ (W - j)) ∧ wr.ownsRow B3 3 1 s11 zs.length (digs zs) ∧ Hid (zs.length = L + j) ∧ Dig y zs ∧
    Below W2.heap.size W2 wr ∧ B3 ≤ wr.heap.size ∧ R32 wr g cs ∧ Hid (t * y ^ (L + j) + vb y zs = u)
theorem own_snocN {w1 : World} {B x : Nat} {v' : Value} {zs : List Nat} (hown' : w1.ownsRow B 3 1 v' (zs.length + 1) (digs zs ++ [.int .i64 (x : Int)])) : w1.ownsRow B 3 1 v' (zs ++ [x]).length (digs (zs ++ [x])) := by rw [List.length_append]; simpa [digs] using hown'
theorem dj_step {t y L j u : Nat} {zs : List Nat} (hl : zs.length = L + j) (h : t * y ^ (L + j) + vb y zs = u) : t / y * y ^ (L + (j + 1)) + vb y (zs ++ [t % y]) = u := by
  rw [← hl] at h
  have := fg_step h
  rw [List.length_append, List.length_singleton, hl] at this
  exact this
theorem dj_div {t y W j : Nat} (h : t < y ^ (W - j)) (hj : j < W) (hy : 0 < y) : t / y < y ^ (W - (j + 1)) := by
  rw [show W - j = (W - (j + 1)) + 1 by omega, Nat.pow_succ] at h
  exact Nat.div_lt_of_lt_mul (by rw [Nat.mul_comm]; exact h)
theorem ds_val {k : Nat} {cs cs' : List Nat} {P : Nat} {r : Int} {v : Nat} (h : DsIs k cs (P : Int) 0 r cs') (hk : k ≤ cs.length) (hv : vb 4294967296 (cs.take k) = v) : vb 4294967296 (cs'.take k) * P + r.toNat = v := by
  obtain ⟨h1, _, _, h4⟩ := h
  simp only [Nat.zero_add, Nat.sub_zero, Int.toNat_natCast] at h4
  have e : ∀ l : List Nat, k ≤ l.length → vb 4294967296 (l.take k) = S 4294967296 (fun t => l.getD t 0) k := fun l hl => by
    have el : (l.take k).length = k := by rw [List.length_take]; omega
    unfold vb
    rw [el]
    exact S_ext fun j hj => by rw [getD_take, if_pos hj]
  rw [e cs' (by omega), h4, ← e cs hk, hv]
theorem dg_next {q P r v W L y z z' p : Nat} (hq : q * P + r = v) (hP : P = y ^ W) (hz : 0 * y ^ (L + W) + z' = r * y ^ L + z) (h : v * y ^ L + z = p) : q * y ^ (L + W) + z' = p := by
  rw [Nat.zero_mul, Nat.zero_add] at hz
  rw [← h, ← hq, hz, Nat.pow_add, hP]
  generalize y ^ L = X
  generalize y ^ W = Y
  grind
theorem trimmedG {y n k p : Nat} {cs : List Nat} (h : TrimTo n cs k) (hl : cs.length = n) (hd : Dig y cs) (hv : vb y cs = p) : Rep y (cs.take k) p := by
  have e : (cs.take k).length = k := by rw [List.length_take]; have := h.le; omega
  refine ⟨fun x hx => hd x (List.mem_of_mem_take hx), by rw [← hv]; exact vb_take_of_zeros (by have := h.le; omega) (fun j h1 h2 => h.zeros j h1 (by omega)), fun m hm => ?_⟩
  rw [getD_take, if_pos (by omega)]
  exact h.top m (by omega)
theorem reverse_nil (w : World) (A : Option Addr) (c : Nat) (hc : c ≤ 9223372036854775807) :
    Calls Try.prog 60 #[.slice A 0 c] w fun e w' => e = .returned (.tuple #[]) ∧ w = w' := by
  go_enter Try.func60, Try.ntmps60
  go_wp2_with fail
  refine wp_loop_rounds 1 ?_
  rw [rounds_succ]
  go_wp2_with fail
  go_end0
  exact ⟨rfl, rfl⟩
theorem R64.lift {w : World} {g : Nat} {cs : List Nat} (h : R64 w g cs) (hd : Dig 65536 cs) {k c : Nat} (hl : cs.length = k) (hc : k ≤ c ∧ c ≤ 9223372036854775807) : DRd w w.heap.size (some ⟨g, 0, none⟩) k c cs := h.drdAll hd h.lt hl hc
theorem rep_pos4 {xs : List Nat} {p n : Nat} (h : Rep 4294967296 xs p) (hl : xs.length = n) (h0 : 0 < n) : 0 < p := by
  rcases Nat.eq_zero_or_pos p with e | e
  · exfalso
    subst e
    have := h.length_le (m := 0) (by decide) (by decide)
    omega
  · exact e
theorem drd_cap0 {w : World} {A : Option Addr} {c : Nat} (hc : c ≤ 9223372036854775807) : DRd w w.heap.size A 0 c [] := ⟨rfl, ⟨Nat.zero_le _, hc⟩, Dig.nil, fun h => absurd h (by omega)⟩

set_option maxHeartbeats 8000000 in
theorem digits_ok (w : World) (B : Nat) (A : Option Addr) (n c y : Nat) (xs : List Nat) (h : LRd w B A n c xs) (hB : B ≤ w.heap.size) (hx : vld xs = true) (hy : 2 ≤ y ∧ y ≤ 36) :
    Calls Try.prog 34 #[.slice A n c, .int .i64 (y : Int)] w (DgPost y (vb 4294967296 xs) w) := by
  obtain ⟨i0, hi, iz0, iz1, iz2⟩ := info_parts info64
  have h1 := fun (o : Obj) => h.below (bl1 w o) hB
  have hn : n ≤ 600 := by have := (vld_top hx).2; have := h.len.out; omega
  obtain ⟨p, hp⟩ : ∃ p, p = vb 4294967296 xs := ⟨_, rfl⟩
  obtain ⟨M, hMM⟩ : ∃ M, M = 1200 := ⟨_, rfl⟩
  have HPM := Lib.hid (show p < 65536 ^ M by rw [hp, ← big65 hMM]; exact vld_lt h.lim hx)
  have hM : M ≤ 1200 := by omega
  have HP := Lib.hid hp
  have HT := Lib.hid (vld_top hx).1
  rw [← hp]
  clear hp hMM
  go_enter Try.func34, Try.ntmps34
  go_wp2_with fail
  refine (checkOne_ok _ B A n c xs (h1 _) (by simp; omega) hx).mono ?_
  rintro e w1 ⟨rfl, hb⟩
  obtain ⟨hc, hf⟩ := bcell hb
  have hz : w.heap.size < w1.heap.size := by have := hb.size; simp at this; omega
  have hb' : Below w.heap.size w w1 := (bl1 w _).trans (hb.mono (by simp))
  go_wp2_with fail
  refine (checkBase_ok _ (y : Int) (by omega)).mono ?_
  rintro e w2 ⟨rfl, hb2⟩
  obtain ⟨hc2, hf2⟩ := bcell hb2
  have hz2 : w1.heap.size < w2.heap.size := by have := hb2.size; simp at this; omega
  have hbw2 : Below w.heap.size w w2 := (hb'.alloc (by omega) _).trans (hb2.mono (by simp; omega))
  have c0 : w2.cell? ⟨w.heap.size, 0, none⟩ = some (.int .i64 0) := by rw [hc2 w.heap.size 0 (by first | omega | (simp; omega))]; simp [go_sem, hc, hz]
  have c1 : w2.cell? ⟨w.heap.size, 1, none⟩ = some (.int .i64 0) := by rw [hc2 w.heap.size 1 (by first | omega | (simp; omega))]; simp [go_sem, hc, hz]
  have f0 : w2.frozen? ⟨w.heap.size, 0, none⟩ = false := by rw [hf2 w.heap.size 0 (by first | omega | (simp; omega))]; simp [go_sem, hf, hz]
  have f1 : w2.frozen? ⟨w.heap.size, 1, none⟩ = false := by rw [hf2 w.heap.size 1 (by first | omega | (simp; omega))]; simp [go_sem, hf, hz]
  have h2 := fun (o : Obj) => (h.below hbw2 hB).alloc (by omega) o
  clear hc hf hc2 hf2 hb hb2 hb'
  go_wp2_with fail
  refine (largestPower_any _ y hy).mono ?_
  rintro e w' ⟨P, W, rfl, rfl, hLP, hLP2⟩
  have hP0 := hLP.lo
  have hP1 := hLP.hi
  have hW := hLP.wid
  go_wp2_with fail
  refine (clone_any _ B A n c xs (h2 _) (by first | omega | (simp; omega)) (by omega)).mono ?_
  rintro e w3 ⟨A1, c3, rfl, hcn, hcm, hb3, hcl⟩
  obtain ⟨W2, hW2⟩ : ∃ W2 : World, W2 = w2.alloc (.cells #[.int .i64 0, .int .i64 0] 24) := ⟨_, rfl⟩
  rw [← hW2] at hb3 hcl
  have hWs : W2.heap.size = w2.heap.size + 1 := by rw [hW2]; simp
  have hzz2 : w.heap.size < w2.heap.size := by omega
  have C0 : W2.cell? ⟨w.heap.size, 0, none⟩ = some (.int .i64 0) := by rw [hW2, World.cell?_alloc_lt _ _ _ hzz2]; exact c0
  have C1 : W2.cell? ⟨w.heap.size, 1, none⟩ = some (.int .i64 0) := by rw [hW2, World.cell?_alloc_lt _ _ _ hzz2]; exact c1
  have F0 : W2.frozen? ⟨w.heap.size, 0, none⟩ = false := by rw [hW2, World.frozen?_alloc_past _ _ _ hzz2]; exact f0
  have F1 : W2.frozen? ⟨w.heap.size, 1, none⟩ = false := by rw [hW2, World.frozen?_alloc_past _ _ _ hzz2]; exact f1
  have hbW : Below w.heap.size w W2 := by rw [hW2]; exact hbw2.alloc (by omega) _
  have hs3 := hb3.size
  have hl := h.len.out
  have HLx := Lib.hid h.lim
  obtain ⟨g, hg⟩ : ∃ g, 0 < n → A1 = some ⟨g, 0, none⟩ ∧ W2.heap.size ≤ g ∧ g < w3.heap.size ∧ R32 w3 g xs := by
    rcases Nat.eq_zero_or_pos n with e | e
    · exact ⟨0, fun h => absurd h (by omega)⟩
    · obtain ⟨g, a1, a2, a3⟩ := hcl e
      exact ⟨g, fun _ => ⟨a1, a2, a3.lt, a3⟩⟩
  have HGB := Lib.hid (show 0 < n → W2.heap.size ≤ g ∧ g < w3.heap.size from fun e => ⟨(hg e).2.1, (hg e).2.2.1⟩)
  have HG1 := Lib.hid (show 0 < n → A1 = some ⟨g, 0, none⟩ ∧ R32 w3 g xs from fun e => ⟨(hg e).1, (hg e).2.2.2⟩)
  have hn0 : 0 < n ∨ n = 0 := by omega
  obtain ⟨B3, hB3⟩ : ∃ B3, B3 = w3.heap.size := ⟨_, rfl⟩
  have hB3' : B3 ≤ w3.heap.size := by omega
  have hB3W : W2.heap.size ≤ B3 := by omega
  rw [← hB3] at HGB
  clear c0 c1 f0 f1 hW2 hcl hg h2 h1 h hbw2 hB3
  go_wp2_with fail
  go_loopg [10, 11] p (fun v s10 s11 wr => (0 < n ∨ v = 0) ∧ DgRel y p g B3 W2 v s10 s11 wr)
  case atStart =>
    refine ⟨?_, A1, n, c3, xs, [], rfl, HG1.out, by omega, hcn, hcm, HLx.out, ?_, World.ownsRow_nil _ _ _ _, (by intro x hx; cases hx), hb3, hB3', (by show _ = _; simp [vb_nil])⟩
    · rcases hn0 with e | e
      · exact .inl e
      · right; rw [HP.out, List.eq_nil_of_length_eq_zero (hl.trans e), vb_nil]
    · show Rep _ _ _
      rw [List.take_of_length_le (by omega)]
      exact ⟨HLx.out, HP.out.symm, HT.out⟩
  case round =>
    clear HG1 hb3 hB3' hs3 hcn hcm hl HLx HT hn0
    obtain ⟨hnv, A2, k, c4, cs, zs, rfl, hR, hkc, hk4, hc4, hcl, hCr, hown, hzd, hbw, hB3r, HS⟩ := hrel
    have hsz := hbw.size
    by_cases h0 : k = 0
    · have HV0 := Lib.hid (rep_nil hCr.out (show (cs.take k).length = k by rw [List.length_take]; omega) h0)
      subst h0
      have HVal := Lib.hid (show vb y zs = p by have := HS.out; rw [HV0.out] at this; simpa using this)
      obtain ⟨A5, c5, rfl, hc1, hc2⟩ := own_shape hown
      have hzw := hzd.wide (show y ≤ 65536 by omega)
      have hdr := own_drd hown hzw
      have hcd := hdr.cap
      obtain ⟨q, hq⟩ : ∃ q, q = zs.length := ⟨_, rfl⟩
      have HQ := Lib.hid hq
      have HO := Lib.hid hown
      rw [← hq] at hdr hcd
      rw [← hq]
      clear hq hown hR hCr HS HV0
      obtain ⟨wo, hwo⟩ : ∃ wo : World, wo = wr := ⟨_, rfl⟩
      go_wp2_with fail
      go_loop [11] (OtRel q zs A5 c5) (fun v => slen v)
      case atStart => exact ⟨q, Nat.le_refl _, rfl, fun j h1 h2 => absurd h1 (by omega)⟩
      case round =>
        obtain ⟨e, he, rfl, hz⟩ := hrel
        have HZ := Lib.hid hz
        clear hz
        obtain ⟨hc6, hf6⟩ := bcell hbw
        have d0 := (hc6 w.heap.size 0 (by omega)).trans C0
        have d1 := (hc6 w.heap.size 1 (by omega)).trans C1
        have g0 := (hf6 w.heap.size 0 (by omega)).trans F0
        have g1 := (hf6 w.heap.size 1 (by omega)).trans F1
        clear hc6 hf6
        by_cases h0 : e = 0
        · subst h0
          have HR := Lib.hid (trimmedG (y := y) (p := p) ⟨Nat.zero_le _, HZ.out, fun m hm => by omega⟩ HQ.out.symm hzd HVal.out)
          go_wp2_with fail
          refine (reverse_nil _ A5 c5 (by omega)).mono ?_
          rintro e w' ⟨rfl, rfl⟩
          go_wp2_with fail
          refine bodyPost_ret (v := .tuple #[.slice A5 0 c5, flt 0 0]) (by simp [results, Try.results34, go_sem, d0, d1]) rfl ⟨A5, 0, c5, [], rfl, drd_cap0 (by omega), ?_, ?_⟩
          · have := HR.out; simpa using this
          · (repeat (first | exact Below.refl _ _ | exact hbW | refine Below.setCell ?_ (by simp; done) _ | refine Below.trans ?_ (Below.mono hbw (by first | omega | (simp; done) | (simp; omega)))))
        · obtain ⟨gg, rfl, hgg, hRR, _⟩ := R64.of_own HO.out (by rw [← HQ.out]; omega)
          obtain ⟨m, rfl⟩ : ∃ m, e = m + 1 := ⟨e - 1, by omega⟩
          have hcell := hRR.cell (j := m) (by rw [← HQ.out]; omega)
          have l1 := nth_nn zs m
          have l2 := hdr.lim.nth m
          clear h0
          by_cases hx0 : nth zs m = 0
          · have hx' : (nth zs m == 0) = true := beq_iff_eq.2 hx0
            have HX := Lib.hid (nth_zero hx0)
            clear hx0
            go_wp2_with fail
            go_round
            case rel => exact ⟨m, by omega, rfl, fun j h1 h2 => by rcases Nat.lt_or_ge m j with h3 | h3; exact HZ.out j (by omega) h2; rw [show j = m by omega]; exact HX.out⟩
            case measure => simp [slen]
          · have hx' : (nth zs m == 0) = false := beq_eq_false_iff_ne.2 hx0
            have HX := Lib.hid (nth_pos hx0)
            clear hx0
            have HR := Lib.hid (trimmedG (y := y) (p := p) (k := m + 1) ⟨by omega, HZ.out, fun i hi => by rw [show i = m by omega]; exact HX.out⟩ HQ.out.symm hzd HVal.out)
            have hpre := hRR.pre (m + 1)
            have hpl : (zs.take (m + 1)).length = m + 1 := by rw [List.length_take, ← HQ.out]; omega
            have hggw : w.heap.size < gg := by omega
            have hne : gg ≠ w.heap.size := by omega
            go_wp2_with fail
            refine (reverse_any wr gg (m + 1) c5 _ hpre hpl (by omega)).mono ?_
            rintro e w7 ⟨rfl, hR7, hg7⟩
            have hb7 : Below W2.heap.size W2 w7 := hbw.grown hg7 hsz (fun k hk => by injection hk with hk; omega)
            obtain ⟨hc6, hf6⟩ := bcell hb7
            have d0 := (hc6 w.heap.size 0 (by omega)).trans C0
            have d1 := (hc6 w.heap.size 1 (by omega)).trans C1
            have g0 := (hf6 w.heap.size 0 (by omega)).trans F0
            have g1 := (hf6 w.heap.size 1 (by omega)).trans F1
            clear hc6 hf6
            have hrl : (zs.take (m + 1)).reverse.length = m + 1 := by rw [List.length_reverse, hpl]
            have hrd : Dig 65536 (zs.take (m + 1)).reverse := fun x hx => hzw x (List.mem_of_mem_take (List.mem_reverse.1 hx))
            have hR8 := (hR7.far (p := ⟨w.heap.size, 0, none⟩) hne (.int .i64 0)).far (p := ⟨w.heap.size, 1, none⟩) hne (.int .i64 0)
            have hL8 := Lib.hid (hR8.lift hrd (c := c5) hrl (by omega))
            clear hrd hR7 hpre
            go_wp2_with fail
            refine bodyPost_ret (v := .tuple #[.slice (some ⟨gg, 0, none⟩) (m + 1) c5, flt 0 0]) (by simp [results, Try.results34, go_sem, d0, d1]) rfl ⟨_, m + 1, c5, _, rfl, hL8.out, ?_, ?_⟩
            · rw [List.reverse_reverse]; exact HR.out
            · (repeat (first | exact Below.refl _ _ | exact hbW | refine Below.setCell ?_ (by simp; done) _ | refine Below.trans ?_ (Below.mono hb7 (by first | omega | (simp; done) | (simp; omega)))))
    · have hk0 : 0 < k := by omega
      have hv0 := rep_pos4 hCr.out (show (cs.take k).length = k by rw [List.length_take]; omega) hk0
      have hnn : 0 < n := by omega
      obtain ⟨hgl, hgh⟩ := HGB.out hnn
      have hRb := (hR hk0).2
      have hAe := (hR hk0).1
      clear hR
      subst hAe
      have hL := fg_len HS.out hv0 hy.1 HPM.out
      clear h0 hnv
      go_wp2_with fail
      refine (divideBySmall_any wr g k c4 cs (P : Int) hRb hcl hkc (by omega) ⟨hk4, hc4⟩).mono ?_
      rintro e w5 ⟨r, cs', rfl, r0, r1, hR5, hL5, hg5, hD5⟩
      have hlen5 := hD5.1
      have HD := Lib.hid (ds_val hD5 hkc hCr.out.val)
      have hown5 := hown.kept hg5 (.inr (fun e => by have := hown.lt _ e; omega))
      have hb5 : Below W2.heap.size W2 w5 := hbw.grown hg5 hsz (fun k hk => by injection hk with hk; omega)
      have hs5 : B3 ≤ w5.heap.size := by have := hg5.size; omega
      have hgw5 := hR5.lt
      have hl5 := hR5.lrd0 hL5 (B := w5.heap.size) (n := k) (c := c4) hgw5 (by omega) ⟨hk4, hc4⟩
      obtain ⟨rn, rfl⟩ := Int.eq_ofNat_of_zero_le r0
      rw [Int.toNat_natCast] at HD
      have hrn : rn < P := by omega
      clear hown hbw hRb hg5 hD5 r0 r1
      go_wp2_with fail
      refine (trim_any _ _ _ k c4 _ hl5).mono ?_
      rintro e w' ⟨t, rfl, ht5, rfl⟩
      have htk := ht5.le
      have HQ5 := Lib.hid (show Rep 4294967296 (cs'.take t) (vb 4294967296 (cs'.take k)) by
        have := trimmed ht5 hl5.len.out hl5.lim
        rwa [List.take_take, Nat.min_eq_left htk] at this)
      obtain ⟨q, hq⟩ : ∃ q, q = vb 4294967296 (cs'.take k) := ⟨_, rfl⟩
      rw [← hq] at HD HQ5
      have HMs := Lib.hid (show q < gk by
        have h5 := HD.out
        have h6 : q * 2 ≤ q * P := Nat.mul_le_mul_left _ (by
          have h7 := hLP2
          rcases Nat.lt_or_ge P 2 with e | e
          · exfalso
            have : P * y ≤ 1 * 36 := Nat.mul_le_mul (by omega) hy.2
            omega
          · exact e)
        omega)
      have HRn := Lib.hid (show rn < y ^ (W - 0) by rw [Nat.sub_zero, ← hLP.pow]; exact hrn)
      obtain ⟨L, hLL⟩ : ∃ L, L = zs.length := ⟨_, rfl⟩
      have HLL := Lib.hid hLL
      rw [← hLL] at hL
      clear hl5 ht5 hq hLL hcl hCr
      obtain ⟨wo, hwo⟩ : ∃ wo : World, wo = w5 := ⟨_, rfl⟩
      go_wp2_with fail
      go_loopw [11, 12, 42] (DjRel y L W g B3 (rn * y ^ L + vb y zs) W2 cs') (fun _ _ j _ => W - (intOf j).toNat)
      case atStart => exact ⟨0, rn, zs, Nat.zero_le _, rfl, rfl, by omega, HRn, hown5, (by show _ = _; rw [HLL.out]; rfl), hzd, hb5, hs5, hR5, (by show _ = _; rw [Nat.add_zero])⟩
      case round =>
        clear hown5 hb5 hs5 hR5 hgw5 hsz HRn
        obtain ⟨j, t2, zs2, hj, rfl, rfl, ht2, htl, hown, hzl, hzd2, hbw, hB3w, hR6, HS2⟩ := hrel
        have hsz := hbw.size
        have hzn : zs2.length ≤ 20000 := by have := hzl.out; omega
        by_cases h2 : j < W
        · have ST := Lib.hid (dj_step hzl.out HS2.out)
          have HDv := Lib.hid (dj_div htl.out h2 (by omega))
          have hml : t2 % y < y := Nat.mod_lt _ (by omega)
          have hdl : t2 / y ≤ t2 := Nat.div_le_self _ _
          have hyf : ((y : Int) == 0) = false := beq_eq_false_iff_ne.2 (by omega)
          have hq1 : 0 ≤ (t2 : Int) / (y : Int) ∧ (t2 : Int) / (y : Int) ≤ 4294967295 := ⟨Int.ediv_nonneg (by omega) (by omega), by rw [← Int.natCast_ediv]; omega⟩
          go_wp2_with (at_builtin; refine wpList_append_own _ rfl _ _ 33 rfl B3 3 i0 (.int .i64 0) 1 8 Try.underlying33 hi iz0 iz1 iz2 rfl (by decide) _ _ _ rfl (hown.alloc _) ⟨wr.heap.size, 0, none⟩ 1 1 [.int .i64 ((t2 : Int) % (y : Int))] rfl rfl (cell_one_new _ _ _) (fun u hu => by simp at hu; subst hu; rfl) (by unfold maxLen; omega) (by omega) (by first | (simp; omega) | omega) ?_; intro v' w1 hown' hgrow _)
          rw [show ((t2 : Int) % (y : Int)) = ((t2 % y : Nat) : Int) by simp] at hown'
          have ho := own_snocN hown'
          have hb1 : Below W2.heap.size W2 w1 := (hbw.alloc hsz _).grown hgrow (by simp; omega) (fun k hk => by have := (hown.lt k hk).1; omega)
          have hR7 := (hR6.alloc _).grown hgrow (fun e => by have := (hown.lt _ e.symm).1; omega)
          have hB4 : B3 ≤ w1.heap.size := by have := hgrow.size; simp at this; omega
          clear hown hown' hgrow hR6
          go_wp2_with fail
          go_roundw
          case rel => exact ⟨j + 1, t2 / y, _, by omega, by go_num, by first | rfl | simp, by omega, HDv, ho, (by show _ = _; rw [List.length_append, hzl.out]; rfl), hzd2.push hml, hb1, hB4, hR7, ST.out⟩
          case measure => simp [intOf]; omega
        · obtain rfl : j = W := by omega
          have HT0 := Lib.hid (show t2 = 0 by have := htl.out; rw [Nat.sub_self] at this; simpa using this)
          have HN := Lib.hid (show q * y ^ zs2.length + vb y zs2 = p by
            rw [hzl.out]
            exact dg_next HD.out hLP.pow (by have := HS2.out; rw [HT0.out] at this; exact this) (by rw [HLL.out]; exact HS.out))
          have hkc2 : t ≤ cs'.length := by omega
          have htc : t ≤ c4 := by omega
          go_wp2_with fail
          go_roundg q
          case measure => exact HMs.out
          case rel => exact ⟨.inl hnn, _, t, c4, cs', zs2, rfl, fun _ => ⟨rfl, hR6⟩, hkc2, htc, hc4, hL5, HQ5, hown, hzd2, hbw, hB3w, HN⟩
end Go.Proofs.Ytjkogajdpkbjeaa
