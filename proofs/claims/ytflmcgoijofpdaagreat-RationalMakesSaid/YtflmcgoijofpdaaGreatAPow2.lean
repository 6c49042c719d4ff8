/- The program's power, with the two closures. -/
import Derived.Test.YtflmcgoijofpdaaGreatAPow1
import Derived.Test.YtflmcgoijofpdaaGreatAc
namespace Go.Proofs.YtflmcgoijofpdaaGreat
open Go.RowKit
set_option maxHeartbeats 400000
set_option maxRecDepth 100000
set_option linter.unusedSimpArgs false
set_option linter.unusedVariables false

theorem bit_at {xs : List Nat} {e q r : Nat} (h : Rep 4294967296 xs e) (hq : q < xs.length) (hr : r < 32) : xs.getD q 0 / 2 ^ r % 2 = e / 2 ^ (32 * q + r) % 2 := by
  obtain ⟨b, hb⟩ : ∃ b, b = 4294967296 := ⟨_, rfl⟩
  have hb2 : b = 2 ^ 32 := by rw [hb]
  have hb0 : 0 < b := by omega
  have h1 : e = S b (fun i => xs.getD i 0) xs.length := by have := h.val; rw [← this, hb]; rfl
  obtain ⟨k, hk⟩ : ∃ k, xs.length = q + (k + 1) := ⟨xs.length - q - 1, by omega⟩
  rw [hk, S_add, S_front] at h1
  have hlo : S b (fun i => xs.getD i 0) q < b ^ q := S_lt hb0 (fun j _ => by rw [hb]; exact h.dig.at_ (by decide) j)
  simp only [Nat.add_zero] at h1
  generalize S b (fun i => xs.getD i 0) q = lo at h1 hlo
  generalize S b (fun i => xs.getD (q + (i + 1)) 0) k = hi at h1
  generalize xs.getD q 0 = x at h1
  have e1 : e / b ^ q = x + b * hi := by
    rw [h1, Nat.add_mul_div_left _ _ (Nat.pow_pos hb0), Nat.div_eq_of_lt hlo, Nat.zero_add]
  have e2 : e / 2 ^ (32 * q + r) = (x + b * hi) / 2 ^ r := by rw [Nat.pow_add, Nat.pow_mul, ← hb2, ← Nat.div_div_eq_div_mul, e1]
  rw [e2]
  obtain ⟨d, hd⟩ : ∃ d, 32 = r + (d + 1) := ⟨31 - r, by omega⟩
  rw [hb2, hd, Nat.pow_add, Nat.pow_succ]
  have : x + 2 ^ r * (2 ^ d * 2) * hi = x + 2 ^ r * (2 * (2 ^ d * hi)) := by
    rw [Nat.mul_assoc, Nat.mul_comm (2 ^ d) 2, Nat.mul_assoc]
  rw [this, Nat.add_mul_div_left _ _ (Nat.pow_pos (by decide)), Nat.add_mul_mod_self_left]
theorem half_of (e j : Nat) : e / 2 ^ j = 2 * (e / 2 ^ (j + 1)) + e / 2 ^ j % 2 := by
  rw [Nat.pow_succ, ← Nat.div_div_eq_div_mul]
  omega
def PwIs (p e j v : Nat) (fl : Bool) : Prop := (fl = false ∧ v = p ^ (e / 2 ^ j)) ∨ (fl = true ∧ Top128 ≤ p ^ e)
def PwRel (g p e d : Nat) (W : World) (r i : Value) (wr : World) : Prop :=
  ∃ j A k c zs v fl, j ≤ d ∧ i = .int .i64 ((j : Int) - 1) ∧ r = .slice A k c ∧ LRd wr wr.heap.size A k c zs ∧ Hid (Rep 4294967296 zs v) ∧ k ≤ 128 ∧ Row wr g 4 [.bool fl] ∧ W.grownBy wr (some g) ∧ Hid (PwIs p e j v fl)
def PwPost (g p e : Nat) (w : World) (en : Ending) (w' : World) : Prop :=
  ∃ A k c zs v fl, en = .returned (.slice A k c) ∧ LRd w' w'.heap.size A k c zs ∧ Rep 4294967296 zs v ∧ k ≤ 128 ∧ Row w' g 4 [.bool fl] ∧ w.grownBy w' (some g) ∧ ((fl = false ∧ v = p ^ e) ∨ (fl = true ∧ Top128 ≤ p ^ e))
theorem top_one : 1 < Top128 := lt_top (by decide)
theorem pw_over {p e k : Nat} (h : Top128 ≤ p ^ k) (hk : k ≤ e) : Top128 ≤ p ^ e := by
  rcases Nat.eq_zero_or_pos p with h0 | h0
  · subst h0
    have := top_one
    rcases Nat.eq_zero_or_pos k with h1 | h1
    · subst h1; simp at h; omega
    · rw [Nat.zero_pow h1] at h; omega
  · exact Nat.le_trans h (Nat.pow_le_pow_right h0 hk)
/-- The square. -/
theorem pw_sq {p e j v v' : Nat} {fl f2 : Bool} (h : PwIs p e (j + 1) v fl) (hs : (v * v < Top128 ∧ v' = v * v ∧ f2 = fl) ∨ (Top128 ≤ v * v ∧ v' = 0 ∧ f2 = true)) : (f2 = false ∧ v' = p ^ (2 * (e / 2 ^ (j + 1)))) ∨ (f2 = true ∧ Top128 ≤ p ^ e) := by
  have hle : 2 * (e / 2 ^ (j + 1)) ≤ e := by
    have := half_of e j
    have := Nat.div_le_self e (2 ^ j)
    omega
  rcases h with ⟨rfl, rfl⟩ | ⟨rfl, h⟩
  · have e2 : p ^ (e / 2 ^ (j + 1)) * p ^ (e / 2 ^ (j + 1)) = p ^ (2 * (e / 2 ^ (j + 1))) := by rw [← Nat.pow_add]; congr 1; omega
    rw [e2] at hs
    rcases hs with ⟨_, rfl, rfl⟩ | ⟨h, rfl, rfl⟩
    · exact .inl ⟨rfl, rfl⟩
    · exact .inr ⟨rfl, pw_over h hle⟩
  · rcases hs with ⟨_, rfl, rfl⟩ | ⟨_, rfl, rfl⟩
    · exact .inr ⟨rfl, h⟩
    · exact .inr ⟨rfl, h⟩
theorem pw_even {p e j v : Nat} {fl : Bool} (hb : e / 2 ^ j % 2 = 0) (h : (fl = false ∧ v = p ^ (2 * (e / 2 ^ (j + 1)))) ∨ (fl = true ∧ Top128 ≤ p ^ e)) : PwIs p e j v fl := by
  have := half_of e j
  rcases h with ⟨rfl, rfl⟩ | ⟨rfl, h⟩
  · exact .inl ⟨rfl, by rw [this, hb]; rfl⟩
  · exact .inr ⟨rfl, h⟩
theorem pw_odd {p e j v v' : Nat} {fl f2 : Bool} (hb : e / 2 ^ j % 2 = 1) (h : (fl = false ∧ v = p ^ (2 * (e / 2 ^ (j + 1)))) ∨ (fl = true ∧ Top128 ≤ p ^ e)) (hs : (v * p < Top128 ∧ v' = v * p ∧ f2 = fl) ∨ (Top128 ≤ v * p ∧ v' = 0 ∧ f2 = true)) : PwIs p e j v' f2 := by
  have h9 := half_of e j
  have hle : 2 * (e / 2 ^ (j + 1)) + 1 ≤ e := by
    have := Nat.div_le_self e (2 ^ j)
    omega
  rcases h with ⟨rfl, rfl⟩ | ⟨rfl, h⟩
  · rw [← Nat.pow_succ] at hs
    rcases hs with ⟨_, rfl, rfl⟩ | ⟨h, rfl, rfl⟩
    · exact .inl ⟨rfl, by rw [h9, hb]⟩
    · exact .inr ⟨rfl, pw_over h hle⟩
  · rcases hs with ⟨_, rfl, rfl⟩ | ⟨_, rfl, rfl⟩
    · exact .inr ⟨rfl, h⟩
    · exact .inr ⟨rfl, h⟩
theorem bit_int {xs : List Nat} {e j : Nat} (h : Rep 4294967296 xs e) (hq : j / 32 < xs.length) : bits .and .u32 (nth xs (j / 32) / 2 ^ (j % 32)) 1 = ((e / 2 ^ j % 2 : Nat) : Int) := by
  have h1 := bit_at h hq (Nat.mod_lt j (by decide : 0 < 32))
  rw [Nat.div_add_mod] at h1
  rw [← h1]
  have h2 : xs.getD (j / 32) 0 < 4294967296 := h.dig.at_ (by decide) _
  unfold nth
  have e1 : ((xs.getD (j / 32) 0 : Nat) : Int) / 2 ^ (j % 32) = ((xs.getD (j / 32) 0 / 2 ^ (j % 32) : Nat) : Int) := by
    rw [Int.natCast_ediv, Int.natCast_pow]
    rfl
  rw [e1, show (1 : Int) = ((1 : Nat) : Int) from rfl, u32_and_nat _ _ (Nat.lt_of_le_of_lt (Nat.div_le_self _ _) h2) (by decide), Nat.and_one_is_mod]
set_option maxHeartbeats 8000000 in
theorem power1_any (w : World) (B g : Nat) (A D C : Option Addr) (n m l c d cc p e : Nat) (xs es ss : List Nat) (h : LRd w B A n c xs) (k : LRd w B D m d es) (hs : LRd w B C l cc ss) (hB : B ≤ w.heap.size) (hx : Rep 4294967296 xs p) (he : Rep 4294967296 es e) (h1 : Rep 4294967296 ss 1) (hn : n ≤ 128) (hm : m ≤ 128) (hl : l ≤ 128) (hg : Row w g 4 [.bool false]) :
    Calls Tryz.prog 108 #[.slice A n c, .slice D m d, .slice C l cc, .func (Fn.func 110) #[] #[.pointer (some ⟨g, 0, none⟩)]] w (PwPost g p e w) := by
  have hlt := Row.lt hg
  go_enter Tryz.func108, Tryz.ntmps108
  go_wp2_with fail
  refine (bits_ok w B D m d es k hB (rep_vld1 he k.len.out hm)).mono ?_
  rintro e1 w1 ⟨rfl, hb1⟩
  have sz := hb1.size
  have hnb := Lib.hid (nbits_hi k.lim)
  have hnl := Lib.hid (show nbits es ≤ 32 * m from by have := nbits_le k.lim; rwa [k.len.out] at this)
  have hnb3 : nbits es ≤ 4096 := by have := hnl.out; omega
  go_wp2_with fail
  obtain ⟨V, hV⟩ : ∃ V : World, V = w1.alloc (.cells #[.int .i64 0, .int .i64 0] 28) := ⟨_, rfl⟩
  have bV : Below w.heap.size w V := by rw [hV]; exact hb1.alloc (by omega) _
  rw [← hV]
  clear hV hb1 sz
  have szV := bV.size
  have RV : Row V g 4 [.bool false] := Row.below hg bV hlt
  replace h := (h.below bV hB).more (B' := V.heap.size) (by omega)
  replace k := (k.below bV hB).more (B' := V.heap.size) (by omega)
  replace hs := (hs.below bV hB).more (B' := V.heap.size) (by omega)
  have kc := k.cap
  have hev := he.val
  have HB := Lib.hid (show e < 2 ^ nbits es by rw [← hev]; exact hnb.out)
  have hml : es.length = m := k.len.out
  have HX := Lib.hid hx
  have HE := Lib.hid he
  have H1 := Lib.hid h1
  clear hx he h1 hnb hev hlt
  go_loopw [9, 12] (PwRel g p e (nbits es) V) (fun _ i _ => (intOf i + 1).toNat)
  case atStart => exact ⟨_, C, l, cc, ss, 1, false, Nat.le_refl _, rfl, rfl, hs, H1, hl, RV, grown_below (Below.refl _ _), .inl ⟨rfl, by rw [Nat.div_eq_of_lt HB.out]; rfl⟩⟩
  case round =>
    obtain ⟨j, A1, k1, c1, zs, v, fl, hj, rfl, rfl, hz, hrz, hk1, hR, hgw, HI⟩ := hrel
    have hzc := hz.cap
    have hsz := hgw.size
    rcases j with _ | j
    · go_wp2_with fail
      go_ret
      refine ⟨A1, k1, c1, zs, v, fl, rfl, hz, hrz.out, hk1, hR, grown_trans (grown_below bV) hgw, ?_⟩
      have := HI.out
      unfold PwIs at this
      rwa [Nat.pow_zero, Nat.div_one] at this
    · have ei : ((j + 1 : Nat) : Int) - 1 = (j : Int) := by omega
      rw [ei]
      clear ei
      have hj32 : j < 32 * m := by have := hnl.out; omega
      have hjm : j ≤ 4096 := by omega
      have h2 := LRd.grownX h (Nat.le_refl _) RV hgw
      have k2 := LRd.grownX k (Nat.le_refl _) RV hgw
      go_wp2_with fail
      refine (pmul_any wr wr.heap.size g A1 A1 k1 k1 c1 c1 v v fl zs zs hz hz (Nat.le_refl _) hrz.out hrz.out hk1 hk1 hR).mono ?_
      rintro e2 w2 ⟨A2, k2', c2, zs2, v2, f2, rfl, hz2, hr2, hk2, R2, hg2, hst⟩
      have HQ := Lib.hid (pw_sq HI.out hst)
      have HZ := Lib.hid hr2
      have hz2c := hz2.cap
      have sz2 := hg2.size
      have k3 := LRd.grownX k2 hsz hR hg2
      have h3 := LRd.grownX h2 hsz hR hg2
      obtain ⟨b, off, rfl, hbb, hcc⟩ := k3.rd (by omega)
      have g1 : w2.cell? ⟨b, off + j / 32, none⟩ = some (.int .u32 (nth es (j / 32))) := hcc (j / 32) (by omega)
      have HBT := Lib.hid (bit_int HE.out (j := j) (by rw [hml]; omega))
      clear hst hr2 hcc
      have hms : (intOf (Value.int IntKind.i64 ((j : Int) - 1)) + 1).toNat < (intOf (Value.int IntKind.i64 (j : Int)) + 1).toNat := by simp [intOf]
      rcases Nat.mod_two_eq_zero_or_one (e / 2 ^ j) with hb | hb
      · have hb0 : bits .and .u32 (nth es (j / 32) / 2 ^ (j % 32)) 1 = 0 := by rw [HBT.out, hb]; rfl
        have HP := Lib.hid (pw_even hb HQ.out)
        clear hb
        go_wp2_with fail
        go_roundw
        case rel => exact ⟨j, A2, k2', c2, zs2, v2, f2, by omega, rfl, rfl, hz2, HZ, hk2, R2, grown_trans hgw hg2, HP⟩
        case measure => exact hms
      · have hb0 : bits .and .u32 (nth es (j / 32) / 2 ^ (j % 32)) 1 = 1 := by rw [HBT.out, hb]; rfl
        have HBD := Lib.hid hb
        clear hb
        go_wp2_with fail
        refine (pmul_any w2 w2.heap.size g A2 A k2' n c2 c v2 p f2 zs2 xs hz2 (h3.more (by omega)) (Nat.le_refl _) HZ.out HX.out hk2 hn R2).mono ?_
        rintro e3 w3 ⟨A4, k4, c4, zs4, v4, f4, rfl, hz4, hr4, hk4, R4, hg4, hst⟩
        have HP := Lib.hid (pw_odd HBD.out HQ.out hst)
        have H4 := Lib.hid hr4
        have hz4c := hz4.cap
        clear hst hr4
        go_wp2_with fail
        go_roundw
        case rel => exact ⟨j, A4, k4, c4, zs4, v4, f4, by omega, rfl, rfl, hz4, H4, hk4, R4, grown_trans (grown_trans hgw hg2) hg4, HP⟩
        case measure => exact hms
end Go.Proofs.YtflmcgoijofpdaaGreat
