/- The law's examples of package integer. From an argument that came in to what the walks ask: a []uint32 as it is read by the row is a slice of limbs (LRd). From an argument that came in to what the walks ask: an api.Int. -/
import Derived.Test.YtfgkhdpdjclmkaaGreatBk
import Derived.Test.YtfgkhdpdjclmkaaGreatBi
import Derived.Deep.RegionHeld3
import Derived.Test.YtfgkhdpdjclmkaaGreatBa
import Derived.ProofKit
import Derived.OpenShut
import Derived.Test.YtfgkhdpdjclmkaaGreatBf
import Derived.Lib.SmallJoins
import Derived.ChangeArms
namespace Go.Proofs.YtfgkhdpdjclmkaaGreat
open Go.RowKit
set_option maxHeartbeats 400000
set_option maxRecDepth 100000
set_option linter.unusedSimpArgs false
set_option linter.unusedVariables false

theorem IRep.iok {neg : Bool} {zs : List Nat} {z : Int} (h : IRep neg zs z) (hz : z.natAbs < Top128) : ivld neg zs = true := by
  by_cases h0 : zs.length = 0
  · rw [ivld_nil h0]
    have h1 := h.rep.val
    rw [List.eq_nil_of_length_eq_zero h0, vb_nil] at h1
    have h2 := h.sgn
    have : z = 0 := by omega
    subst this
    rw [h2]; rfl
  · obtain ⟨m, hm⟩ : ∃ m, m = 128 := ⟨_, rfl⟩
    rw [ivld_some h0]
    have h1 := h.rep.length_le (m := m) (by decide) (by rw [← top128 hm]; exact hz)
    simp only [Bool.and_eq_true, decide_eq_true_eq]
    exact ⟨by omega, rep_v128 h.rep hz⟩
theorem lt_top {n : Nat} (h : n < 4294967296) : n < Top128 := by
  obtain ⟨m, hm⟩ : ∃ m, m = 127 := ⟨_, rfl⟩
  rw [top128 (m := m + 1) (by omega), Nat.pow_succ]
  have := Nat.pow_pos (n := m) (show 0 < 4294967296 by decide)
  have := Nat.mul_le_mul_right 4294967296 this
  omega
/-- An integer as an argument. -/
theorem IRep.ival {neg : Bool} {A : Option Addr} {n c : Nat} {zs : List Nat} {z : Int} (h : IRep neg zs z) : (IV.mk neg A n c zs).val = z := h.val.symm
theorem IRep.pos {neg : Bool} {n : Nat} {zs : List Nat} {z : Int} (h : IRep neg zs z) (hl : zs.length = n) (hz : z ≠ 0) : 0 < n := by
  rcases Nat.eq_zero_or_pos n with e | e
  · exfalso
    have h1 := h.rep.val
    rw [List.eq_nil_of_length_eq_zero (hl.trans e), vb_nil] at h1
    omega
  · exact e
theorem Bk2.newAt (w : World) (g : Nat) (hg : w.heap.size = g) (u v : Value) (t : TypeId) : Bk2 (w.alloc (.cells #[u, v] t)) g u v := by subst hg; exact Bk2.new w u v t
theorem bnext {W v v' : World} (h : Below W.heap.size W v) (hb : Below v.heap.size v v') : Below W.heap.size W v' := h.trans (hb.mono h.size)
theorem len16 {zs : List Nat} {v k : Nat} (h : Rep 65536 zs v) (hl : zs.length = k) (hv : v < 65536) : k ≤ 100000 := by
  have := h.length_le (m := 1) (by decide) (by omega)
  omega
end Go.Proofs.YtfgkhdpdjclmkaaGreat

namespace Go.Proofs.YtfgkhdpdjclmkaaGreat
open Go.ChangeShapes Go.WideShapes Go.ChangeAt Go.RowKit

theorem cell_block_lt {w : World} {a : Addr} {v : Value} (h : w.cell? a = some v) : a.block < w.heap.size := by
  unfold World.cell? at h
  rcases Nat.lt_or_ge a.block w.heap.size with hl | hl
  · exact hl
  · exfalso
    have e : w.heap[a.block]? = none := by simp [hl]
    simp [e] at h
theorem lrd_open {H : Type} {enc : TypeId × Value → H} {W : World} {spare : Nat → Bool} {held : Bool} {A : Option Addr} {len cap : Nat} {fuel : Nat} {x : DataW H × List MemPlace}
    (hs : ∀ b, spare b = true)
    (h : DataW.trod enc Tryz.prog W 0 spare held fuel 22 (Value.cells (.slice A len cap)).toList = some x) : ∃ xs, LRd W W.heap.size A len cap xs := by
  rcases open_ints Tryz.underlying22 Tryz.underlying95 (by kernel_rfl) h with ⟨hcs, _⟩ | ⟨a, l, c, zs, hcs, _, hl, hm, hz, _, hcell, hwz⟩
  · simp [Value.cells] at hcs
    obtain ⟨rfl, rfl, rfl⟩ := hcs
    exact ⟨[], rfl, ⟨Nat.le_refl _, by omega⟩, fun x hx => absurd hx (by simp), fun hn => absurd hn (by omega)⟩
  · simp [Value.cells] at hcs
    obtain ⟨rfl, rfl, rfl⟩ := hcs
    rw [hs, if_pos rfl] at hz
    have hb : ∀ n ∈ zs, 0 ≤ n ∧ n < 4294967296 := by
      intro n hn
      have hw := hwz n hn
      have := bounds_u32 hw
      omega
    unfold maxLen at hm
    refine ⟨(zs.take len).map Int.toNat, (by simp; omega : _ = _), ⟨hl, by omega⟩, ?_, ?_⟩
    · intro x hx
      rw [List.mem_map] at hx
      obtain ⟨n, hn, rfl⟩ := hx
      have := hb n (List.mem_of_mem_take hn)
      omega
    · intro hn
      have h0 := hcell 0 (by omega)
      obtain ⟨b, off, spot⟩ := a
      have hspot : spot = none := by simpa [Addr.add] using World.cell?_spot h0
      subst hspot
      refine ⟨b, off, rfl, ?_, ?_⟩
      · have := cell_block_lt h0
        simpa [Addr.add] using this
      · intro j hj
        have hc := hcell j (by omega)
        have e : zs.getD j 0 = nth ((zs.take len).map Int.toNat) j := by
          unfold nth
          have hjz : j < zs.length := by omega
          have hj' := hb zs[j] (List.getElem_mem hjz)
          simp [hj, hjz]
          omega
        rw [e] at hc
        have ea : (⟨b, off, none⟩ : Addr).add j = ⟨b, off + j, none⟩ := by
          unfold Addr.add; split <;> simp_all
        rw [ea] at hc
        exact hc
end Go.Proofs.YtfgkhdpdjclmkaaGreat

namespace Go.Proofs.YtfgkhdpdjclmkaaGreat
open Go.Joins Go.ChangeShapes Go.WideShapes Go.ChangeAt Go.RowKit

set_option maxRecDepth 100000
theorem cellsInt : (Tryz.prog).cellsOf 24 = 2 := by kernel_rfl
theorem int_open {H : Type} {enc : TypeId × Value → H} {W : World} {spare : Nat → Bool} {held : Bool} {r : Reach} {b0 : Nat} {v : Value} {d : DataW H} {p : List MemPlace} (hs : ∀ b, spare b = true)
    (hv : Value.okWide Tryz.prog W r b0 24 v) (h : DataW.Trod enc Tryz.prog W 0 spare held 24 v d p) : ∃ a : IV, v = a.v ∧ a.at W W.heap.size := by
  obtain ⟨c0, c1, y0, y1, m, rfl, _, _, hy0, hy1⟩ := open_agg2 Tryz.underlying24 (by kernel_rfl) cellsInt hv h
  obtain ⟨b, e0, _⟩ := DataW.trod_bool Tryz.underlying4 hy0
  obtain ⟨A, n, c, e1⟩ : ∃ A n c, c1 = .slice A n c := by
    rcases open_ints Tryz.underlying22 Tryz.underlying95 (by kernel_rfl) hy1 with ⟨hcs, _⟩ | ⟨a, l, c, zs, hcs, _⟩
    · simp at hcs; exact ⟨_, _, _, hcs⟩
    · simp at hcs; exact ⟨_, _, _, hcs⟩
  simp at e0
  subst e0 e1
  obtain ⟨xs, hx⟩ := lrd_open (A := A) (len := n) (cap := c) hs (x := y1) (by simpa [Value.cells] using hy1)
  exact ⟨⟨b, A, n, c, xs⟩, rfl, hx⟩
end Go.Proofs.YtfgkhdpdjclmkaaGreat
