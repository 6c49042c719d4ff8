/- From an argument that came in to what the walks ask: a []uint32 as it is read by the row is a slice of limbs (LRd). -/
import Derived.Test.YtjkogajdpkbjeaaWords
import Derived.ProofKit
import Derived.OpenShut
namespace Go.Proofs.Ytjkogajdpkbjeaa
open Go.ChangeShapes Go.WideShapes Go.ChangeAt Go.RowKit

theorem cell_block_lt {w : World} {a : Addr} {v : Value} (h : w.cell? a = some v) : a.block < w.heap.size := by
  unfold World.cell? at h
  rcases Nat.lt_or_ge a.block w.heap.size with hl | hl
  · exact hl
  · exfalso
    have e : w.heap[a.block]? = none := by simp [hl]
    simp [e] at h

theorem lrd_open {H : Type} {enc : TypeId × Value → H} {W : World} {spare : Nat → Bool} {held : Bool} {A : Option Addr} {len cap : Nat} {fuel : Nat} {x : DataW H × List MemPlace}
    (hs : ∀ b, spare b = true)
    (h : DataW.trod enc Try.prog W 0 spare held fuel 22 (Value.cells (.slice A len cap)).toList = some x) : ∃ xs, LRd W W.heap.size A len cap xs := by
  rcases open_ints Try.underlying22 Try.underlying58 (by kernel_rfl) h with ⟨hcs, _⟩ | ⟨a, l, c, zs, hcs, _, hl, hm, hz, _, hcell, hwz⟩
  · simp [Value.cells] at hcs
    obtain ⟨rfl, rfl, rfl⟩ := hcs
    exact ⟨[], rfl, ⟨Nat.le_refl _, by omega⟩, fun x hx => absurd hx (by simp), fun hn => absurd hn (by omega)⟩
  · simp [Value.cells] at hcs
    obtain ⟨rfl, rfl, rfl⟩ := hcs
    rw [hs, if_pos rfl] at hz
    have hb : ∀ n ∈ zs, 0 ≤ n ∧ n < 4294967296 := by
      intro n hn
      have hw := hwz n hn
      have := bounds_u32 hw
      omega
    unfold maxLen at hm
    refine ⟨(zs.take len).map Int.toNat, (by simp; omega : _ = _), ⟨hl, by omega⟩, ?_, ?_⟩
    · intro x hx
      rw [List.mem_map] at hx
      obtain ⟨n, hn, rfl⟩ := hx
      have := hb n (List.mem_of_mem_take hn)
      omega
    · intro hn
      have h0 := hcell 0 (by omega)
      obtain ⟨b, off, spot⟩ := a
      have hspot : spot = none := by simpa [Addr.add] using World.cell?_spot h0
      subst hspot
      refine ⟨b, off, rfl, ?_, ?_⟩
      · have := cell_block_lt h0
        simpa [Addr.add] using this
      · intro j hj
        have hc := hcell j (by omega)
        have e : zs.getD j 0 = nth ((zs.take len).map Int.toNat) j := by
          unfold nth
          have hjz : j < zs.length := by omega
          have hj' := hb zs[j] (List.getElem_mem hjz)
          simp [hj, hjz]
          omega
        rw [e] at hc
        have ea : (⟨b, off, none⟩ : Addr).add j = ⟨b, off + j, none⟩ := by
          unfold Addr.add; split <;> simp_all
        rw [ea] at hc
        exact hc
end Go.Proofs.Ytjkogajdpkbjeaa
