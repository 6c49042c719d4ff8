/- slices.Clone of limbs; divideBySmall. -/
import Derived.Test.YtjkogajdpkbjeaaRow32
import Derived.Deep.QuietTactic
import Derived.BigQuiet
import Derived.Deep.RegionWith
import Derived.Maps.AppendAt
namespace Go.Proofs.Ytjkogajdpkbjeaa
open Go.RowKit
set_option maxHeartbeats 400000
set_option maxRecDepth 100000
set_option linter.unusedSimpArgs false
set_option linter.unusedVariables false

theorem add_mk (b off j : Nat) : (⟨b, off, none⟩ : Addr).add j = ⟨b, off + j, none⟩ := by
  unfold Addr.add; split
  · rename_i h; subst h; rfl
  · rfl
abbrev limbs (xs : List Nat) : List Value := xs.map fun (x : Nat) => Value.int .u32 (x : Int)
theorem limbs_one (xs : List Nat) : ∀ u ∈ limbs xs, u.oneCell' = true := by
  intro u hu
  obtain ⟨x, _, rfl⟩ := List.mem_map.1 hu
  rfl
theorem LRd.news {w : World} {B b off n c : Nat} {xs : List Nat} (h : LRd w B (some ⟨b, off, none⟩) n c xs) : ∀ j u, (limbs xs)[j]? = some u → w.cell? ((⟨b, off, none⟩ : Addr).add j) = some u := by
  intro j u hu
  rw [add_mk]
  have hj : j < xs.length := by
    rcases Nat.lt_or_ge j xs.length with e | e
    · exact e
    · rw [List.getElem?_eq_none (by simpa using e)] at hu; cases hu
  obtain ⟨b', off', e, _, hc⟩ := h.rd (by have := h.len.out; omega)
  injection e with e; injection e with e1 e2; subst e1; subst e2
  rw [hc j (by have := h.len.out; omega)]
  unfold nth
  rw [List.getElem?_map, List.getElem?_eq_getElem hj] at hu
  show some (Value.int .u32 ((xs.getD j 0 : Nat) : Int)) = some u
  rw [List.getD_eq_getElem?_getD, List.getElem?_eq_getElem hj]
  exact hu
theorem own_empty (w : World) (t : TypeId) : (w.alloc (.cells #[] t)).ownsRow w.heap.size t 1 (.slice (some ⟨w.heap.size, 0, none⟩) 0 0) 0 [] :=
  ⟨rfl, .inr ⟨w.heap.size, 0, #[], rfl, Nat.le_refl _, heap_alloc_new w _, Nat.le_refl _, by decide, rfl, rfl⟩⟩
theorem own_shape {w : World} {base size n : Nat} {t : TypeId} {v : Value} {xs : List Value} (h : w.ownsRow base t size v n xs) : ∃ A c, v = .slice A n c ∧ n ≤ c ∧ c ≤ maxLen := by
  rcases h.2 with ⟨rfl, rfl⟩ | ⟨g, cap, cur, rfl, _, _, h1, h2, _⟩
  · exact ⟨_, _, rfl, Nat.le_refl _, by decide⟩
  · exact ⟨_, _, rfl, h1, h2⟩

/-- A new row with the same limbs; nothing if there are none. -/
def ClonePost (n : Nat) (xs : List Nat) (w : World) (e : Ending) (w' : World) : Prop :=
  ∃ A c, e = .returned (.slice A n c) ∧ n ≤ c ∧ c ≤ 9223372036854775807 ∧ Below w.heap.size w w' ∧ (0 < n → ∃ g, A = some ⟨g, 0, none⟩ ∧ w.heap.size ≤ g ∧ R32 w' g xs)
theorem clone_some (w : World) (ad : Addr) (n c : Nat) (xs : List Nat) (hl : xs.length = n) (hn : n ≤ 1000000000) (hnews : ∀ j u, (limbs xs)[j]? = some u → w.cell? (ad.add j) = some u) (hb : 0 < n → ad.block < w.heap.size) :
    Calls Try.prog 47 #[.slice (some ad) n c] w (ClonePost n xs w) := by
  obtain ⟨i0, hi, hz0, hz1, hz2⟩ := info_parts info32
  have heq := fun (w : World) (A : Option Addr) (n c : Nat) => Lib.run_eql_slice_nil (P := Try.prog) w 22 58 A n c 0 0 Try.underlying22
  have hnews2 : ∀ j u, (limbs xs)[j]? = some u → (w.alloc (.cells #[] 58)).cell? (ad.add j) = some u := fun j u hu => by
    have hj : j < xs.length := by
      rcases Nat.lt_or_ge j xs.length with e | e
      · exact e
      · rw [List.getElem?_eq_none (by simpa using e)] at hu; cases hu
    have := hb (by omega)
    rw [World.cell?_alloc_lt w _ _ (by unfold Addr.add; split <;> exact this)]
    exact hnews j u hu
  have HN := Lib.hid hnews2
  have HL := Lib.hid hl
  clear hnews2 hnews hl
  go_enter Try.func47, Try.ntmps47
  go_wp2_with (at_builtin; refine wpList_append_own_at _ rfl _ _ 22 rfl w.heap.size 58 i0 (.int .u32 0) 1 4 Try.underlying22 hi hz0 hz1 hz2 rfl (by decide) _ 0 [] rfl (own_empty w 58) ad n c (limbs xs) rfl ?c1 HN.out (limbs_one xs) ?c3 ?c4 ?c5 ?_)
  case c1 => rw [List.length_map, HL.out]; omega
  case c3 => unfold maxLen; omega
  case c4 => omega
  case c5 => simp
  intro v' w1 hown hgr _ _
  obtain ⟨A', c', rfl, hc1, hc2⟩ := own_shape hown
  have hbel : Below w.heap.size w w1 := (bl1 w _).grown hgr (by simp) (fun k hk => by simp [Value.ownBlock] at hk; omega)
  go_wp2_with fail
  go_ret
  refine ⟨A', c', rfl, hc1, hc2, hbel, fun h0 => ?_⟩
  obtain ⟨g, e1, e2, e3, _⟩ := R32.of_own hown h0
  exact ⟨g, e1, e2, e3⟩
theorem clone_nil (w : World) (c : Nat) : Calls Try.prog 47 #[.slice none 0 c] w (ClonePost 0 [] w) := by
  have heq := fun (w : World) (A : Option Addr) (n c : Nat) => Lib.run_eql_slice_nil (P := Try.prog) w 22 58 A n c 0 0 Try.underlying22
  go_enter Try.func47, Try.ntmps47
  go_wp2_with fail
  go_ret
  exact ⟨none, 0, rfl, Nat.le_refl _, by omega, Below.refl _ _, fun h => by omega⟩
theorem clone_any (w : World) (B : Nat) (A : Option Addr) (n c : Nat) (xs : List Nat) (h : LRd w B A n c xs) (hB : B ≤ w.heap.size) (hn : n ≤ 1000000000) :
    Calls Try.prog 47 #[.slice A n c] w (ClonePost n xs w) := by
  have hl := h.len.out
  rcases Nat.eq_zero_or_pos n with h0 | h0
  · subst h0
    obtain rfl : xs = [] := List.eq_nil_of_length_eq_zero hl
    cases A with
    | none => exact clone_nil w c
    | some ad => exact clone_some w ad 0 c [] rfl (by omega) (fun j u hu => by simp at hu) (fun h => by omega)
  · obtain ⟨b, off, rfl, hb, hc⟩ := h.rd h0
    exact clone_some w ⟨b, off, none⟩ n c xs hl hn h.news (fun _ => by show b < _; omega)
end Go.Proofs.Ytjkogajdpkbjeaa
