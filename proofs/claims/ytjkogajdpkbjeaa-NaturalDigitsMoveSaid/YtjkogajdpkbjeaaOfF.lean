/- What Of gives is new memory. -/
import Derived.Test.YtjkogajdpkbjeaaOf
import Derived.Deep.QuietTactic
import Derived.BigQuiet
import Derived.Deep.RegionLaw
import Derived.Deep.AppendLies
namespace Go.Proofs.Ytjkogajdpkbjeaa
open Go.RowKit
set_option maxHeartbeats 400000
set_option maxRecDepth 100000
set_option linter.unusedSimpArgs false
set_option linter.unusedVariables false

/-- What is returned lies in new memory. -/
def FreshV (B : Nat) (e : Ending) : Prop := ∀ A k c, e = .returned (.slice A k c) → 0 < k → ∃ g, A = some ⟨g, 0, none⟩ ∧ B ≤ g
theorem fresh_own {w' : World} {base n c k : Nat} {A : Option Addr} {zs : List Nat} (h : w'.ownsRow base 3 1 (.slice A n c) n (digs zs)) (hk : k ≤ n) : FreshV base (.returned (.slice A k c)) := by
  intro A' k' c' e h0
  injection e with e
  injection e with e1 e2 e3
  subst e1 e2
  obtain ⟨g, hA, hg, _, _⟩ := R64.of_own h (by omega)
  exact ⟨g, hA, hg⟩
def OfPost (w : World) (p : Nat) (e : Ending) (w' : World) : Prop := GivesN w p e w' ∧ FreshV w.heap.size e
set_option maxHeartbeats 4000000 in
theorem of_fresh (w : World) (B : Nat) (A : Option Addr) (n c : Nat) (xs : List Nat) (h : LRd w B A n c xs) (hB : B ≤ w.heap.size) (hM : n ≤ 4000000000000) :
    Calls Try.prog 17 #[.slice A n c] w (OfPost w (vb 4294967296 xs)) := by
  obtain ⟨i0, hi, hz0, hz1, hz2⟩ := info_parts info64
  have hcap := h.cap
  have hxl := Lib.hid h.len.out
  go_enter Try.func17, Try.ntmps17
  go_wp2_with fail
  go_loopw [3, 4] (OfRel n xs w) (fun _ i _ => n - (intOf i).toNat)
  case atStart => exact ⟨0, [], by omega, rfl, World.ownsRow_nil _ _ _ _, rfl, Dig.nil, Below.refl _ _, (by show _ = _; simp [S_zero])⟩
  case round =>
    obtain ⟨j, zs, hj, rfl, hown, hzl, hzd, hbw, HS⟩ := hrel
    have hzn : zs.length ≤ 2 * n := by have := hzl.out; omega
    have hsz := hbw.size
    by_cases h1 : j < n
    · obtain ⟨b, off, rfl, hb, hc⟩ := h.rd (by omega)
      have g1 := (hbw.cell (p := ⟨b, off + j, none⟩) (by show b < _; omega)).trans (hc j (by omega))
      have a1 := nth_nn xs j
      have a2 := h.lim.nth j
      have ST := Lib.hid (of_step hzl.out HS.out)
      clear hc
      go_wp2_with fail
      have t1 : (nth xs j).tmod 65536 = nth xs j % 65536 := Int.tmod_eq_emod_of_nonneg a1
      have t2 : (nth xs j).tdiv 65536 = nth xs j / 65536 := Int.tdiv_eq_ediv_of_nonneg a1
      have e1 : IntKind.i64.wrap ((nth xs j).tmod 65536) = nth xs j % 65536 := by rw [t1]; exact IntWalk.i64_in _ (by omega)
      have e2 : IntKind.i64.wrap (IntKind.u32.wrap ((nth xs j).tdiv 65536)) = nth xs j / 65536 := by rw [t2, IntWalk.u32_in _ (by omega)]; exact IntWalk.i64_in _ (by omega)
      clear t1 t2
      go_region_law (refine step_append_lies _ rfl (.tmp 11) (.tmp 24) 34 rfl w.heap.size 3 i0 (.int .i64 0) 1 8 Try.underlying34 hi hz0 hz1 hz2 rfl (by decide) _ _ _ (by rfl) (hown.alloc _).drew ⟨wr.heap.size, 0, none⟩ 2 2 [.int .i64 (nth xs j % 65536), .int .i64 (nth xs j / 65536)] (by rfl) rfl (by exact cells_two wr _ _ _) (fun u hu => by simp at hu; rcases hu with rfl | rfl <;> rfl) (by omega) (by unfold maxLen; omega) (by omega) (by first | (simp; omega) | omega) _ rfl ?_; intro g cap w1 hown' hgrow _ _)
      all_goals
        obtain ⟨ho, hb1⟩ := own_next2 (Int.emod_nonneg _ (by decide)) (Int.ediv_nonneg a1 (by decide)) hbw hown hown' ⟨hgrow.os, hgrow.tape, hgrow.output, hgrow.size, hgrow.block⟩
        clear hown hown' hgrow
        go_wp2_with fail
        go_roundw
        case rel => exact ⟨j + 1, _, by omega, by go_num, ho, (by show _ = _; rw [List.length_append, hzl.out]; simp; omega), of_dig hzd (nth xs j) ⟨a1, a2⟩, hb1, ST.out⟩
        case measure => simp [intOf]; omega
    · obtain rfl : j = n := by omega
      have HV := Lib.hid (show vb 65536 zs = vb 4294967296 xs by unfold vb; rw [hzl.out, hxl.out]; exact HS.out)
      obtain ⟨A', c', rfl, hc1, hc2⟩ := own_shape hown
      have hdr := own_drd hown hzd
      go_wp2_with fail
      refine (trimD_any _ _ _ _ _ _ hdr).mono ?_
      rintro e w' ⟨t, rfl, ht, rfl⟩
      go_wp2_with fail
      go_ret
      exact ⟨gives_own hown hzd ht hbw HV.out, fresh_own hown ht.le⟩

end Go.Proofs.Ytjkogajdpkbjeaa
