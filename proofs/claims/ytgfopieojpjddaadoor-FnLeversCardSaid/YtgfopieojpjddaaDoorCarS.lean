/-
  spec.l02Carries, l02Add, l02Sub.
-/
import Derived.Test.YtgfopieojpjddaaDoorTwoS
import Derived.Test.YtgfopieojpjddaaDoorToI
import Derived.Test.YtgfopieojpjddaaDoorApp
import Derived.Test.YtgfopieojpjddaaDoorOrd
namespace Go.Proofs.YtgfopieojpjddaaDoor
open Go.RowKit

theorem own_lit1 (e : TypeId) (w : World) (z : Int) : Own e (w.alloc (.cells #[.int .i64 z] e)) w.heap.size (w.heap.size + 1) (.slice (some ⟨w.heap.size, 0, none⟩) 1 1) [z] := by
  refine ⟨⟨by simp, .inr ⟨w.heap.size, 1, #[.int .i64 z], rfl, Nat.le_refl _, heap_alloc_new w _, Nat.le_refl _, by unfold maxLen; omega, by simp, by simp⟩⟩, ?_, by simp⟩
  intro k hk
  simp [Value.ownBlock] at hk
  omega

set_option maxRecDepth 100000 in
set_option maxHeartbeats 1000000 in
theorem l02Carries_any (p q : Nat) (B D : Int) (a b : Option Addr) (c d : Nat) (xs ys : List Int) (w : World) (ha : Rd w a xs) (hb : Rd w b ys) (hB1 : 2 ≤ B) (hB2 : B ≤ 16) (hlen : xs.length ≤ 16) (hl : xs.length = ys.length)
    (hx : ∀ k, k < xs.length → 0 ≤ nth xs k ∧ nth xs k < B) (hy : ∀ k, k < xs.length → 0 ≤ nth ys k ∧ nth ys k < B)
    (hp0 : w.cell? ⟨p, 0, none⟩ = some (.int .i64 B)) (hp1 : w.cell? ⟨p, 1, none⟩ = some (.slice a xs.length c)) (_ : w.cell? ⟨q, 0, none⟩ = some (.int .i64 D)) (hq1 : w.cell? ⟨q, 1, none⟩ = some (.slice b ys.length d)) :
    Calls Tryd.prog 139 #[.pointer (some ⟨p, 0, none⟩), .pointer (some ⟨q, 0, none⟩)] w fun e w' => ∃ A C, e = .returned (.slice A (xs.length + 1) C) ∧
      Own 2 w' w.heap.size w'.heap.size (.slice A (xs.length + 1) C) (tab (cK B xs ys) (xs.length + 1)) ∧ Below w.heap.size w w' := by
  have HL := Lib.hid hl
  have HX := Lib.hid hx
  have HY := Lib.hid hy
  clear hl hx hy
  go_enter Tryd.func139, Tryd.ntmps139
  go_wp2
  go_loopw [5, 6, 7] (fun s cr i wr => ∃ (k : Nat) (A : Option Addr) (C : Nat), k ≤ xs.length ∧ s = .slice A (k + 1) C ∧ cr = .int .i64 (cK B xs ys k) ∧ i = .int .i64 k ∧
      Own 2 wr w.heap.size wr.heap.size (.slice A (k + 1) C) (tab (cK B xs ys) (k + 1)) ∧ Below w.heap.size w wr) (fun _ _ i _ => xs.length - (intOf i).toNat)
  case atStart => exact ⟨0, _, 1, Nat.zero_le _, rfl, rfl, rfl, by simpa [tab, cK] using own_lit1 2 w 0, (Below.refl _ _).alloc (Nat.le_refl _) _⟩
  case round =>
    obtain ⟨k, A, C, hk, rfl, rfl, rfl, hown, hbel⟩ := hrel
    have hp0 := kept hbel hp0
    have hp1 := kept hbel hp1
    have hq1 := kept hbel hq1
    by_cases hlt : k < xs.length
    · obtain ⟨p1, o1, rfl, hc1⟩ := ha.at_ hlt
      have hlt2 : k < ys.length := by rw [← HL.out]; exact hlt
      obtain ⟨p2, o2, rfl, hc2⟩ := hb.at_ hlt2
      have hc1 := kept hbel hc1
      have hc2 := kept hbel hc2
      have hx := HX.out k hlt
      have hy := HY.out k hlt
      have hcb := cK_bd hB1 HX.out HY.out k hk
      have hb0 : ¬ B = 0 := by omega
      have hdiv : (nth xs k + nth ys k + cK B xs ys k).tdiv B = (nth xs k + nth ys k + cK B xs ys k) / B := Int.tdiv_eq_ediv_of_nonneg (by omega)
      have hq : 0 ≤ (nth xs k + nth ys k + cK B xs ys k) / B ∧ (nth xs k + nth ys k + cK B xs ys k) / B ≤ 1 := cK_bd hB1 HX.out HY.out (k + 1) hlt
      have hwr : wrap64 ((nth xs k + nth ys k + cK B xs ys k) / B) = (nth xs k + nth ys k + cK B xs ys k) / B := IntWalk.wrap64_in _ ⟨by omega, by omega⟩
      go_wp2
      go_quiet (fail)
      have HC := Lib.hid (show cK B xs ys (k + 1) = (nth xs k + nth ys k + cK B xs ys k) / B from rfl)
      have HT := Lib.hid (tab_succ (cK B xs ys) (k + 1))
      go_wp2_with (at_builtin; go_must (refine wpList_appI rfl (.tmp 40) (.tmp 42) 45 2 rfl Tryd.underlying45 info_int64 rfl ((hown.drewN nq).alloc _) (tab_len _ _) ⟨wr.heap.size, 0, none⟩ 1 ((nth xs k + nth ys k + cK B xs ys k) / B) rfl (cell_new1 (wr.drewN nq) _ _) (by omega) (by simp; exact Nat.le_succ_of_le hbel.size) ?_); intro A' C' w1 hown1 ht1)
      rw [← HC.out, ← HT.out] at hown1
      go_roundw
      case rel => exact ⟨k + 1, A', C', by omega, rfl, by rw [HC.out], by go_num, hown1, ((bel_drewN hbel nq).alloc (by simpa using hbel.size) _).trans (ht1.below (Nat.le_refl _) (by simp; have := hbel.size; omega))⟩
      case measure => (simp [intOf]) <;> omega
    · obtain rfl : k = xs.length := by omega
      go_wp2
      go_ret
      exact ⟨A, C, rfl, hown, hbel⟩
end Go.Proofs.YtgfopieojpjddaaDoor
