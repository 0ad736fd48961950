/-
  impl.digitRow.plus.
-/
import Derived.Test.YtgfopieojpjddaaDoorRegC
namespace Go.Proofs.YtgfopieojpjddaaDoor
open Go.RowKit

theorem pad_one (n : Nat) : pad (n + 1) [0] = pad (n + 1) [] := by simp [pad, List.replicate_succ]
theorem pad_get {n : Nat} {f : Nat → Int} {k m : Nat} (hm : m ≤ n) (h : k < m) : nth (pad n (tab f m)) k = f k := by
  rw [nth_get (by rw [pad_len (by rw [tab_len]; exact hm)]; omega)]
  unfold pad
  rw [List.getElem_append_left (by rw [tab_len]; exact h)]
  have := tab_nth (f := f) (n := m) (i := k) h
  rwa [nth_get (by rw [tab_len]; exact h)] at this
theorem pad_tab_set {n m : Nat} {f : Nat → Int} (h : m < n) (z : Int) (hz : f m = z) : (pad n (tab f m)).set m z = pad n (tab f (m + 1)) := by
  have := pad_set (n := n) (zs := tab f m) (by rw [tab_len]; exact h) z
  rw [tab_len] at this
  rw [this, tab_succ, hz]
theorem pad_tab_all {n : Nat} {f : Nat → Int} : pad n (tab f n) = tab f n := pad_all (tab_len _ _)
theorem pad_tab_len {n m : Nat} {f : Nat → Int} (h : m ≤ n) : (pad n (tab f m)).length = n := pad_len (by rw [tab_len]; exact h)

set_option maxRecDepth 100000 in
set_option maxHeartbeats 2000000 in
theorem plus_any (B : Int) (a b : Option Addr) (c d : Nat) (xs ys : List Int) (w : World) (ha : Rd w a xs) (hb : Rd w b ys) (hB1 : 2 ≤ B) (hB2 : B ≤ 16) (hlen : xs.length ≤ 16) (hl : xs.length = ys.length)
    (hx : ∀ k, k < xs.length → 0 ≤ nth xs k ∧ nth xs k < B) (hy : ∀ k, k < xs.length → 0 ≤ nth ys k ∧ nth ys k < B) :
    Calls Tryd.prog 99 #[.slice a xs.length c, .slice b ys.length d, .int .i64 B] w fun e w' => ∃ A1 C1 A2 C2, e = .returned (.tuple #[.slice A1 xs.length C1, .slice A2 (xs.length + 1) C2]) ∧
      Own 2 w' w.heap.size w'.heap.size (.slice A1 xs.length C1) (tab (sumD B xs ys) xs.length) ∧ Own 2 w' w.heap.size w'.heap.size (.slice A2 (xs.length + 1) C2) (tab (cK B xs ys) (xs.length + 1)) ∧ Below w.heap.size w w' := by
  have HL := Lib.hid hl
  have HX := Lib.hid hx
  have HY := Lib.hid hy
  clear hl hx hy
  go_enter Tryd.func99, Tryd.ntmps99
  go_wp2_with (first | (at_make; refine wpList_makeI rfl (.tmp 13) (.tmp 13) 112 2 rfl Tryd.underlying112 info_int64 xs.length rfl rfl (by omega) ?_; intro w1 hown1 hb1) | (at_make; go_must (refine wpList_makeI rfl (.tmp 17) (.tmp 17) 45 2 rfl Tryd.underlying45 info_int64 (xs.length + 1) (by rw [show ((xs.length + 1 : Nat) : Int) = (xs.length : Int) + 1 by omega]; rfl) (by rw [show ((xs.length + 1 : Nat) : Int) = (xs.length : Int) + 1 by omega]; rfl) (by omega) ?_); intro w2 hown2 hb2))
  have hs1 : w.heap.size < w1.heap.size := hown1.block.2.2
  have hs2 : w1.heap.size < w2.heap.size := hown2.block.2.2
  replace hown1 := hown1.lo hb2 (Nat.le_refl _)
  replace hb1 := hb1.trans (hb2.mono (Nat.le_of_lt hs1))
  replace hown2 := hown2.wide (Nat.le_refl _) (Nat.le_refl _)
  rw [← pad_one] at hown2
  clear hb2
  go_wp2
  go_loopw [10, 21] (fun _ i wr => ∃ k : Nat, k ≤ xs.length ∧ i = .int .i64 k ∧ Own 2 wr w.heap.size w1.heap.size (.slice (some ⟨w.heap.size, 0, none⟩) xs.length xs.length) (pad xs.length (tab (sumD B xs ys) k)) ∧
      Own 2 wr w1.heap.size wr.heap.size (.slice (some ⟨w1.heap.size, 0, none⟩) (xs.length + 1) (xs.length + 1)) (pad (xs.length + 1) (tab (cK B xs ys) (k + 1))) ∧ Below w.heap.size w wr) (fun _ i _ => xs.length - (intOf i).toNat)
  case atStart => exact ⟨0, Nat.zero_le _, rfl, hown1, hown2, hb1⟩
  case round =>
    obtain ⟨k, hk, rfl, own1, own2, hbel⟩ := hrel
    by_cases hlt : k < xs.length
    · obtain ⟨p1, o1, rfl, hc1⟩ := ha.at_ hlt
      have hlt2 : k < ys.length := by rw [← HL.out]; exact hlt
      obtain ⟨p2, o2, rfl, hc2⟩ := hb.at_ hlt2
      have f1 := kept hbel hc1
      have f2 := kept hbel hc2
      have hx := HX.out k hlt
      have hy := HY.out k hlt
      have hcb := cK_bd hB1 HX.out HY.out k hk
      have hq : 0 ≤ (nth xs k + nth ys k + cK B xs ys k) / B ∧ (nth xs k + nth ys k + cK B xs ys k) / B ≤ 1 := cK_bd hB1 HX.out HY.out (k + 1) hlt
      have hb0 : ¬ B = 0 := by omega
      have hrem : (nth xs k + nth ys k + cK B xs ys k).tmod B = (nth xs k + nth ys k + cK B xs ys k) % B := Int.tmod_eq_emod_of_nonneg (by omega)
      have hdiv : (nth xs k + nth ys k + cK B xs ys k).tdiv B = (nth xs k + nth ys k + cK B xs ys k) / B := Int.tdiv_eq_ediv_of_nonneg (by omega)
      have hwr : wrap64 ((nth xs k + nth ys k + cK B xs ys k) / B) = (nth xs k + nth ys k + cK B xs ys k) / B := IntWalk.wrap64_in _ ⟨by omega, by omega⟩
      have hw1 : IntKind.i64.wrap (nth xs k + nth ys k) = nth xs k + nth ys k := IntWalk.i64_in _ (by omega)
      have hw2 : IntKind.i64.wrap (nth xs k + nth ys k + cK B xs ys k) = nth xs k + nth ys k + cK B xs ys k := IntWalk.i64_in _ (by omega)
      have hi3 : (k : Int) < (xs.length : Int) + 1 := by omega
      have g3 := own2.get (j := k) (by rw [pad_tab_len (by omega)]; omega)
      rw [pad_get (by omega) (by omega)] at g3
      have g1 := own1.get (j := k) (by rw [pad_tab_len (by omega)]; omega)
      have t1 := own1.thaw k
      have g2 := own2.get (j := k + 1) (by rw [pad_tab_len (by omega)]; omega)
      have t2 := own2.thaw (k + 1)
      go_wp2
      go_quiet (fail)
      go_wp2
      have q1 := (own1.drewN nq).put k ((nth xs k + nth ys k + cK B xs ys k) % B)
      rw [pad_tab_set hlt ((nth xs k + nth ys k + cK B xs ys k) % B) rfl] at q1
      have q2 := ((own2.drewN nq).setCell (p := ⟨w.heap.size, k, none⟩) (.inl hs1) (.int .i64 ((nth xs k + nth ys k + cK B xs ys k) % B))).put (k + 1) ((nth xs k + nth ys k + cK B xs ys k) / B)
      rw [pad_tab_set (by omega) ((nth xs k + nth ys k + cK B xs ys k) / B) rfl] at q2
      go_roundw
      case rel => exact ⟨k + 1, by omega, by go_num, q1.setCell (p := ⟨w1.heap.size, k + 1, none⟩) (.inr (Nat.le_refl _)) _, q2.wide (Nat.le_refl _) (by simp), ((bel_drewN hbel nq).setCell (p := ⟨w.heap.size, k, none⟩) (by simp) _).setCell (p := ⟨w1.heap.size, k + 1, none⟩) (by simp <;> omega) _⟩
      case measure => (simp [intOf]) <;> omega
    · obtain rfl : k = xs.length := by omega
      rw [pad_tab_all] at own1 own2
      go_wp2
      refine bodyPost_ret (v := .tuple #[.slice (some ⟨w.heap.size, 0, none⟩) xs.length xs.length, .slice (some ⟨w1.heap.size, 0, none⟩) (xs.length + 1) (xs.length + 1)]) (by simp [results, Tryd.results99, go_sem]) rfl ?_
      exact ⟨_, _, _, _, rfl, own1.wide (Nat.le_refl _) (Nat.le_of_lt own2.block.2.2), own2.wide (Nat.le_of_lt hs1) (Nat.le_refl _), hbel⟩
end Go.Proofs.YtgfopieojpjddaaDoor
