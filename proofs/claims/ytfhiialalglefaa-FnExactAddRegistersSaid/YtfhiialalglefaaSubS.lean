/-
  spec.l02Sub.
-/
import Derived.Test.YtfhiialalglefaaCarS
namespace Go.Proofs.Ytfhiialalglefaa
open Go.RowKit

set_option maxRecDepth 100000 in
set_option maxHeartbeats 2000000 in
theorem l02Sub_any (p q : Nat) (B D : Int) (a b : Option Addr) (c d : Nat) (xs ys : List Int) (w : World) (ha : Rd w a xs) (hb : Rd w b ys) (hB1 : 2 ≤ B) (hB2 : B ≤ 16) (hlen : xs.length ≤ 16) (hl : xs.length = ys.length)
    (hx : ∀ k, k < xs.length → 0 ≤ nth xs k ∧ nth xs k < B) (hy : ∀ k, k < xs.length → 0 ≤ nth ys k ∧ nth ys k < B)
    (hp0 : w.cell? ⟨p, 0, none⟩ = some (.int .i64 B)) (hp1 : w.cell? ⟨p, 1, none⟩ = some (.slice a xs.length c)) (_ : w.cell? ⟨q, 0, none⟩ = some (.int .i64 D)) (hq1 : w.cell? ⟨q, 1, none⟩ = some (.slice b ys.length d)) :
    Calls Try.prog 85 #[.pointer (some ⟨p, 0, none⟩), .pointer (some ⟨q, 0, none⟩)] w fun e w' => ∃ A C, e = .returned (.tuple #[.agg #[.int .i64 B, .slice A xs.length C], .int .i64 (bK B xs ys xs.length)]) ∧
      Own 2 w' w.heap.size w'.heap.size (.slice A xs.length C) (tab (subD B xs ys) xs.length) ∧ Below w.heap.size w w' := by
  have HL := Lib.hid hl
  have HX := Lib.hid hx
  have HY := Lib.hid hy
  clear hl hx hy
  have hpl : p < w.heap.size := World.block_lt_of_cell? _ _ hp0
  go_enter Try.func85, Try.ntmps85
  go_wp2
  go_loopw [7, 8, 9] (fun br i _ wr => ∃ (k : Nat) (A : Option Addr) (C : Nat), k ≤ xs.length ∧ br = .int .i64 (bK B xs ys k) ∧ i = .int .i64 k ∧ Bx wr w.heap.size 26 #[.int .i64 0, .slice none 0 0] ∧ Bx wr (w.heap.size + 1) 26 #[.int .i64 B, .slice A k C] ∧
      Own 2 wr (w.heap.size + 1 + 1) wr.heap.size (.slice A k C) (tab (subD B xs ys) k) ∧ Below w.heap.size w wr) (fun _ i _ _ => xs.length - (intOf i).toNat)
  case atStart => exact ⟨0, none, 0, Nat.zero_le _, rfl, rfl, (Bx.new _ _ _).alloc _, by simpa using Bx.new (w.alloc (.cells #[.int .i64 0, .slice none 0 0] 26)) #[.int .i64 B, .slice none 0 0] 26, own_nil _ _ _ _, (by repeat (first | exact Below.refl _ _ | refine Below.setCell ?_ (by simp <;> omega) _ | refine Below.alloc ?_ (by simp <;> omega) _ | refine Below.drew ?_))⟩
  case round =>
    obtain ⟨k, A, C, hk, rfl, rfl, bx0, bx1, hown, hbel⟩ := hrel
    have e1 := kept hbel hp0
    have e2 := kept hbel hp1
    have e3 := kept hbel hq1
    have hsz := bx1.lt
    by_cases hlt : k < xs.length
    · obtain ⟨p1, o1, rfl, hc1⟩ := ha.at_ hlt
      have hlt2 : k < ys.length := by rw [← HL.out]; exact hlt
      obtain ⟨p2, o2, rfl, hc2⟩ := hb.at_ hlt2
      have f1 := kept hbel hc1
      have f2 := kept hbel hc2
      have hx := HX.out k hlt
      have hy := HY.out k hlt
      have hbb := bK_bd B xs ys k
      have hw1 : IntKind.i64.wrap (nth xs k - nth ys k) = nth xs k - nth ys k := IntWalk.i64_in _ (by omega)
      have hw2 : IntKind.i64.wrap (nth xs k - nth ys k - bK B xs ys k) = nth xs k - nth ys k - bK B xs ys k := IntWalk.i64_in _ (by omega)
      by_cases hneg : nth xs k - nth ys k - bK B xs ys k < 0
      · have HB := Lib.hid (show bK B xs ys (k + 1) = 1 from if_pos hneg)
        have HD := Lib.hid (show subD B xs ys k = nth xs k - nth ys k - bK B xs ys k + B from if_pos hneg)
        have b1 := bx1.at_ 1 rfl
        go_wp2
        go_quiet (fail)
        go_wp2_with (at_builtin; go_must (refine wpList_appI rfl (.tmp 50) (.tmp 52) 24 2 rfl Try.underlying24 info_int64 rfl ((hown.drewN nq).alloc _) (tab_len _ _) ⟨wr.heap.size, 0, none⟩ 1 (nth xs k - nth ys k - bK B xs ys k + B) rfl (cell_new1 (wr.drewN nq) _ _) (by omega) (by simp; omega) ?_); intro A' C' w1 hown1 ht1; have hS : Below (w.heap.size + 1 + 1) wr w1 := ((bel_drewN (Below.refl _ _) nq).alloc (by simp <;> omega) _).trans (ht1.below (Nat.le_refl _) (by simp <;> omega)); have dx0 := bx0.lo hS (by omega); have dx1 := bx1.lo hS (by omega); have dc1 := dx1.at_ 1 rfl; have df1 := dx1.thaw 1)
        rw [← HD.out, ← tab_succ] at hown1
        go_roundw
        case rel => exact ⟨k + 1, A', C', by omega, by rw [HB.out], by go_num, by simpa using dx0.far (p := ⟨w.heap.size + 1, 1, none⟩) (by simp) _, by simpa using dx1.set_ 1 (.slice A' (k + 1) C'), (hown1.setCell (p := ⟨w.heap.size + 1, 1, none⟩) (.inl (by simp)) _).wide (Nat.le_refl _) (by simp), (hbel.trans (hS.mono (by omega))).setCell (p := ⟨w.heap.size + 1, 1, none⟩) (by simp) _⟩
        case measure => (simp [intOf]) <;> omega
      · have HB := Lib.hid (show bK B xs ys (k + 1) = 0 from if_neg hneg)
        have HD := Lib.hid (show subD B xs ys k = nth xs k - nth ys k - bK B xs ys k from if_neg hneg)
        have b1 := bx1.at_ 1 rfl
        go_wp2
        go_quiet (fail)
        go_wp2_with (at_builtin; go_must (refine wpList_appI rfl (.tmp 50) (.tmp 52) 24 2 rfl Try.underlying24 info_int64 rfl ((hown.drewN nq).alloc _) (tab_len _ _) ⟨wr.heap.size, 0, none⟩ 1 (nth xs k - nth ys k - bK B xs ys k) rfl (cell_new1 (wr.drewN nq) _ _) (by omega) (by simp; omega) ?_); intro A' C' w1 hown1 ht1; have hS : Below (w.heap.size + 1 + 1) wr w1 := ((bel_drewN (Below.refl _ _) nq).alloc (by simp <;> omega) _).trans (ht1.below (Nat.le_refl _) (by simp <;> omega)); have dx0 := bx0.lo hS (by omega); have dx1 := bx1.lo hS (by omega); have dc1 := dx1.at_ 1 rfl; have df1 := dx1.thaw 1)
        rw [← HD.out, ← tab_succ] at hown1
        go_roundw
        case rel => exact ⟨k + 1, A', C', by omega, by rw [HB.out], by go_num, by simpa using dx0.far (p := ⟨w.heap.size + 1, 1, none⟩) (by simp) _, by simpa using dx1.set_ 1 (.slice A' (k + 1) C'), (hown1.setCell (p := ⟨w.heap.size + 1, 1, none⟩) (.inl (by simp)) _).wide (Nat.le_refl _) (by simp), (hbel.trans (hS.mono (by omega))).setCell (p := ⟨w.heap.size + 1, 1, none⟩) (by simp) _⟩
        case measure => (simp [intOf]) <;> omega
    · obtain rfl : k = xs.length := by omega
      have b0 := bx1.at_ 0 rfl
      have b1 := bx1.at_ 1 rfl
      have t0 := bx0.at_ 0 rfl
      have t1 := bx0.at_ 1 rfl
      have tf0 := bx0.thaw 0
      have tf1 := bx0.thaw 1
      go_wp2
      refine bodyPost_ret (v := .tuple #[.agg #[.int .i64 B, .slice A xs.length C], .int .i64 (bK B xs ys xs.length)]) (by simp [results, Try.results85, go_sem, t0, t1]) rfl
        ⟨A, C, rfl, ((hown.setCell (p := ⟨w.heap.size, 0, none⟩) (.inl (by simp <;> omega)) _).setCell (p := ⟨w.heap.size, 1, none⟩) (.inl (by simp <;> omega)) _).wide (by omega) (by simp), (hbel.setCell (p := ⟨w.heap.size, 0, none⟩) (by simp) _).setCell (p := ⟨w.heap.size, 1, none⟩) (by simp) _⟩
end Go.Proofs.Ytfhiialalglefaa
