/-
  spec.l02Add.
-/
import Derived.Test.YtgfopieojpjddaaDoorCarS
namespace Go.Proofs.YtgfopieojpjddaaDoor
open Go.RowKit

set_option maxRecDepth 100000 in
set_option maxHeartbeats 2000000 in
theorem l02Add_any (p q : Nat) (B D : Int) (a b : Option Addr) (c d : Nat) (xs ys : List Int) (w : World) (ha : Rd w a xs) (hb : Rd w b ys) (hB1 : 2 ≤ B) (hB2 : B ≤ 16) (hlen : xs.length ≤ 16) (hl : xs.length = ys.length)
    (hx : ∀ k, k < xs.length → 0 ≤ nth xs k ∧ nth xs k < B) (hy : ∀ k, k < xs.length → 0 ≤ nth ys k ∧ nth ys k < B)
    (hp0 : w.cell? ⟨p, 0, none⟩ = some (.int .i64 B)) (hp1 : w.cell? ⟨p, 1, none⟩ = some (.slice a xs.length c)) (hq0 : w.cell? ⟨q, 0, none⟩ = some (.int .i64 D)) (hq1 : w.cell? ⟨q, 1, none⟩ = some (.slice b ys.length d)) :
    Calls Tryd.prog 106 #[.pointer (some ⟨p, 0, none⟩), .pointer (some ⟨q, 0, none⟩)] w fun e w' => ∃ A C, e = .returned (.tuple #[.agg #[.int .i64 B, .slice A xs.length C], .int .i64 (cK B xs ys xs.length)]) ∧
      Own 2 w' w.heap.size w'.heap.size (.slice A xs.length C) (tab (sumD B xs ys) xs.length) ∧ Below w.heap.size w w' := by
  have HL := Lib.hid hl
  have HX := Lib.hid hx
  have HY := Lib.hid hy
  clear hl hx hy
  have hb1 : Below w.heap.size w (w.alloc (.cells #[.int .i64 0, .slice none 0 0] 47)) := (Below.refl _ _).alloc (Nat.le_refl _) _
  go_enter Tryd.func106, Tryd.ntmps106
  go_wp2_with fail
  refine (l02Carries_any p q B D a b c d xs ys _ (ha.below hb1) (hb.below hb1) hB1 hB2 hlen HL.out HX.out HY.out (kept hb1 hp0) (kept hb1 hp1) (kept hb1 hq0) (kept hb1 hq1)).mono ?_
  rintro e v ⟨A0, C0, rfl, ho0, hb2⟩
  have hbv := hb1.trans (hb2.mono hb1.size)
  have r0 := (Bx.new w #[.int .i64 0, .slice none 0 0] 47).below hb2
  replace ho0 := ho0.wide (lo' := w.heap.size + 1) (hi' := v.heap.size) (by simp) (Nat.le_refl _)
  have hvs : w.heap.size + 1 ≤ v.heap.size := by have := hb2.size; simpa using this
  have hp0v := kept hbv hp0
  clear hb1 hb2
  go_wp2
  go_loopw [8] (fun i wr => ∃ (k : Nat) (A : Option Addr) (C : Nat), k ≤ xs.length ∧ i = .int .i64 k ∧ Bx wr v.heap.size 47 #[.int .i64 B, .slice A k C] ∧
      Own 2 wr (v.heap.size + 1) wr.heap.size (.slice A k C) (tab (sumD B xs ys) k) ∧ Below v.heap.size v wr) (fun i _ => xs.length - (intOf i).toNat)
  case atStart => exact ⟨0, none, 0, Nat.zero_le _, rfl, Bx.new _ _ _, own_nil _ _ _ _, (Below.refl _ _).alloc (Nat.le_refl _) _⟩
  case round =>
    obtain ⟨k, A, C, hk, rfl, bx, hown, hbel⟩ := hrel
    have hbw := hbv.trans (hbel.mono hbv.size)
    have e1 := kept hbw hp0
    have e2 := kept hbw hp1
    have e3 := kept hbw hq1
    have hsz := bx.lt
    by_cases hlt : k < xs.length
    · obtain ⟨p1, o1, rfl, hc1⟩ := ha.at_ hlt
      have hlt2 : k < ys.length := by rw [← HL.out]; exact hlt
      obtain ⟨p2, o2, rfl, hc2⟩ := hb.at_ hlt2
      have hlt3 : k < xs.length + 1 := by omega
      obtain ⟨p3, o3, rfl, hc3⟩ := ho0.rd.at_ (k := k) (by rw [tab_len]; omega)
      rw [tab_nth (by omega)] at hc3
      have hx := HX.out k hlt
      have hy := HY.out k hlt
      have hcb := cK_bd hB1 HX.out HY.out k hk
      have hb0 : ¬ B = 0 := by omega
      have hrem : (nth xs k + nth ys k + cK B xs ys k).tmod B = (nth xs k + nth ys k + cK B xs ys k) % B := Int.tmod_eq_emod_of_nonneg (by omega)
      have hi3 : (k : Int) < (xs.length : Int) + 1 := by omega
      have hw1 : IntKind.i64.wrap (nth xs k + nth ys k) = nth xs k + nth ys k := IntWalk.i64_in _ (by omega)
      have hw2 : IntKind.i64.wrap (nth xs k + nth ys k + cK B xs ys k) = nth xs k + nth ys k + cK B xs ys k := IntWalk.i64_in _ (by omega)
      have hwL : w.heap.size ≤ v.heap.size + 1 := by omega
      have g0 := arg_lo hp0 hbw hwL
      have g1 := arg_lo hp1 hbw hwL
      have g2 := arg_lo hq1 hbw hwL
      have g3 := arg_lo hc1 hbw hwL
      have g4 := arg_lo hc2 hbw hwL
      have g5 := arg_lo hc3 hbel (Nat.le_succ _)
      have g6 := kept_lo (L := v.heap.size + 1) (bx.at_ 1 rfl) (by omega)
      go_wp2
      refine wp_region_marked (fun w' => Below (v.heap.size + 1) wr w') 30 (by kernel_rfl) ?_
      have hS : Below (v.heap.size + 1) wr wr.drew := (Below.refl _ _).drew
      refine wpAnyM_take (i := 0) (v := ?_) rfl (by kernel_rfl) (by kernel_rfl) (by kernel_rfl) (by kernel_rfl) (by kernel_rfl) (fun _ _ _ h => h) hS (.inl ⟨by rfl, ?_⟩) ?_
      rotate_left 1
      · intro w' hS'; go_simp; try with_reducible rfl
      simp only [Act.put, List.setIfInBounds_toArray]
      refine wpAnyM_take (i := 1) (v := ?_) rfl (by kernel_rfl) (by kernel_rfl) (by kernel_rfl) (by kernel_rfl) (by kernel_rfl) (fun _ _ _ h => h) hS (.inl ⟨by rfl, ?_⟩) ?_
      rotate_left 1
      · intro w' hS'; go_simp; try with_reducible rfl
      simp only [Act.put]
      refine wpAnyM_take (i := 2) (v := ?_) rfl (by kernel_rfl) (by kernel_rfl) (by kernel_rfl) (by kernel_rfl) (by kernel_rfl) (fun _ _ _ h => h) hS (.inl ⟨by rfl, ?_⟩) ?_
      rotate_left 1
      · intro w' hS'; go_simp; try with_reducible rfl
      simp only [Act.put]
      refine wpAnyM_take (i := 3) (v := ?_) rfl (by kernel_rfl) (by kernel_rfl) (by kernel_rfl) (by kernel_rfl) (by kernel_rfl) (fun _ _ _ h => h) hS (.inl ⟨by rfl, ?_⟩) ?_
      rotate_left 1
      · intro w' hS'; go_simp; try with_reducible rfl
      simp only [Act.put]
      refine wpAnyM_take (i := 4) (v := ?_) rfl (by kernel_rfl) (by kernel_rfl) (by kernel_rfl) (by kernel_rfl) (by kernel_rfl) (fun _ _ _ h => h) hS (.inl ⟨by rfl, ?_⟩) ?_
      rotate_left 1
      · intro w' hS'; go_simp; try with_reducible rfl
      simp only [Act.put]
      refine wpAnyM_take (i := 5) (v := ?_) rfl (by kernel_rfl) (by kernel_rfl) (by kernel_rfl) (by kernel_rfl) (by kernel_rfl) (fun _ _ _ h => h) hS (.inl ⟨by rfl, ?_⟩) ?_
      rotate_left 1
      · intro w' hS'; go_simp; try with_reducible rfl
      simp only [Act.put]
      refine wpAnyM_take (i := 6) (v := ?_) rfl (by kernel_rfl) (by kernel_rfl) (by kernel_rfl) (by kernel_rfl) (by kernel_rfl) (fun _ _ _ h => h) hS (.inl ⟨by rfl, ?_⟩) ?_
      rotate_left 1
      · intro w' hS'; go_simp; try with_reducible rfl
      simp only [Act.put]
      refine wpAnyM_take (i := 7) (v := ?_) rfl (by kernel_rfl) (by kernel_rfl) (by kernel_rfl) (by kernel_rfl) (by kernel_rfl) (fun _ _ _ h => h) hS (.inl ⟨by rfl, ?_⟩) ?_
      rotate_left 1
      · intro w' hS'; go_simp; try with_reducible rfl
      simp only [Act.put]
      refine wpAnyM_take (i := 8) (v := ?_) rfl (by kernel_rfl) (by kernel_rfl) (by kernel_rfl) (by kernel_rfl) (by kernel_rfl) (fun _ _ _ h => h) hS (.inl ⟨by rfl, ?_⟩) ?_
      rotate_left 1
      · intro w' hS'; go_simp; try with_reducible rfl
      simp only [Act.put]
      refine wpAnyM_take (i := 9) (v := ?_) rfl (by kernel_rfl) (by kernel_rfl) (by kernel_rfl) (by kernel_rfl) (by kernel_rfl) (fun _ _ _ h => h) hS (.inl ⟨by rfl, ?_⟩) ?_
      rotate_left 1
      · intro w' hS'; go_simp; try with_reducible rfl
      simp only [Act.put]
      refine wpAnyM_take (i := 10) (v := ?_) rfl (by kernel_rfl) (by kernel_rfl) (by kernel_rfl) (by kernel_rfl) (by kernel_rfl) (fun _ _ _ h => h) hS (.inl ⟨by rfl, ?_⟩) ?_
      rotate_left 1
      · intro w' hS'; go_simp; try with_reducible rfl
      simp only [Act.put]
      refine wpAnyM_take (i := 11) (v := ?_) rfl (by kernel_rfl) (by kernel_rfl) (by kernel_rfl) (by kernel_rfl) (by kernel_rfl) (fun _ _ _ h => h) hS (.inl ⟨by rfl, ?_⟩) ?_
      rotate_left 1
      · intro w' hS'; go_simp; try with_reducible rfl
      simp only [Act.put]
      refine wpAnyM_take (i := 12) (v := ?_) rfl (by kernel_rfl) (by kernel_rfl) (by kernel_rfl) (by kernel_rfl) (by kernel_rfl) (fun _ _ _ h => h) hS (.inl ⟨by rfl, ?_⟩) ?_
      rotate_left 1
      · intro w' hS'; go_simp; try with_reducible rfl
      simp only [Act.put]
      refine wpAnyM_take (i := 13) (v := ?_) rfl (by kernel_rfl) (by kernel_rfl) (by kernel_rfl) (by kernel_rfl) (by kernel_rfl) (fun _ _ _ h => h) hS (.inl ⟨by rfl, ?_⟩) ?_
      rotate_left 1
      · intro w' hS'; go_simp; try with_reducible rfl
      simp only [Act.put]
      refine wpAnyM_take (i := 14) (v := ?_) rfl (by kernel_rfl) (by kernel_rfl) (by kernel_rfl) (by kernel_rfl) (by kernel_rfl) (fun _ _ _ h => h) hS (.inl ⟨by rfl, ?_⟩) ?_
      rotate_left 1
      · intro w' hS'; go_simp; try with_reducible rfl
      simp only [Act.put]
      refine wpAnyM_take (i := 15) (v := ?_) rfl (by kernel_rfl) (by kernel_rfl) (by kernel_rfl) (by kernel_rfl) (by kernel_rfl) (fun _ _ _ h => h) hS (.inl ⟨by rfl, ?_⟩) ?_
      rotate_left 1
      · intro w' hS'; go_simp; try with_reducible rfl
      simp only [Act.put]
      refine wpAnyM_take (i := 16) (v := ?_) rfl (by kernel_rfl) (by kernel_rfl) (by kernel_rfl) (by kernel_rfl) (by kernel_rfl) (fun _ _ _ h => h) hS (.inl ⟨by rfl, ?_⟩) ?_
      rotate_left 1
      · intro w' hS'; go_simp; try with_reducible rfl
      simp only [Act.put]
      refine wpAnyM_take (i := 17) (v := ?_) rfl (by kernel_rfl) (by kernel_rfl) (by kernel_rfl) (by kernel_rfl) (by kernel_rfl) (fun _ _ _ h => h) hS (.inl ⟨by rfl, ?_⟩) ?_
      rotate_left 1
      · intro w' hS'; go_simp; try with_reducible rfl
      simp only [Act.put]
      refine wpAnyM_take (i := 18) (v := ?_) rfl (by kernel_rfl) (by kernel_rfl) (by kernel_rfl) (by kernel_rfl) (by kernel_rfl) (fun _ _ _ h => h) hS (.inl ⟨by rfl, ?_⟩) ?_
      rotate_left 1
      · intro w' hS'; go_simp; try with_reducible rfl
      simp only [Act.put]
      refine wpAnyM_take (i := 19) (v := ?_) rfl (by kernel_rfl) (by kernel_rfl) (by kernel_rfl) (by kernel_rfl) (by kernel_rfl) (fun _ _ _ h => h) hS (.inl ⟨by rfl, ?_⟩) ?_
      rotate_left 1
      · intro w' hS'; go_simp; try with_reducible rfl
      simp only [Act.put]
      refine wpAnyM_take (i := 20) (v := ?_) rfl (by kernel_rfl) (by kernel_rfl) (by kernel_rfl) (by kernel_rfl) (by kernel_rfl) (fun _ _ _ h => h) hS (.inl ⟨by rfl, ?_⟩) ?_
      rotate_left 1
      · intro w' hS'; go_simp; try with_reducible rfl
      simp only [Act.put]
      refine wpAnyM_take (i := 21) (v := ?_) rfl (by kernel_rfl) (by kernel_rfl) (by kernel_rfl) (by kernel_rfl) (by kernel_rfl) (fun _ _ _ h => h) hS (.inl ⟨by rfl, ?_⟩) ?_
      rotate_left 1
      · intro w' hS'; go_simp; try with_reducible rfl
      simp only [Act.put]
      refine wpAnyM_take (i := 22) (v := ?_) rfl (by kernel_rfl) (by kernel_rfl) (by kernel_rfl) (by kernel_rfl) (by kernel_rfl) (fun _ _ _ h => h) hS (.inl ⟨by rfl, ?_⟩) ?_
      rotate_left 1
      · intro w' hS'; go_simp; try with_reducible rfl
      simp only [Act.put]
      refine wpAnyM_take (i := 23) (v := ?_) rfl (by kernel_rfl) (by kernel_rfl) (by kernel_rfl) (by kernel_rfl) (by kernel_rfl) (fun _ _ _ h => h) hS (.inl ⟨by rfl, ?_⟩) ?_
      rotate_left 1
      · intro w' hS'; go_simp; try with_reducible rfl
      simp only [Act.put]
      refine wpAnyM_take (i := 24) (v := ?_) rfl (by kernel_rfl) (by kernel_rfl) (by kernel_rfl) (by kernel_rfl) (by kernel_rfl) (fun _ _ _ h => h) hS (.inl ⟨by rfl, ?_⟩) ?_
      rotate_left 1
      · intro w' hS'; go_simp; try with_reducible rfl
      simp only [Act.put]
      refine wpAnyM_take (i := 25) (v := ?_) rfl (by kernel_rfl) (by kernel_rfl) (by kernel_rfl) (by kernel_rfl) (by kernel_rfl) (fun _ _ _ h => h) hS (.inl ⟨by rfl, ?_⟩) ?_
      rotate_left 1
      · intro w' hS'; go_simp; try with_reducible rfl
      simp only [Act.put]
      refine wpAnyM_take (i := 26) (v := ?_) rfl (by kernel_rfl) (by kernel_rfl) (by kernel_rfl) (by kernel_rfl) (by kernel_rfl) (fun _ _ _ h => h) hS (.inl ⟨by rfl, ?_⟩) ?_
      rotate_left 1
      · intro w' hS'; go_simp; try with_reducible rfl
      simp only [Act.put]
      refine wpAnyM_one (i := 27) (by kernel_rfl) rfl (by rfl) (fun K hK => ?_)
      go_simp
      replace hS := hS.alloc (by simp <;> omega) (.cells #[.int .i64 ((nth xs k + nth ys k + cK B xs ys k) % B)] 2)
      refine hK _ _ (.inr hS) ?_
      clear hK K
      try simp only [Act.put, List.setIfInBounds_toArray]
      refine wpAnyM_one (i := 28) (by kernel_rfl) rfl (by rfl) (fun K hK => ?_)
      refine wp_appI (.tmp 27) (.tmp 53) 45 2 rfl Tryd.underlying45 info_int64 rfl ((hown.drew).alloc _) (tab_len _ _) ⟨wr.heap.size, 0, none⟩ 1 ((nth xs k + nth ys k + cK B xs ys k) % B) rfl (by go_simp) (by omega) (by simp <;> omega) ?_
      intro A' C' w1 hown1 ht1
      replace hS : Below (v.heap.size + 1) wr w1 := hS.trans (ht1.below (Nat.le_refl _) (by simp <;> omega))
      have dx1 := bx.lo hS (by omega)
      have dc1 := dx1.at_ 1 rfl
      have df1 := dx1.thaw 1
      refine hK _ _ (.inr hS) ?_
      try simp only [Act.put, List.setIfInBounds_toArray]
      clear hK K
      refine wpAnyM_take (i := 29) (v := ?_) rfl (by kernel_rfl) (by kernel_rfl) (by kernel_rfl) (by kernel_rfl) (by kernel_rfl) (fun _ _ _ h => h) hS (.inl ⟨by rfl, ?_⟩) ?_
      rotate_left 1
      · intro w' hS'; go_simp; try with_reducible rfl
      simp only [Act.put]
      refine wpAnyM_one (i := 30) (by kernel_rfl) rfl (by rfl) (fun K hK => ?_)
      go_simp
      refine hK _ _ (.inl rfl) ?_
      clear hK K
      refine wpAnyM_done (by kernel_rfl) ?_ _
      rw [← show sumD B xs ys k = (nth xs k + nth ys k + cK B xs ys k) % B from rfl, ← tab_succ] at hown1
      go_wp2
      go_roundw
      case rel => exact ⟨k + 1, A', C', by omega, by go_num, by simpa using dx1.set_ 1 (.slice A' (k + 1) C'), (hown1.setCell (p := ⟨v.heap.size, 1, none⟩) (.inl (by simp)) _).wide (Nat.le_refl _) (by simp), (hbel.trans (hS.mono (Nat.le_succ _))).setCell (p := ⟨v.heap.size, 1, none⟩) (by simp) _⟩
      case measure => (simp [intOf]) <;> omega
    · obtain rfl : k = xs.length := by omega
      have hp1w := kept hbw hp1
      have b0 := bx.at_ 0 rfl
      have b1 := bx.at_ 1 rfl
      obtain ⟨p3, o3, rfl, hc3⟩ := ho0.rd.at_ (k := xs.length) (by rw [tab_len]; omega)
      rw [tab_nth (by omega)] at hc3
      replace hc3 := kept hbel hc3
      have r1 := r0.below hbel
      have t0 := r1.at_ 0 rfl
      have t1 := r1.at_ 1 rfl
      have tf0 := r1.thaw 0
      have tf1 := r1.thaw 1
      have hi3 : (xs.length : Int) < (xs.length : Int) + 1 := by omega
      have hne : v.heap.size ≠ w.heap.size := by omega
      have hp3 : p3 ≠ w.heap.size := by
        have hrow := ho0.row.lt p3 rfl
        omega
      have hpp : p ≠ w.heap.size := by have := World.block_lt_of_cell? _ _ hp1; simp at this; omega
      go_wp2
      refine wp_region_marked (fun w' => w'.cell? ⟨v.heap.size, 0, none⟩ = some (.int .i64 B) ∧ w'.cell? ⟨v.heap.size, 1, none⟩ = some (.slice A xs.length C) ∧ w'.cell? ⟨p, 1, none⟩ = some (.slice a xs.length c) ∧ w'.cell? ⟨p3, o3 + xs.length, none⟩ = some (.int .i64 (cK B xs ys xs.length))) 10 (by kernel_rfl) ?_
      have hS := And.intro b0 (And.intro b1 (And.intro hp1w hc3))
      refine wpAnyM_take (i := 0) (v := ?_) rfl (by kernel_rfl) (by kernel_rfl) (by kernel_rfl) (by kernel_rfl) (by kernel_rfl) (fun _ _ _ h => h) hS (.inl ⟨by rfl, ?_⟩) ?_
      rotate_left 1
      · intro w' hS'; go_simp; try with_reducible rfl
      simp only [Act.put, List.setIfInBounds_toArray]
      refine wpAnyM_take (i := 1) (v := ?_) rfl (by kernel_rfl) (by kernel_rfl) (by kernel_rfl) (by kernel_rfl) (by kernel_rfl) (fun _ _ _ h => h) hS (.inl ⟨by rfl, ?_⟩) ?_
      rotate_left 1
      · intro w' hS'; go_simp; try with_reducible rfl
      simp only [Act.put]
      refine wpAnyM_take (i := 2) (v := ?_) rfl (by kernel_rfl) (by kernel_rfl) (by kernel_rfl) (by kernel_rfl) (by kernel_rfl) (fun _ _ _ h => h) hS (.inl ⟨by rfl, ?_⟩) ?_
      rotate_left 1
      · intro w' hS'; go_simp; try with_reducible rfl
      simp only [Act.put]
      refine wpAnyM_take (i := 3) (v := ?_) rfl (by kernel_rfl) (by kernel_rfl) (by kernel_rfl) (by kernel_rfl) (by kernel_rfl) (fun _ _ _ h => h) hS (.inl ⟨by rfl, ?_⟩) ?_
      rotate_left 1
      · intro w' hS'; go_simp; try with_reducible rfl
      simp only [Act.put]
      refine wpAnyM_take (i := 4) (v := ?_) rfl (by kernel_rfl) (by kernel_rfl) (by kernel_rfl) (by kernel_rfl) (by kernel_rfl) (fun _ _ _ h => h) hS (.inl ⟨by rfl, ?_⟩) ?_
      rotate_left 1
      · intro w' hS'; go_simp; try with_reducible rfl
      simp only [Act.put]
      refine wpAnyM_take (i := 5) (v := ?_) rfl (by kernel_rfl) (by kernel_rfl) (by kernel_rfl) (by kernel_rfl) (by kernel_rfl) (fun _ _ _ h => h) hS (.inl ⟨by rfl, ?_⟩) ?_
      rotate_left 1
      · intro w' hS'; go_simp; try with_reducible rfl
      simp only [Act.put]
      refine wpAnyM_take (i := 6) (v := ?_) rfl (by kernel_rfl) (by kernel_rfl) (by kernel_rfl) (by kernel_rfl) (by kernel_rfl) (fun _ _ _ h => h) hS (.inl ⟨by rfl, ?_⟩) ?_
      rotate_left 1
      · intro w' hS'; go_simp; try with_reducible rfl
      simp only [Act.put]
      refine wpAnyM_take (i := 7) (v := ?_) rfl (by kernel_rfl) (by kernel_rfl) (by kernel_rfl) (by kernel_rfl) (by kernel_rfl) (fun _ _ _ h => h) hS (.inl ⟨by rfl, ?_⟩) ?_
      rotate_left 1
      · intro w' hS'; go_simp; try with_reducible rfl
      simp only [Act.put]
      refine wpAnyM_take (i := 8) (v := ?_) rfl (by kernel_rfl) (by kernel_rfl) (by kernel_rfl) (by kernel_rfl) (by kernel_rfl) (fun _ _ _ h => h) hS (.inl ⟨by rfl, ?_⟩) ?_
      rotate_left 1
      · intro w' hS'; go_simp; try with_reducible rfl
      simp only [Act.put]
      refine wpAnyM_one (i := 9) (by kernel_rfl) rfl (by rfl) (fun K hK => ?_)
      go_simp
      refine hK _ _ (.inr ⟨cell_far (cell_far b0 hne _) hne _, cell_far (cell_far b1 hne _) hne _, cell_far (cell_far hp1w hpp _) hpp _, cell_far (cell_far hc3 hp3 _) hp3 _⟩) ?_
      try simp only [Act.put, List.setIfInBounds_toArray]
      clear hK K
      refine wpAnyM_one (i := 10) (by kernel_rfl) rfl (by rfl) (fun K hK => ?_)
      go_simp
      refine hK _ _ (.inl rfl) ?_
      clear hK K
      refine wpAnyM_done (by kernel_rfl) ?_ _
      go_wp2
      refine bodyPost_ret (v := .tuple #[.agg #[.int .i64 B, .slice A xs.length C], .int .i64 (cK B xs ys xs.length)]) (by simp [results, Tryd.results106, go_sem, t0, t1]) rfl
        ⟨A, C, rfl, ((hown.drew.setCell (p := ⟨w.heap.size, 0, none⟩) (.inl (by simp <;> omega)) _).setCell (p := ⟨w.heap.size, 1, none⟩) (.inl (by simp <;> omega)) _).wide (by omega) (by simp), ?_⟩
      exact (hbw.drew.setCell (p := ⟨w.heap.size, 0, none⟩) (by simp) _).setCell (p := ⟨w.heap.size, 1, none⟩) (by simp) _
end Go.Proofs.YtgfopieojpjddaaDoor
