/-
  impl.AddRegisters.
-/
import Derived.Test.YtfhiialalglefaaArI
namespace Go.Proofs.Ytfhiialalglefaa
open Go.RowKit

set_option maxRecDepth 100000 in
set_option maxHeartbeats 2000000 in
theorem implAddRegisters (xB : Int) (xA : Option Addr) (xC : Nat) (xZ : List Int) (yB : Int) (yA : Option Addr) (yC : Nat) (yZ : List Int) (w : World) (ha : Rd w xA xZ) (zx : All64 xZ) (bx : I64 xB) (hb : Rd w yA yZ) (zy : All64 yZ) (by_ : I64 yB) :
    Calls Try.prog 42 #[.agg #[.int .i64 xB, .slice xA xZ.length xC], .agg #[.int .i64 yB, .slice yA yZ.length yC]] w (addRPost xB xZ yB yZ w) := by
  go_enter Try.func42, Try.ntmps42
  go_wp2_with fail
  obtain ⟨u, hu⟩ : ∃ u, u = ((w.alloc (.cells #[.int .i64 xB, .slice xA xZ.length xC] 26)).alloc (.cells #[.int .i64 yB, .slice yA yZ.length yC] 26)).alloc (.cells #[.int .i64 0, .slice none 0 0] 26) := ⟨_, rfl⟩
  rw [← hu]
  have hbel : Below w.heap.size w u := by rw [hu]; exact (by repeat (first | exact Below.refl _ _ | refine Below.setCell ?_ (by simp <;> omega) _ | refine Below.alloc ?_ (by simp <;> omega) _ | refine Below.drew ?_))
  have ax : Bx u w.heap.size 26 #[.int .i64 xB, .slice xA xZ.length xC] := by rw [hu]; exact ((Bx.new _ _ _).alloc _).alloc _
  have ay : Bx u (w.heap.size + 1) 26 #[.int .i64 yB, .slice yA yZ.length yC] := by rw [hu]; exact Bx.alloc (by simpa using Bx.new (w.alloc (.cells #[.int .i64 xB, .slice xA xZ.length xC] 26)) #[.int .i64 yB, .slice yA yZ.length yC] 26) _
  have ar : Bx u (w.heap.size + 1 + 1) 26 #[.int .i64 0, .slice none 0 0] := by rw [hu]; simpa using Bx.new ((w.alloc (.cells #[.int .i64 xB, .slice xA xZ.length xC] 26)).alloc (.cells #[.int .i64 yB, .slice yA yZ.length yC] 26)) #[.int .i64 0, .slice none 0 0] 26
  replace ha := ha.below hbel
  replace hb := hb.below hbel
  clear hu
  refine (pairCode_any xB xA xC xZ yB yA yC yZ u ha zx bx hb zy by_).mono ?_
  rintro e v ⟨rfl, hb1⟩
  replace ha := ha.below hb1
  replace hb := hb.below hb1
  replace ax := ax.below hb1
  replace ay := ay.below hb1
  replace ar := ar.below hb1
  replace hbel := hbel.trans (hb1.mono hbel.size)
  clear hb1 u
  have c0 := ax.at_ 0 rfl
  have c1 := ax.at_ 1 rfl
  have d0 := ay.at_ 0 rfl
  have d1 := ay.at_ 1 rfl
  by_cases h : twoE xB xZ yB yZ = 0
  · have HX := Lib.hid (okB_spec (twoE_zero h).1)
    have HW := Lib.hid (twoE_zero h)
    have H := Lib.hid h
    have ht : (twoE xB xZ yB yZ != 0) = false := by simp [h]
    have HY := Lib.hid (show ∀ k, k < xZ.length → 0 ≤ nth yZ k ∧ nth yZ k < xB by have h1 := HW.out.2.2; intro k hk; have h2 := digit_of_ok HW.out.2.1 k (by omega); omega)
    clear h
    go_wp2_with fail
    refine (plus_any xB xA yA xC yC xZ yZ v ha hb HX.out.1 HX.out.2.1 HX.out.2.2.2.1 HW.out.2.2.2 (digit_of_ok HW.out.1) HY.out).mono ?_
    rintro e w2 ⟨A1, C1, A2, C2, rfl, own1, own2, hb2⟩
    have hA := all64_tab (HX.out.2.1) (sumD_bd HX.out.1 (digit_of_ok HW.out.1) HY.out)
    have c0 := kept hb2 c0
    have hvs := ar.lt
    replace ar := ar.below hb2
    replace hbel := hbel.trans (hb2.mono hbel.size)
    clear hb2
    cases hk : okB xB (tab (sumD xB xZ yZ) xZ.length) with
    | true =>
      have HR := Lib.hid (show addR xB xZ yB yZ = (xB, tab (sumD xB xZ yZ) xZ.length, cK xB xZ yZ xZ.length, 0) by simp [addR, H.out, hk])
      have hfin := finish_ok xB A1 C1 (tab (sumD xB xZ yZ) xZ.length) w2 own1.rd hA bx hk
      rw [tab_len] at hfin
      go_wp2_with fail
      refine hfin.mono ?_
      rintro e w3 ⟨rfl, hb2⟩
      replace ar := ar.below hb2
      replace own1 := own1.below hb2
      replace own2 := own2.below hb2
      replace hbel := hbel.trans (hb2.mono hbel.size)
      have hs2 := hb2.size
      have hws := ar.lt
      clear hb2 hk hfin
      go_wp2
      obtain ⟨w4, hw4⟩ : ∃ w4, w4 = w3.alloc (.cells #[.int .i64 xB, .slice A1 xZ.length C1] 26) := ⟨_, rfl⟩
      have hb4 : Below w3.heap.size w3 w4 := by rw [hw4]; exact (Below.refl _ _).alloc (Nat.le_refl _) _
      have at_ : Bx w4 w3.heap.size 26 #[.int .i64 xB, .slice A1 xZ.length C1] := by rw [hw4]; exact Bx.new _ _ _
      rw [← hw4]
      replace ar := ar.below hb4
      replace own1 := own1.below hb4
      replace own2 := own2.below hb4
      replace hbel := hbel.trans (hb4.mono hbel.size)
      have hs4 := hb4.size
      clear hb4 hw4
      have b0 := at_.at_ 0 rfl
      have b1 := at_.at_ 1 rfl
      have r0 := ar.at_ 0 rfl
      have r1 := ar.at_ 1 rfl
      have f0 := ar.thaw 0
      have f1 := ar.thaw 1
      obtain ⟨p3, o3, rfl, hc3⟩ := own2.rd.at_ (k := xZ.length) (by rw [tab_len]; omega)
      rw [tab_nth (by omega)] at hc3
      have hi3 : (xZ.length : Int) < (xZ.length : Int) + 1 := by omega
      have hne : w3.heap.size ≠ w.heap.size + 1 + 1 := by omega
      have hp3 : p3 ≠ w.heap.size + 1 + 1 := by
        have hrow := own2.row.lt p3 rfl
        omega
      refine wp_region_marked (fun w' => w'.cell? ⟨w3.heap.size, 0, none⟩ = some (.int .i64 xB) ∧ w'.cell? ⟨w3.heap.size, 1, none⟩ = some (.slice A1 xZ.length C1) ∧ w'.cell? ⟨p3, o3 + xZ.length, none⟩ = some (.int .i64 (cK xB xZ yZ xZ.length))) 7 (by kernel_rfl) ?_
      have hS := And.intro b0 (And.intro b1 hc3)
      refine wpAnyM_take (i := 0) (v := ?_) rfl (by kernel_rfl) (by kernel_rfl) (by kernel_rfl) (by kernel_rfl) (by kernel_rfl) (fun _ _ _ h => h) hS (.inl ⟨by rfl, ?_⟩) ?_
      rotate_left 1
      · intro w' hS'; go_simp; try with_reducible rfl
      simp only [Act.put, List.setIfInBounds_toArray]
      refine wpAnyM_take (i := 1) (v := ?_) rfl (by kernel_rfl) (by kernel_rfl) (by kernel_rfl) (by kernel_rfl) (by kernel_rfl) (fun _ _ _ h => h) hS (.inl ⟨by rfl, ?_⟩) ?_
      rotate_left 1
      · intro w' hS'; go_simp; try with_reducible rfl
      simp only [Act.put]
      refine wpAnyM_take (i := 2) (v := ?_) rfl (by kernel_rfl) (by kernel_rfl) (by kernel_rfl) (by kernel_rfl) (by kernel_rfl) (fun _ _ _ h => h) hS (.inl ⟨by rfl, ?_⟩) ?_
      rotate_left 1
      · intro w' hS'; go_simp; try with_reducible rfl
      simp only [Act.put]
      refine wpAnyM_take (i := 3) (v := ?_) rfl (by kernel_rfl) (by kernel_rfl) (by kernel_rfl) (by kernel_rfl) (by kernel_rfl) (fun _ _ _ h => h) hS (.inl ⟨by rfl, ?_⟩) ?_
      rotate_left 1
      · intro w' hS'; go_simp; try with_reducible rfl
      simp only [Act.put]
      refine wpAnyM_take (i := 4) (v := ?_) rfl (by kernel_rfl) (by kernel_rfl) (by kernel_rfl) (by kernel_rfl) (by kernel_rfl) (fun _ _ _ h => h) hS (.inl ⟨by rfl, ?_⟩) ?_
      rotate_left 1
      · intro w' hS'; go_simp; try with_reducible rfl
      simp only [Act.put]
      refine wpAnyM_take (i := 5) (v := ?_) rfl (by kernel_rfl) (by kernel_rfl) (by kernel_rfl) (by kernel_rfl) (by kernel_rfl) (fun _ _ _ h => h) hS (.inl ⟨by rfl, ?_⟩) ?_
      rotate_left 1
      · intro w' hS'; go_simp; try with_reducible rfl
      simp only [Act.put]
      refine wpAnyM_one (i := 6) (by kernel_rfl) rfl (by rfl) (fun K hK => ?_)
      go_simp
      refine hK _ _ (.inr ⟨cell_far (cell_far b0 hne _) hne _, cell_far (cell_far b1 hne _) hne _, cell_far (cell_far hc3 hp3 _) hp3 _⟩) ?_
      try simp only [Act.put, List.setIfInBounds_toArray]
      clear hK K
      refine wpAnyM_one (i := 7) (by kernel_rfl) rfl (by rfl) (fun K hK => ?_)
      go_simp
      refine hK _ _ (.inl rfl) ?_
      try simp only [Act.put, List.setIfInBounds_toArray]
      clear hK K
      refine wpAnyM_one (i := 8) (by kernel_rfl) rfl (by rfl) (fun K hK => ?_)
      go_simp
      refine hK _ _ (.inl rfl) ?_
      clear hK K
      refine wpAnyM_done (by kernel_rfl) ?_ _
      go_wp2
      exact bodyPost_ret (v := .tuple #[.agg #[.int .i64 xB, .slice A1 xZ.length C1], .int .i64 (cK xB xZ yZ xZ.length), .int .i64 0]) (by simp [results, Try.results42, go_sem, r0, r1]) rfl
        (addRPost_ok HR.out (tab_len _ _) rfl (lo := v.heap.size) (hi := w2.heap.size) ((own1.drew.setCell (p := ⟨w.heap.size + 1 + 1, 0, none⟩) (.inl (by simp; omega)) _).setCell (p := ⟨w.heap.size + 1 + 1, 1, none⟩) (.inl (by simp; omega)) _) (by omega) (by simp; omega) (by repeat (first | exact hbel | refine Below.setCell ?_ (by simp <;> omega) _ | refine Below.alloc ?_ (by simp <;> omega) _ | refine Below.drew ?_)))
    | false =>
      have HR := Lib.hid (show addR xB xZ yB yZ = (0, [], 0, 5) by simp [addR, H.out, hk])
      have hfin := finish_full xB A1 C1 (tab (sumD xB xZ yZ) xZ.length) w2 own1.rd hA bx hk
      rw [tab_len] at hfin
      go_wp2_with fail
      refine hfin.mono ?_
      rintro e w3 ⟨rfl, hb2⟩
      replace ar := ar.below hb2
      replace hbel := hbel.trans (hb2.mono hbel.size)
      clear hb2 hk hfin
      have r0 := ar.at_ 0 rfl
      have r1 := ar.at_ 1 rfl
      have f0 := ar.thaw 0
      have f1 := ar.thaw 1
      have hws := ar.lt
      have zz := ar.put2 (.int .i64 0) (.slice none 0 0) (.cells #[.int .i64 0, .slice none 0 0] 26)
      go_wp2
      exact bodyPost_ret (v := .tuple #[.agg #[.int .i64 0, .slice none 0 0], .int .i64 0, .int .i64 5]) (by simp [results, Try.results42, go_sem, zz.1, zz.2]) rfl
        (addRPost_err HR.out rfl (by repeat (first | exact hbel | refine Below.setCell ?_ (by simp <;> omega) _ | refine Below.alloc ?_ (by simp <;> omega) _ | refine Below.drew ?_)))
  · have ht : (twoE xB xZ yB yZ != 0) = true := by simp [h]
    have HR := Lib.hid (show addR xB xZ yB yZ = (0, [], 0, twoE xB xZ yB yZ) by simp [addR, h])
    have r0 := ar.at_ 0 rfl
    have r1 := ar.at_ 1 rfl
    have f0 := ar.thaw 0
    have f1 := ar.thaw 1
    clear h
    go_wp2
    exact bodyPost_ret (v := .tuple #[.agg #[.int .i64 0, .slice none 0 0], .int .i64 0, .int .i64 (twoE xB xZ yB yZ)]) (by simp [results, Try.results42, go_sem, r0, r1]) rfl
      (addRPost_err HR.out rfl (by repeat (first | exact hbel | refine Below.setCell ?_ (by simp <;> omega) _ | refine Below.alloc ?_ (by simp <;> omega) _ | refine Below.drew ?_)))
end Go.Proofs.Ytfhiialalglefaa
