/-
  impl.ComplementOf, ShiftRegister.
-/
import Derived.Test.YtgfpjcckkbhdjaaArI
namespace Go.Proofs.Ytgfpjcckkbhdjaa
open Go.RowKit

theorem cplD_bd {B : Int} {xs : List Int} (hx : ∀ k, k < xs.length → 0 ≤ nth xs k ∧ nth xs k < B) : ∀ k, k < xs.length → 0 ≤ cplD B xs k ∧ cplD B xs k < B := by
  intro k hk
  have := hx k hk
  unfold cplD
  omega
theorem shD_bd {B : Int} {xs : List Int} {m : Int} (hB : 2 ≤ B) (hx : ∀ k, k < xs.length → 0 ≤ nth xs k ∧ nth xs k < B) : ∀ k, k < xs.length → 0 ≤ shD xs m k ∧ shD xs m k < B := by
  intro k hk
  unfold shD
  by_cases h : 0 ≤ (k : Int) - m ∧ (k : Int) - m ≤ (xs.length : Int) - 1
  · rw [if_pos h]; exact hx _ (by omega)
  · rw [if_neg h]; omega

set_option maxRecDepth 100000 in
set_option maxHeartbeats 2000000 in
theorem implComplementOf (xB : Int) (xA : Option Addr) (xC : Nat) (xZ : List Int) (w : World) (ha : Rd w xA xZ) (z : All64 xZ) (b : I64 xB) :
    Calls Try.prog 123 #[.agg #[.int .i64 xB, .slice xA xZ.length xC]] w (RegC (cplR xB xZ) w) := by
  go_enter Try.func123, Try.ntmps123
  go_wp2_with fail
  obtain ⟨u, hu⟩ : ∃ u, u = (w.alloc (.cells #[.int .i64 xB, .slice xA xZ.length xC] 26)).alloc (.cells #[.int .i64 0, .slice none 0 0] 26) := ⟨_, rfl⟩
  rw [← hu]
  have hbel : Below w.heap.size w u := by rw [hu]; exact (by repeat (first | exact Below.refl _ _ | refine Below.setCell ?_ (by first | omega | (simp <;> omega)) _ | refine Below.alloc ?_ (by first | omega | (simp <;> omega)) _ | refine Below.drew ?_))
  have ax : Bx u w.heap.size 26 #[.int .i64 xB, .slice xA xZ.length xC] := by rw [hu]; exact (Bx.new _ _ _).alloc _
  have ar : Bx u (w.heap.size + 1) 26 #[.int .i64 0, .slice none 0 0] := by rw [hu]; simpa using Bx.new (w.alloc (.cells #[.int .i64 xB, .slice xA xZ.length xC] 26)) #[.int .i64 0, .slice none 0 0] 26
  clear hu
  replace ha := ha.below hbel
  refine (implValidRegister xB xA xC xZ u ha z b).mono ?_
  rintro e v ⟨rfl, hb1⟩
  replace ax := ax.below hb1
  replace ar := ar.below hb1
  replace ha := ha.below hb1
  replace hbel := hbel.trans (hb1.mono hbel.size)
  clear hb1 u
  have hvs := ar.lt
  have c0 := ax.at_ 0 rfl
  have c1 := ax.at_ 1 rfl
  cases h : okB xB xZ with
  | false =>
    have HR := Lib.hid (show cplR xB xZ = (0, [], 1) by simp [cplR, h])
    have r0 := ar.at_ 0 rfl
    have r1 := ar.at_ 1 rfl
    have f0 := ar.thaw 0
    have f1 := ar.thaw 1
    clear h
    go_wp2
    exact bodyPost_ret (v := .tuple #[.agg #[.int .i64 0, .slice none 0 0], .int .i64 1]) (by simp [results, Try.results123, go_sem, r0, r1]) rfl
      (regC_err HR.out rfl (by repeat (first | exact hbel | refine Below.setCell ?_ (by first | omega | (simp <;> omega)) _ | refine Below.alloc ?_ (by first | omega | (simp <;> omega)) _ | refine Below.drew ?_)))
  | true =>
    have HO := Lib.hid (okB_spec h)
    have HD := Lib.hid (digit_of_ok h)
    have HR := Lib.hid (show cplR xB xZ = finR xB (tab (cplD xB xZ) xZ.length) by simp [cplR, h])
    have hA := all64_tab HO.out.2.1 (cplD_bd HD.out)
    clear h
    cases hk : okB xB (tab (cplD xB xZ) xZ.length) with
    | true =>
      have HF := Lib.hid (HR.out.trans (show finR xB (tab (cplD xB xZ) xZ.length) = (xB, tab (cplD xB xZ) xZ.length, 0) by simp [finR, hk]))
      go_wp2
      refine wp_region_marked (fun w' => Below v.heap.size v w') 10 (by kernel_rfl) ?_
      have hS : Below v.heap.size v v.drew := (Below.refl _ _).drew
      have k0 := kept_all c0
      have k1 := kept_all c1
      refine wpAnyM_take (i := 0) (v := ?_) rfl (by kernel_rfl) (by kernel_rfl) (by kernel_rfl) (by kernel_rfl) (by kernel_rfl) (fun _ _ _ h => h) hS (.inl ⟨by rfl, ?_⟩) ?_
      rotate_left 1
      · intro w' hS'; go_simp; try with_reducible rfl
      simp only [Act.put, List.setIfInBounds_toArray]
      refine wpAnyM_take (i := 1) (v := ?_) rfl (by kernel_rfl) (by kernel_rfl) (by kernel_rfl) (by kernel_rfl) (by kernel_rfl) (fun _ _ _ h => h) hS (.inl ⟨by rfl, ?_⟩) ?_
      rotate_left 1
      · intro w' hS'; go_simp; try with_reducible rfl
      simp only [Act.put]
      refine wpAnyM_take (i := 2) (v := ?_) rfl (by kernel_rfl) (by kernel_rfl) (by kernel_rfl) (by kernel_rfl) (by kernel_rfl) (fun _ _ _ h => h) hS (.inl ⟨by rfl, ?_⟩) ?_
      rotate_left 1
      · intro w' hS'; go_simp; try with_reducible rfl
      simp only [Act.put]
      refine wpAnyM_take (i := 3) (v := ?_) rfl (by kernel_rfl) (by kernel_rfl) (by kernel_rfl) (by kernel_rfl) (by kernel_rfl) (fun _ _ _ h => h) hS (.inl ⟨by rfl, ?_⟩) ?_
      rotate_left 1
      · intro w' hS'; go_simp; try with_reducible rfl
      simp only [Act.put]
      refine wpAnyM_take (i := 4) (v := ?_) rfl (by kernel_rfl) (by kernel_rfl) (by kernel_rfl) (by kernel_rfl) (by kernel_rfl) (fun _ _ _ h => h) hS (.inl ⟨by rfl, ?_⟩) ?_
      rotate_left 1
      · intro w' hS'; go_simp; try with_reducible rfl
      simp only [Act.put]
      refine wpAnyM_take (i := 5) (v := ?_) rfl (by kernel_rfl) (by kernel_rfl) (by kernel_rfl) (by kernel_rfl) (by kernel_rfl) (fun _ _ _ h => h) hS (.inl ⟨by rfl, ?_⟩) ?_
      rotate_left 1
      · intro w' hS'; go_simp; try with_reducible rfl
      simp only [Act.put]
      refine wpAnyM_one (i := 6) (by kernel_rfl) rfl (by rfl) (fun K hK => ?_)
      go_simp
      refine (complement_any xB xA xC xZ v.drew (ha.below hS) HO.out.1 HO.out.2.1 HO.out.2.2.2.1 HD.out).mono ?_
      rintro e w2 ⟨A1, C1, rfl, own1, hb2⟩
      replace hS : Below v.heap.size v w2 := hS.trans (hb2.mono (by simp))
      replace own1 : Own 2 w2 v.heap.size w2.heap.size (.slice A1 xZ.length C1) (tab (cplD xB xZ) xZ.length) := by simpa using own1
      refine hK _ _ (.inr hS) ?_
      try simp only [Act.put, List.setIfInBounds_toArray]
      clear hK K hb2
      refine wpAnyM_one (i := 7) (by kernel_rfl) rfl (by rfl) (fun K hK => ?_)
      go_simp
      have hfin := finish_ok xB A1 C1 (tab (cplD xB xZ) xZ.length) w2 own1.rd hA b hk
      rw [tab_len] at hfin
      refine hfin.mono ?_
      rintro e w3 ⟨rfl, hb2⟩
      have hws : w2.heap.size ≤ w3.heap.size := hb2.size
      replace own1 := own1.below hb2
      replace hS : Below v.heap.size v w3 := hS.trans (hb2.mono hS.size)
      refine hK _ _ (.inr hS) ?_
      try simp only [Act.put, List.setIfInBounds_toArray]
      clear hK K hb2 hfin
      replace ar := ar.below hS
      replace hbel := hbel.trans (hS.mono hbel.size)
      have r0 := ar.at_ 0 rfl
      have r1 := ar.at_ 1 rfl
      have f0 := ar.thaw 0
      have f1 := ar.thaw 1
      refine wpAnyM_take (i := 8) (v := ?_) rfl (by kernel_rfl) (by kernel_rfl) (by kernel_rfl) (by kernel_rfl) (by kernel_rfl) (fun _ _ _ h => h) hS (.inl ⟨by rfl, ?_⟩) ?_
      rotate_left 1
      · intro w' hS'; go_simp; try with_reducible rfl
      simp only [Act.put, List.setIfInBounds_toArray]
      refine wpAnyM_take (i := 9) (v := ?_) rfl (by kernel_rfl) (by kernel_rfl) (by kernel_rfl) (by kernel_rfl) (by kernel_rfl) (fun _ _ _ h => h) hS (.inl ⟨by rfl, ?_⟩) ?_
      rotate_left 1
      · intro w' hS'; go_simp; try with_reducible rfl
      simp only [Act.put]
      refine wpAnyM_one (i := 10) (by kernel_rfl) rfl (by rfl) (fun K hK => ?_)
      go_simp
      refine hK _ _ (.inl rfl) ?_
      try simp only [Act.put, List.setIfInBounds_toArray]
      clear hK K
      refine wpAnyM_one (i := 11) (by kernel_rfl) rfl (by rfl) (fun K hK => ?_)
      go_simp
      refine hK _ _ (.inl rfl) ?_
      clear hK K
      refine wpAnyM_done (by kernel_rfl) ?_ _
      go_wp2
      exact bodyPost_ret (v := .tuple #[.agg #[.int .i64 xB, .slice A1 xZ.length C1], .int .i64 0]) (by simp [results, Try.results123, go_sem, r0, r1]) rfl
        (regC_ok HF.out (by rw [tab_len]) (lo := v.heap.size) (hi := w2.heap.size) (by rw [tab_len]; exact (own1.setCell (p := ⟨w.heap.size + 1, 0, none⟩) (.inl hvs) _).setCell (p := ⟨w.heap.size + 1, 1, none⟩) (.inl hvs) _) (by omega) (by simp; omega) (by repeat (first | exact hbel | refine Below.setCell ?_ (by first | omega | (simp <;> omega)) _ | refine Below.alloc ?_ (by first | omega | (simp <;> omega)) _ | refine Below.drew ?_)))
    | false =>
      have HF := Lib.hid (HR.out.trans (show finR xB (tab (cplD xB xZ) xZ.length) = (0, [], 5) by simp [finR, hk]))
      go_wp2
      refine wp_region_marked (fun w' => Below v.heap.size v w') 10 (by kernel_rfl) ?_
      have hS : Below v.heap.size v v.drew := (Below.refl _ _).drew
      have k0 := kept_all c0
      have k1 := kept_all c1
      refine wpAnyM_take (i := 0) (v := ?_) rfl (by kernel_rfl) (by kernel_rfl) (by kernel_rfl) (by kernel_rfl) (by kernel_rfl) (fun _ _ _ h => h) hS (.inl ⟨by rfl, ?_⟩) ?_
      rotate_left 1
      · intro w' hS'; go_simp; try with_reducible rfl
      simp only [Act.put, List.setIfInBounds_toArray]
      refine wpAnyM_take (i := 1) (v := ?_) rfl (by kernel_rfl) (by kernel_rfl) (by kernel_rfl) (by kernel_rfl) (by kernel_rfl) (fun _ _ _ h => h) hS (.inl ⟨by rfl, ?_⟩) ?_
      rotate_left 1
      · intro w' hS'; go_simp; try with_reducible rfl
      simp only [Act.put]
      refine wpAnyM_take (i := 2) (v := ?_) rfl (by kernel_rfl) (by kernel_rfl) (by kernel_rfl) (by kernel_rfl) (by kernel_rfl) (fun _ _ _ h => h) hS (.inl ⟨by rfl, ?_⟩) ?_
      rotate_left 1
      · intro w' hS'; go_simp; try with_reducible rfl
      simp only [Act.put]
      refine wpAnyM_take (i := 3) (v := ?_) rfl (by kernel_rfl) (by kernel_rfl) (by kernel_rfl) (by kernel_rfl) (by kernel_rfl) (fun _ _ _ h => h) hS (.inl ⟨by rfl, ?_⟩) ?_
      rotate_left 1
      · intro w' hS'; go_simp; try with_reducible rfl
      simp only [Act.put]
      refine wpAnyM_take (i := 4) (v := ?_) rfl (by kernel_rfl) (by kernel_rfl) (by kernel_rfl) (by kernel_rfl) (by kernel_rfl) (fun _ _ _ h => h) hS (.inl ⟨by rfl, ?_⟩) ?_
      rotate_left 1
      · intro w' hS'; go_simp; try with_reducible rfl
      simp only [Act.put]
      refine wpAnyM_take (i := 5) (v := ?_) rfl (by kernel_rfl) (by kernel_rfl) (by kernel_rfl) (by kernel_rfl) (by kernel_rfl) (fun _ _ _ h => h) hS (.inl ⟨by rfl, ?_⟩) ?_
      rotate_left 1
      · intro w' hS'; go_simp; try with_reducible rfl
      simp only [Act.put]
      refine wpAnyM_one (i := 6) (by kernel_rfl) rfl (by rfl) (fun K hK => ?_)
      go_simp
      refine (complement_any xB xA xC xZ v.drew (ha.below hS) HO.out.1 HO.out.2.1 HO.out.2.2.2.1 HD.out).mono ?_
      rintro e w2 ⟨A1, C1, rfl, own1, hb2⟩
      replace hS : Below v.heap.size v w2 := hS.trans (hb2.mono (by simp))
      replace own1 : Own 2 w2 v.heap.size w2.heap.size (.slice A1 xZ.length C1) (tab (cplD xB xZ) xZ.length) := by simpa using own1
      refine hK _ _ (.inr hS) ?_
      try simp only [Act.put, List.setIfInBounds_toArray]
      clear hK K hb2
      refine wpAnyM_one (i := 7) (by kernel_rfl) rfl (by rfl) (fun K hK => ?_)
      go_simp
      have hfin := finish_full xB A1 C1 (tab (cplD xB xZ) xZ.length) w2 own1.rd hA b hk
      rw [tab_len] at hfin
      refine hfin.mono ?_
      rintro e w3 ⟨rfl, hb2⟩
      have hws : w2.heap.size ≤ w3.heap.size := hb2.size
      replace own1 := own1.below hb2
      replace hS : Below v.heap.size v w3 := hS.trans (hb2.mono hS.size)
      refine hK _ _ (.inr hS) ?_
      try simp only [Act.put, List.setIfInBounds_toArray]
      clear hK K hb2 hfin
      replace ar := ar.below hS
      replace hbel := hbel.trans (hS.mono hbel.size)
      have r0 := ar.at_ 0 rfl
      have r1 := ar.at_ 1 rfl
      have f0 := ar.thaw 0
      have f1 := ar.thaw 1
      refine wpAnyM_take (i := 8) (v := ?_) rfl (by kernel_rfl) (by kernel_rfl) (by kernel_rfl) (by kernel_rfl) (by kernel_rfl) (fun _ _ _ h => h) hS (.inl ⟨by rfl, ?_⟩) ?_
      rotate_left 1
      · intro w' hS'; go_simp; try with_reducible rfl
      simp only [Act.put, List.setIfInBounds_toArray]
      refine wpAnyM_take (i := 9) (v := ?_) rfl (by kernel_rfl) (by kernel_rfl) (by kernel_rfl) (by kernel_rfl) (by kernel_rfl) (fun _ _ _ h => h) hS (.inl ⟨by rfl, ?_⟩) ?_
      rotate_left 1
      · intro w' hS'; go_simp; try with_reducible rfl
      simp only [Act.put]
      refine wpAnyM_one (i := 10) (by kernel_rfl) rfl (by rfl) (fun K hK => ?_)
      go_simp
      refine hK _ _ (.inl rfl) ?_
      try simp only [Act.put, List.setIfInBounds_toArray]
      clear hK K
      refine wpAnyM_one (i := 11) (by kernel_rfl) rfl (by rfl) (fun K hK => ?_)
      go_simp
      refine hK _ _ (.inl rfl) ?_
      clear hK K
      refine wpAnyM_done (by kernel_rfl) ?_ _
      go_wp2
      exact bodyPost_ret (v := .tuple #[.agg #[.int .i64 0, .slice none 0 0], .int .i64 5]) (by simp [results, Try.results123, go_sem, r0, r1]) rfl
        (regC_err HF.out rfl (by repeat (first | exact hbel | refine Below.setCell ?_ (by first | omega | (simp <;> omega)) _ | refine Below.alloc ?_ (by first | omega | (simp <;> omega)) _ | refine Below.drew ?_)))

end Go.Proofs.Ytgfpjcckkbhdjaa
