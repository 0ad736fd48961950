/-
  impl.ValidDrum; the model's word on drums.
-/
import Derived.Test.YtcfpfhlgcfmioaaDoorWithin
import Derived.Test.YtcfpfhlgcfmioaaDoorInS
import Derived.Test.YtcfpfhlgcfmioaaDoorOkS
import Derived.Test.YtcfpfhlgcfmioaaDoorDrumM
namespace Go.Proofs.YtcfpfhlgcfmioaaDoor
open Go.RowKit

theorem baseB_iff (B : Int) : baseB B = true ↔ 2 ≤ B ∧ B ≤ 16 := by simp [baseB]
theorem isBase_any (b : Int) (w : World) : Calls Tryd.prog 47 #[.int .i64 b] w fun e w' => e = .returned (.bool (baseB b)) ∧ w' = w := by
  by_cases h : 2 ≤ b
  · by_cases h2 : b ≤ 16
    · have H := Lib.hid ((baseB_iff b).2 ⟨h, h2⟩)
      go_enter Tryd.func47, Tryd.ntmps47
      go_wp2
      go_ret
      exact ⟨ret_bool H.out.symm, rfl⟩
    · have H := Lib.hid (show baseB b = false by cases e : baseB b with | false => rfl | true => exact absurd ((baseB_iff b).1 e).2 h2)
      go_enter Tryd.func47, Tryd.ntmps47
      go_wp2
      go_ret
      exact ⟨ret_bool H.out.symm, rfl⟩
  · have H := Lib.hid (show baseB b = false by cases e : baseB b with | false => rfl | true => exact absurd ((baseB_iff b).1 e).1 h)
    go_enter Tryd.func47, Tryd.ntmps47
    go_wp2
    go_ret
    exact ⟨ret_bool H.out.symm, rfl⟩

set_option maxHeartbeats 4000000 in
theorem implValidDrum (K B T F : Int) (w : World) (_ : I64 K ∧ I64 B ∧ I64 T ∧ I64 F) : Calls Tryd.prog 25 #[.agg #[.int .i64 K, .int .i64 B, .int .i64 T, .int .i64 F]] w fun e w' => e = .returned (.bool (drumB K B T F)) ∧ Below w.heap.size w w' := by
  cases hK : inB K 1 3 with
  | false =>
    have HO := Lib.hid (show drumB K B T F = false from drm_no fun h => by have := inB_false hK; have := h.k1; have := h.k2; omega)
    have H1 := Lib.hid hK
    clear hK
    go_enter Tryd.func25, Tryd.ntmps25
    go_wp2_with (go_at_call 35; refine (within1_at _ _ (K) _ _ _ (by go_simp)).mono ?_; rintro e w1 ⟨rfl, hq⟩; subst w1; rw [H1.out])
    go_ret
    exact ⟨ret_bool HO.out.symm, (by repeat (first | exact Below.refl _ _ | refine Below.setCell ?_ (by first | omega | (simp <;> omega)) _ | refine Below.alloc ?_ (by first | omega | (simp <;> omega)) _ | refine Below.drew ?_))⟩
  | true =>
    have H1 := Lib.hid hK
    obtain ⟨k1, k2⟩ := inB_true hK
    clear hK
    by_cases hB : 2 ≤ B ∧ B ≤ 16
    · have HB := Lib.hid ((baseB_iff B).2 hB)
      obtain ⟨b1, b2⟩ := hB
      cases hT : inB T B 60 with
      | false =>
        have HO := Lib.hid (show drumB K B T F = false from drm_no fun h => by have := inB_false hT; have := h.t1; have := h.t2; omega)
        have H2 := Lib.hid hT
        clear hT
        go_enter Tryd.func25, Tryd.ntmps25
        go_wp2_with (first | (go_at_call 47; refine (isBase_any _ _).mono ?_; rintro e w1 ⟨rfl, hq⟩; subst w1; rw [HB.out]) | (go_at_call 35; refine (within1_at _ _ (K) _ _ _ (by go_simp)).mono ?_; rintro e w1 ⟨rfl, hq⟩; subst w1; rw [H1.out]) | (go_at_call 35; refine (within1_at _ _ (T) _ _ _ (by go_simp)).mono ?_; rintro e w1 ⟨rfl, hq⟩; subst w1; rw [H2.out]))
        go_ret
        exact ⟨ret_bool HO.out.symm, (by repeat (first | exact Below.refl _ _ | refine Below.setCell ?_ (by first | omega | (simp <;> omega)) _ | refine Below.alloc ?_ (by first | omega | (simp <;> omega)) _ | refine Below.drew ?_))⟩
      | true =>
        have H2 := Lib.hid hT
        obtain ⟨t1, t2⟩ := inB_true hT
        clear hT
        by_cases h3 : K = 3
        · subst h3
          have HO := Lib.hid (show drumB 3 B T F = (F == 0) by
            by_cases hF : F = 0
            · rw [drm_to ⟨by omega, by omega, b1, b2, t1, t2, fun _ => hF, fun h => absurd rfl h⟩]; exact (beq_iff_eq.2 hF).symm
            · rw [drm_no fun h => hF (h.f3 rfl)]; exact (beq_eq_false_iff_ne.2 hF).symm)
          go_enter Tryd.func25, Tryd.ntmps25
          go_wp2_with (first | (go_at_call 47; refine (isBase_any _ _).mono ?_; rintro e w1 ⟨rfl, hq⟩; subst w1; rw [HB.out]) | (go_at_call 35; refine (within1_at _ _ (3) _ _ _ (by go_simp)).mono ?_; rintro e w1 ⟨rfl, hq⟩; subst w1; rw [H1.out]) | (go_at_call 35; refine (within1_at _ _ (T) _ _ _ (by go_simp)).mono ?_; rintro e w1 ⟨rfl, hq⟩; subst w1; rw [H2.out]))
          go_ret
          exact ⟨ret_bool HO.out.symm, (by repeat (first | exact Below.refl _ _ | refine Below.setCell ?_ (by first | omega | (simp <;> omega)) _ | refine Below.alloc ?_ (by first | omega | (simp <;> omega)) _ | refine Below.drew ?_))⟩
        · have h3b : (K == 3) = false := beq_eq_false_iff_ne.2 h3
          have HO := Lib.hid (show drumB K B T F = inB F 1 (T - B + 2) by
            cases hF : inB F 1 (T - B + 2) with
            | true => exact drm_to ⟨k1, k2, b1, b2, t1, t2, fun h => absurd h h3, fun _ => inB_true hF⟩
            | false => exact drm_no fun h => by have := inB_false hF; have := h.f1 h3; omega)
          clear h3
          cases hF : inB F 1 (T - B + 2) with
          | true =>
            rw [hF] at HO
            have H3 := Lib.hid hF
            clear hF
            go_enter Tryd.func25, Tryd.ntmps25
            go_wp2_with (first | (go_at_call 47; refine (isBase_any _ _).mono ?_; rintro e w1 ⟨rfl, hq⟩; subst w1; rw [HB.out]) | (go_at_call 35; refine (within1_at _ _ (K) _ _ _ (by go_simp)).mono ?_; rintro e w1 ⟨rfl, hq⟩; subst w1; rw [H1.out]) | (go_at_call 35; refine (within1_at _ _ (T) _ _ _ (by go_simp)).mono ?_; rintro e w1 ⟨rfl, hq⟩; subst w1; rw [H2.out]) | (go_at_call 35; refine (within1_at _ _ (F) _ _ _ (by go_simp)).mono ?_; rintro e w1 ⟨rfl, hq⟩; subst w1; rw [H3.out]))
            go_ret
            exact ⟨ret_bool HO.out.symm, (by repeat (first | exact Below.refl _ _ | refine Below.setCell ?_ (by first | omega | (simp <;> omega)) _ | refine Below.alloc ?_ (by first | omega | (simp <;> omega)) _ | refine Below.drew ?_))⟩
          | false =>
            rw [hF] at HO
            have H3 := Lib.hid hF
            clear hF
            go_enter Tryd.func25, Tryd.ntmps25
            go_wp2_with (first | (go_at_call 47; refine (isBase_any _ _).mono ?_; rintro e w1 ⟨rfl, hq⟩; subst w1; rw [HB.out]) | (go_at_call 35; refine (within1_at _ _ (K) _ _ _ (by go_simp)).mono ?_; rintro e w1 ⟨rfl, hq⟩; subst w1; rw [H1.out]) | (go_at_call 35; refine (within1_at _ _ (T) _ _ _ (by go_simp)).mono ?_; rintro e w1 ⟨rfl, hq⟩; subst w1; rw [H2.out]) | (go_at_call 35; refine (within1_at _ _ (F) _ _ _ (by go_simp)).mono ?_; rintro e w1 ⟨rfl, hq⟩; subst w1; rw [H3.out]))
            go_ret
            exact ⟨ret_bool HO.out.symm, (by repeat (first | exact Below.refl _ _ | refine Below.setCell ?_ (by first | omega | (simp <;> omega)) _ | refine Below.alloc ?_ (by first | omega | (simp <;> omega)) _ | refine Below.drew ?_))⟩
    · have HO := Lib.hid (show drumB K B T F = false from drm_no fun h => hB ⟨h.b1, h.b2⟩)
      have HB := Lib.hid (show baseB B = false by cases e : baseB B with | false => rfl | true => exact absurd ((baseB_iff B).1 e) hB)
      clear hB
      go_enter Tryd.func25, Tryd.ntmps25
      go_wp2_with (first | (go_at_call 47; refine (isBase_any _ _).mono ?_; rintro e w1 ⟨rfl, hq⟩; subst w1; rw [HB.out]) | (go_at_call 35; refine (within1_at _ _ (K) _ _ _ (by go_simp)).mono ?_; rintro e w1 ⟨rfl, hq⟩; subst w1; rw [H1.out]))
      go_ret
      exact ⟨ret_bool HO.out.symm, (by repeat (first | exact Below.refl _ _ | refine Below.setCell ?_ (by first | omega | (simp <;> omega)) _ | refine Below.alloc ?_ (by first | omega | (simp <;> omega)) _ | refine Below.drew ?_))⟩

/-- Where a drum lies. -/
structure DrumAt (w : World) (p : Nat) (K B T F : Int) : Prop where
  c0 : w.cell? ⟨p, 0, none⟩ = some (.int .i64 K)
  c1 : w.cell? ⟨p, 1, none⟩ = some (.int .i64 B)
  c2 : w.cell? ⟨p, 2, none⟩ = some (.int .i64 T)
  c3 : w.cell? ⟨p, 3, none⟩ = some (.int .i64 F)
section
variable {w w' : World} {p : Nat} {K B T F : Int}
theorem DrumAt.below (h : DrumAt w p K B T F) (hb : Below w.heap.size w w') : DrumAt w' p K B T F := ⟨kept hb h.c0, kept hb h.c1, kept hb h.c2, kept hb h.c3⟩
theorem DrumAt.drewN (h : DrumAt w p K B T F) (k : Nat) : DrumAt (w.drewN k) p K B T F := ⟨h.c0, h.c1, h.c2, h.c3⟩
theorem DrumAt.of_box {t : TypeId} (h : Bx w p t #[.int .i64 K, .int .i64 B, .int .i64 T, .int .i64 F]) : DrumAt w p K B T F := ⟨h.at_ 0 rfl, h.at_ 1 rfl, h.at_ 2 rfl, h.at_ 3 rfl⟩
end

set_option maxHeartbeats 4000000 in
theorem l05Ok_any (p : Nat) (K B T F : Int) (w : World) (h : DrumAt w p K B T F) : Calls Tryd.prog 43 #[.pointer (some ⟨p, 0, none⟩)] w fun e w' => e = .returned (.bool (drumB K B T F)) ∧ ∃ k, w' = w.drewN k := by
  obtain ⟨c0, c1, c2, c3⟩ := h
  cases hK : inB K 1 3 with
  | false =>
    have HO := Lib.hid (show drumB K B T F = false from drm_no fun h => by have := inB_false hK; have := h.k1; have := h.k2; omega)
    go_enter Tryd.func43, Tryd.ntmps43
    go_wp2
    go_quiet ((first | (go_at_call 38; exact Calls.quiet_of_same (l00In_any _ _ _ _)) | (go_at_call 52; exact Calls.quiet_of_same (l02Base_any _ _))))
    go_wp2
    go_ret
    exact ⟨ret_bool HO.out.symm, _, rfl⟩
  | true =>
    obtain ⟨k1, k2⟩ := inB_true hK
    cases hB : baseB B with
    | false =>
      have HO := Lib.hid (show drumB K B T F = false from drm_no fun h => by have := (baseB_iff B).2 ⟨h.b1, h.b2⟩; rw [hB] at this; cases this)
      go_enter Tryd.func43, Tryd.ntmps43
      go_wp2
      go_quiet ((first | (go_at_call 38; exact Calls.quiet_of_same (l00In_any _ _ _ _)) | (go_at_call 52; exact Calls.quiet_of_same (l02Base_any _ _))))
      go_wp2
      go_ret
      exact ⟨ret_bool HO.out.symm, _, rfl⟩
    | true =>
      obtain ⟨b1, b2⟩ := (baseB_iff B).1 hB
      cases hT : inB T B 60 with
      | false =>
        have HO := Lib.hid (show drumB K B T F = false from drm_no fun h => by have := inB_false hT; have := h.t1; have := h.t2; omega)
        go_enter Tryd.func43, Tryd.ntmps43
        go_wp2
        go_quiet ((first | (go_at_call 38; exact Calls.quiet_of_same (l00In_any _ _ _ _)) | (go_at_call 52; exact Calls.quiet_of_same (l02Base_any _ _))))
        go_wp2
        go_ret
        exact ⟨ret_bool HO.out.symm, _, rfl⟩
      | true =>
        obtain ⟨t1, t2⟩ := inB_true hT
        by_cases h3 : K = 3
        · subst h3
          have HO := Lib.hid (show drumB 3 B T F = (F == 0) by
            by_cases hF : F = 0
            · rw [drm_to ⟨by omega, by omega, b1, b2, t1, t2, fun _ => hF, fun h => absurd rfl h⟩]; exact (beq_iff_eq.2 hF).symm
            · rw [drm_no fun h => hF (h.f3 rfl)]; exact (beq_eq_false_iff_ne.2 hF).symm)
          go_enter Tryd.func43, Tryd.ntmps43
          go_wp2
          go_quiet ((first | (go_at_call 38; exact Calls.quiet_of_same (l00In_any _ _ _ _)) | (go_at_call 52; exact Calls.quiet_of_same (l02Base_any _ _))))
          go_wp2
          go_ret
          exact ⟨ret_bool HO.out.symm, _, rfl⟩
        · have h3b : (K == 3) = false := beq_eq_false_iff_ne.2 h3
          have HO := Lib.hid (show drumB K B T F = inB F 1 (T - B + 2) by
            cases hF : inB F 1 (T - B + 2) with
            | true => exact drm_to ⟨k1, k2, b1, b2, t1, t2, fun h => absurd h h3, fun _ => inB_true hF⟩
            | false => exact drm_no fun h => by have := inB_false hF; have := h.f1 h3; omega)
          have w1 : IntKind.i64.wrap (T - B) = T - B := IntWalk.i64_in _ (by omega)
          have w2 : IntKind.i64.wrap (T - B + 2) = T - B + 2 := IntWalk.i64_in _ (by omega)
          clear h3
          go_enter Tryd.func43, Tryd.ntmps43
          go_wp2
          go_quiet ((first | (go_at_call 38; exact Calls.quiet_of_same (l00In_any _ _ _ _)) | (go_at_call 52; exact Calls.quiet_of_same (l02Base_any _ _))))
          obtain ⟨wr, hwr⟩ : ∃ wr, wr = w.drewN nq := ⟨_, rfl⟩
          have r0 : wr.cell? ⟨p, 0, none⟩ = some (.int .i64 K) := by rw [hwr]; exact c0
          have r1 : wr.cell? ⟨p, 1, none⟩ = some (.int .i64 B) := by rw [hwr]; exact c1
          have r2 : wr.cell? ⟨p, 2, none⟩ = some (.int .i64 T) := by rw [hwr]; exact c2
          have r3 : wr.cell? ⟨p, 3, none⟩ = some (.int .i64 F) := by rw [hwr]; exact c3
          rw [← hwr]
          have HW := Lib.hid hwr
          clear hwr c0 c1 c2 c3
          go_wp2
          go_quiet ((first | (go_at_call 38; exact Calls.quiet_of_same (l00In_any _ _ _ _)) | (go_at_call 52; exact Calls.quiet_of_same (l02Base_any _ _))))
          go_wp2
          go_ret
          exact ⟨ret_bool HO.out.symm, _, by rw [HW.out, drewN_drewN]⟩
end Go.Proofs.YtcfpfhlgcfmioaaDoor
