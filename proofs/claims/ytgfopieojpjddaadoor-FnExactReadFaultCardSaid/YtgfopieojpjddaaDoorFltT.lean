/-
  FaultText, in the model and in the program.
-/
import Derived.Test.YtgfopieojpjddaaDoorWithin
import Derived.Test.YtgfopieojpjddaaDoorInS
import Derived.Test.YtgfopieojpjddaaDoorOrdC
import Derived.Test.YtgfopieojpjddaaDoorDecI
import Derived.Deep.Cut
namespace Go.Proofs.YtgfopieojpjddaaDoor
open Go.RowKit

/-- The table of words, as the program's variable holds it. -/
def FaultWords (w : World) : Prop :=
  w.cell? ⟨1, 0, none⟩ = some (.string ⟨#[]⟩) ∧ w.cell? ⟨1, 1, none⟩ = some (.string ⟨#[109, 105, 115, 115, 105, 110, 103]⟩) ∧ w.cell? ⟨1, 2, none⟩ = some (.string ⟨#[115, 116, 117, 99, 107]⟩) ∧ w.cell? ⟨1, 3, none⟩ = some (.string ⟨#[108, 97, 116, 101]⟩)
theorem faultWords_below {w w' : World} (h : FaultWords w) (hb : Below w.heap.size w w') : FaultWords w' := ⟨kept hb h.1, kept hb h.2.1, kept hb h.2.2.1, kept hb h.2.2.2⟩
def wdV (c : Int) : ByteArray :=
  match c with
  | 1 => ⟨#[109, 105, 115, 115, 105, 110, 103]⟩
  | 2 => ⟨#[115, 116, 117, 99, 107]⟩
  | 3 => ⟨#[108, 97, 116, 101]⟩
  | _ => ByteArray.empty
theorem wdV_out {c : Int} (h : c < 1 ∨ 3 < c) : wdV c = ByteArray.empty := by
  unfold wdV
  split <;> first | omega | rfl
/-- The text of a fault. -/
def ftV (x : Int × Int) : ByteArray := if inB x.1 1 3 = true then (if inB x.2 0 15 = true then wdV x.1 ++ ⟨#[32]⟩ ++ ⟨(Lib.itoa x.2).toArray⟩ else ByteArray.empty) else ByteArray.empty
theorem ftV_kind {k l : Int} (h : inB k 1 3 = false) : ftV (k, l) = ByteArray.empty := by simp [ftV, h]
theorem ftV_lever {k l : Int} (h : inB k 1 3 = true) (h2 : inB l 0 15 = false) : ftV (k, l) = ByteArray.empty := by simp [ftV, h, h2]
theorem ftV_ok {k l : Int} (h : inB k 1 3 = true) (h2 : inB l 0 15 = true) : ftV (k, l) = wdV k ++ ⟨#[32]⟩ ++ ⟨(Lib.itoa l).toArray⟩ := by simp [ftV, h, h2]

theorem itoa_16 {l : Int} (h : 0 ≤ l) (h2 : l ≤ 15) : (Lib.itoa l).length ≤ 2 := by
  obtain ⟨n, rfl⟩ := Int.eq_ofNat_of_zero_le h
  exact (show ∀ n : Fin 16, (Lib.itoa (n.1 : Int)).length ≤ 2 by decide +kernel) ⟨n, by omega⟩
set_option maxHeartbeats 1000000 in
theorem l08Word_any (c : Int) (w : World) : Calls Tryd.prog 82 #[.int .i64 c] w fun e w' => e = .returned (.string (wdV c)) ∧ w' = w := by
  by_cases h1 : c = 1
  · subst h1
    go_enter Tryd.func82, Tryd.ntmps82
    go_wp2
    go_ret
    exact ⟨rfl, rfl⟩
  · have t1 : (c == 1) = false := by simp [h1]
    by_cases h2 : c = 2
    · subst h2
      go_enter Tryd.func82, Tryd.ntmps82
      go_wp2
      go_ret
      exact ⟨rfl, rfl⟩
    · have t2 : (c == 2) = false := by simp [h2]
      by_cases h3 : c = 3
      · subst h3
        go_enter Tryd.func82, Tryd.ntmps82
        go_wp2
        go_ret
        exact ⟨rfl, rfl⟩
      · have t3 : (c == 3) = false := by simp [h3]
        have HW := Lib.hid (wdV_out (c := c) (by omega))
        clear h1 h2 h3
        go_enter Tryd.func82, Tryd.ntmps82
        go_wp2
        go_ret
        exact ⟨by rw [HW.out]; rfl, rfl⟩

theorem isFaultKind_at {b : Bool} (k : Int) (w : World) (h : inB k 1 3 = b) : Calls Tryd.prog 83 #[.int .i64 k] w fun e w' => e = .returned (.bool b) ∧ w' = w.alloc (.cells #[.int .i64 k] 2) := by
  subst h
  go_enter Tryd.func83, Tryd.ntmps83
  go_wp2_with (go_at_call 70; refine (within1_at _ _ k _ _ _ (by go_simp)).mono ?_; rintro e w1 ⟨rfl, hq⟩; subst w1)
  go_ret
  exact ⟨rfl, rfl⟩

set_option maxRecDepth 100000 in
set_option maxHeartbeats 4000000 in
theorem implFaultText (x : Int × Int) (w : World) (hxx : I64 x.1 ∧ I64 x.2) (hD : PowTab w ∧ FaultWords w) :
    Calls Tryd.prog 59 #[.agg #[.int .i64 x.1, .int .i64 x.2]] w fun e w' => e = .returned (.string (ftV x)) ∧ Below w.heap.size w w' := by
  obtain ⟨k, l⟩ := x
  have bl : I64 l := hxx.2
  clear hxx
  simp only
  obtain ⟨u, hu⟩ : ∃ u, u = w.alloc (.cells #[.int .i64 k, .int .i64 l] 53) := ⟨_, rfl⟩
  have hbel : Below w.heap.size w u := by rw [hu]; exact (by repeat (first | exact Below.refl _ _ | refine Below.setCell ?_ (by first | omega | (simp <;> omega)) _ | refine Below.alloc ?_ (by first | omega | (simp <;> omega)) _ | refine Below.drew ?_))
  have bx : Bx u w.heap.size 53 #[.int .i64 k, .int .i64 l] := by rw [hu]; exact Bx.new _ _ _
  obtain ⟨u1, hu1⟩ : ∃ u1, u1 = u.alloc (.cells #[.int .i64 k] 2) := ⟨_, rfl⟩
  have hb1 : Below u.heap.size u u1 := by rw [hu1]; exact (Below.refl _ _).alloc (Nat.le_refl _) _
  have bx1 := bx.below hb1
  have x0 := bx.at_ 0 rfl
  have x1 := bx.at_ 1 rfl
  have hsz := hbel.size
  have HU := Lib.hid hu
  have HU1 := Lib.hid hu1
  have hbel1 := hbel.trans (hb1.mono hsz)
  have z1 := bx1.at_ 1 rfl
  clear hu hu1 bx
  cases hc : inB k 1 3 with
  | false =>
    have HF := Lib.hid (isFaultKind_at k u hc)
    have HR := Lib.hid (ftV_kind (l := l) hc)
    clear hc
    go_enter Tryd.func59, Tryd.ntmps59
    go_upto_region 1 with fail
    rw [← HU.out]
    go_wp2_with (go_at_call 83; refine HF.out.mono ?_; rintro e w1 ⟨rfl, hq⟩; rw [← HU1.out] at hq; subst hq)
    go_ret
    exact ⟨by rw [HR.out]; rfl, hbel1⟩
  | true =>
    have HF := Lib.hid (isFaultKind_at k u hc)
    have HC := Lib.hid hc
    obtain ⟨u2, hu2⟩ : ∃ u2, u2 = u1.alloc (.cells #[.int .i64 l] 2) := ⟨_, rfl⟩
    have hb2 : Below u1.heap.size u1 u2 := by rw [hu2]; exact (Below.refl _ _).alloc (Nat.le_refl _) _
    have HW := Lib.hid (within1_at 0 15 l u2 u1.heap.size 1 (by rw [hu2]; exact (Bx.new _ _ _).at_ 0 rfl))
    have HU2 := Lib.hid hu2
    have bx2 := bx1.below hb2
    have hbel2 := hbel1.trans (hb2.mono hbel1.size)
    have y0 := bx2.at_ 0 rfl
    have y1 := bx2.at_ 1 rfl
    clear hu2
    cases hc2 : inB l 0 15 with
    | false =>
      rw [hc2] at HW
      have HR := Lib.hid (ftV_lever HC.out hc2)
      clear hc hc2
      go_enter Tryd.func59, Tryd.ntmps59
      go_upto_region 1 with fail
      rw [← HU.out]
      go_wp2_with (first | (go_at_call 83; refine HF.out.mono ?_; rintro e w1 ⟨rfl, hq⟩; rw [← HU1.out] at hq; subst hq) | (go_at_call 70; rw [← HU2.out]; refine HW.out.mono ?_; rintro e w' ⟨rfl, hq⟩; subst hq))
      go_ret
      exact ⟨by rw [HR.out]; rfl, hbel2⟩
    | true =>
      rw [hc2] at HW
      have HR := Lib.hid (ftV_ok HC.out hc2)
      obtain ⟨h1, h2⟩ := inB_true hc
      obtain ⟨h3, h4⟩ := inB_true hc2
      have hit := itoa_16 h3 h4
      obtain ⟨n0, n1, n2, n3⟩ := faultWords_below hD.2 hbel2
      have e1 := kept_all n1
      have e2 := kept_all n2
      have e3 := kept_all n3
      have f0 := kept_all y0
      have f1 := kept_all y1
      have hP := Lib.hid (fun v (hv : Below u2.heap.size u2 v) => implDecimal l v bl (powTab_below hD.1 (hbel2.trans (hv.mono hbel2.size))))
      have d2 : (9223372036854775807 < 8 + (Lib.itoa l).length) = False := eq_false (by omega)
      have d3 : (9223372036854775807 < 6 + (Lib.itoa l).length) = False := eq_false (by omega)
      have d4 : (9223372036854775807 < 5 + (Lib.itoa l).length) = False := eq_false (by omega)
      have hz2 := hbel2.size
      clear n0 n1 n2 n3 hc hc2 hD
      have hcc : k = 1 ∨ k = 2 ∨ k = 3 := by omega
      clear h1 h2
      rcases hcc with rfl | rfl | rfl
      all_goals
        go_enter Tryd.func59, Tryd.ntmps59
        go_upto_region 1 with fail
        rw [← HU.out]
        go_upto_region 3 with (first | (go_at_call 83; refine HF.out.mono ?_; rintro e w1 ⟨rfl, hq⟩; rw [← HU1.out] at hq; subst hq) | (go_at_call 70; rw [← HU2.out]; refine HW.out.mono ?_; rintro e w' ⟨rfl, hq⟩; subst hq))
        refine wp_region_marked (fun w2 => Below w'.heap.size w' w2) 8 (by kernel_rfl) ?_
        have hS : Below w'.heap.size w' w'.drew := (Below.refl _ _).drew
        refine wpAnyM_takeC (i := 0) (v := ?_) 8 rfl (by kernel_rfl) (by kernel_rfl) (by kernel_rfl) (by kernel_rfl) (by kernel_rfl) (by kernel_rfl) (fun _ _ _ h => h) hS (.inl ⟨by rfl, ?_⟩) ?_
        rotate_left 1
        · intro w' hS'; go_simp; try with_reducible rfl
        simp only [Act.put, List.setIfInBounds_toArray, List.set_cons_succ, List.set_cons_zero, List.getElem_toArray, List.getElem_cons_zero]
        refine wpAnyM_takeC (i := 1) (v := ?_) 8 rfl (by kernel_rfl) (by kernel_rfl) (by kernel_rfl) (by kernel_rfl) (by kernel_rfl) (by kernel_rfl) (fun _ _ _ h => h) hS (.inl ⟨by rfl, ?_⟩) ?_
        rotate_left 1
        · intro w' hS'; go_simp; try with_reducible rfl
        simp only [Act.put, List.setIfInBounds_toArray, List.set_cons_succ, List.set_cons_zero, List.getElem_toArray, List.getElem_cons_succ, List.getElem_cons_zero]
        refine wpAnyM_takeC (i := 2) (v := ?_) 8 rfl (by kernel_rfl) (by kernel_rfl) (by kernel_rfl) (by kernel_rfl) (by kernel_rfl) (by kernel_rfl) (fun _ _ _ h => h) hS (.inl ⟨by rfl, ?_⟩) ?_
        rotate_left 1
        · intro w' hS'; go_simp; try with_reducible rfl
        simp only [Act.put, List.setIfInBounds_toArray, List.set_cons_succ, List.set_cons_zero, List.getElem_toArray, List.getElem_cons_succ, List.getElem_cons_zero]
        refine wpAnyM_takeC (i := 3) (v := ?_) 8 rfl (by kernel_rfl) (by kernel_rfl) (by kernel_rfl) (by kernel_rfl) (by kernel_rfl) (by kernel_rfl) (fun _ _ _ h => h) hS (.inl ⟨by rfl, ?_⟩) ?_
        rotate_left 1
        · intro w' hS'; go_simp; try with_reducible rfl
        simp only [Act.put, List.setIfInBounds_toArray, List.set_cons_succ, List.set_cons_zero, List.getElem_toArray, List.getElem_cons_succ, List.getElem_cons_zero]
        refine wpAnyM_takeC (i := 4) (v := ?_) 8 rfl (by kernel_rfl) (by kernel_rfl) (by kernel_rfl) (by kernel_rfl) (by kernel_rfl) (by kernel_rfl) (fun _ _ _ h => h) hS (.inl ⟨by rfl, ?_⟩) ?_
        rotate_left 1
        · intro w' hS'; go_simp; try with_reducible rfl
        simp only [Act.put, List.setIfInBounds_toArray, List.set_cons_succ, List.set_cons_zero, List.getElem_toArray, List.getElem_cons_succ, List.getElem_cons_zero]
        refine wpAnyM_takeC (i := 5) (v := ?_) 8 rfl (by kernel_rfl) (by kernel_rfl) (by kernel_rfl) (by kernel_rfl) (by kernel_rfl) (by kernel_rfl) (fun _ _ _ h => h) hS (.inl ⟨by rfl, ?_⟩) ?_
        rotate_left 1
        · intro w' hS'; go_simp; try with_reducible rfl
        simp only [Act.put, List.setIfInBounds_toArray, List.set_cons_succ, List.set_cons_zero, List.getElem_toArray, List.getElem_cons_succ, List.getElem_cons_zero]
        refine wpAnyM_takeC (i := 6) (v := ?_) 8 rfl (by kernel_rfl) (by kernel_rfl) (by kernel_rfl) (by kernel_rfl) (by kernel_rfl) (by kernel_rfl) (fun _ _ _ h => h) hS (.inl ⟨by rfl, ?_⟩) ?_
        rotate_left 1
        · intro w' hS'; go_simp; try with_reducible rfl
        simp only [Act.put, List.setIfInBounds_toArray, List.set_cons_succ, List.set_cons_zero, List.getElem_toArray, List.getElem_cons_succ, List.getElem_cons_zero]
        refine wpAnyM_one (i := 7) (by kernel_rfl) rfl (by rfl) (fun K hK => ?_)
        go_simp
        refine (hP.out w'.drew hS).mono ?_
        rintro e w4 ⟨rfl, hb4⟩
        replace hS : Below w'.heap.size w' w4 := hS.trans (hb4.mono hS.size)
        refine hK _ _ (.inr hS) ?_
        try simp only [Act.put, List.setIfInBounds_toArray, List.set_cons_succ, List.set_cons_zero, List.getElem_toArray, List.getElem_cons_succ, List.getElem_cons_zero]
        clear hK K
        refine wpAnyM_one (i := 8) (by kernel_rfl) rfl (by rfl) (fun K hK => ?_)
        go_simp
        refine hK _ _ (.inl rfl) ?_
        clear hK K
        try simp only [Act.put, List.setIfInBounds_toArray, List.set_cons_succ, List.set_cons_zero, List.getElem_toArray, List.getElem_cons_succ, List.getElem_cons_zero]
        refine wpAnyM_one (i := 9) (by kernel_rfl) rfl (by rfl) (fun K hK => ?_)
        go_simp
        refine hK _ _ (.inl rfl) ?_
        clear hK K
        refine wpAnyM_done (by kernel_rfl) ?_ _
        try simp only [Act.put, List.setIfInBounds_toArray, List.set_cons_succ, List.set_cons_zero, List.getElem_toArray, List.getElem_cons_succ, List.getElem_cons_zero]
        go_wp2
        go_ret
        exact ⟨by rw [HR.out]; rfl, hbel2.trans (hS.mono hz2)⟩
end Go.Proofs.YtgfopieojpjddaaDoor
