/-
  spec.NegateAccumulator, WidenAccumulator.
-/
import Derived.Test.YtiogbpnnnpodkaaDoorSetS
import Derived.Deep.Cut
namespace Go.Proofs.YtiogbpnnnpodkaaDoor
open Go.RowKit

set_option maxRecDepth 100000 in
set_option maxHeartbeats 4000000 in
theorem specNegateAccumulator (xB : Int) (xA : Option Addr) (xC : Nat) (xZ : List Int) (w : World) (ha : Rd w xA xZ) (_ : All64 xZ) (b : I64 xB) :
    Calls Tryd.prog 23 #[.agg #[.int .i64 xB, .slice xA xZ.length xC]] w (RegC (negR xB xZ) w) := by
  have R := Tryd.results23
  have hbel : Below w.heap.size w w := Below.refl _ _
  cases h : accB xB xZ with
  | false =>
    have HR := Lib.hid (show negR xB xZ = (0, [], 1) by simp [negR, h])
    go_enter Tryd.func23, Tryd.ntmps23
    go_wp2_with fail
    obtain ⟨p, hp⟩ : ∃ g, g = w.heap.size := ⟨_, rfl⟩
    have hk_p : w.heap.size ≤ p := Nat.le_of_eq hp.symm
    obtain ⟨u, hu⟩ : ∃ V, V = (w.alloc (.cells #[.int .i64 xB, .slice xA xZ.length xC] 24)).alloc (.cells #[.int .i64 0, .slice none 0 0] 24) := ⟨_, rfl⟩
    have b_p : Bx u p 24 #[.int .i64 xB, .slice xA xZ.length xC] := by rw [hu, hp]; exact (Bx.new _ _ _).alloc _
    have b_p1 : Bx u (p + 1) 24 #[.int .i64 0, .slice none 0 0] := by rw [hu, hp]; simpa using Bx.new (w.alloc (.cells #[.int .i64 xB, .slice xA xZ.length xC] 24)) #[.int .i64 0, .slice none 0 0] 24
    have hb : Below w.heap.size w u := by rw [hu]; exact ((Below.refl _ _).alloc (Nat.le_refl _) _).alloc (by simp) _
    rw [← hp, ← hu]
    clear hu hp
    replace ha := ha.below hb
    replace hbel := hbel.trans (hb.mono hbel.size)
    clear hb
    refine (l09Ok_at p xB xA xC xZ u h ha (b_p.at_ 0 rfl) (b_p.at_ 1 rfl)).mono ?_
    rintro e v ⟨rfl, hb⟩
    replace ha := ha.below hb
    replace b_p := b_p.below hb
    replace b_p1 := b_p1.below hb
    replace hbel := hbel.trans (hb.mono hbel.size)
    clear hb
    have r0 := b_p1.at_ 0 rfl
    have r1 := b_p1.at_ 1 rfl
    have f0 := b_p1.thaw 0
    have f1 := b_p1.thaw 1
    have hs := b_p1.lt
    have hbs := hbel.size
    clear h
    go_wp2
    exact bodyPost_ret (v := .tuple #[.agg #[.int .i64 0, .slice none 0 0], .int .i64 1]) (by simp [results, go_sem, r0, r1]) rfl
      (regC_err HR.out rfl (by repeat (first | with_reducible exact hbel | with_reducible refine Below.setCell ?_ (by first | omega | (simp <;> omega)) _ | with_reducible refine Below.alloc ?_ (by first | omega | (simp <;> omega)) _ | with_reducible refine Below.drew ?_)))
  | true =>
    have hf := accB_full h
    have hc := cntA_bd hf
    have hi := numA_in h
    have HR := Lib.hid (show negR xB xZ = setAR xB xZ.length (-(numA xB xZ)) by simp [negR, h])
    have hlen := (okB_spec (accB_spec h).1).2.2.2.1
    have H := Lib.hid h
    obtain ⟨y, hy⟩ : ∃ y, y = numA xB xZ := ⟨_, rfl⟩
    have HY := Lib.hid hy.symm
    rw [← hy] at HR hi
    have hy1 : -1000000000001 ≤ y ∧ y ≤ 1000000000001 := by omega
    have hw1 : IntKind.i64.wrap (-y) = -y := IntWalk.i64_in _ (by omega)
    have hw2 : wrap64 (-y) = -y := by unfold wrap64; omega
    clear hy hi hc hf h
    go_enter Tryd.func23, Tryd.ntmps23
    go_wp2_with fail
    obtain ⟨p, hp⟩ : ∃ g, g = w.heap.size := ⟨_, rfl⟩
    have hk_p : w.heap.size ≤ p := Nat.le_of_eq hp.symm
    obtain ⟨u, hu⟩ : ∃ V, V = (w.alloc (.cells #[.int .i64 xB, .slice xA xZ.length xC] 24)).alloc (.cells #[.int .i64 0, .slice none 0 0] 24) := ⟨_, rfl⟩
    have b_p : Bx u p 24 #[.int .i64 xB, .slice xA xZ.length xC] := by rw [hu, hp]; exact (Bx.new _ _ _).alloc _
    have b_p1 : Bx u (p + 1) 24 #[.int .i64 0, .slice none 0 0] := by rw [hu, hp]; simpa using Bx.new (w.alloc (.cells #[.int .i64 xB, .slice xA xZ.length xC] 24)) #[.int .i64 0, .slice none 0 0] 24
    have hb : Below w.heap.size w u := by rw [hu]; exact ((Below.refl _ _).alloc (Nat.le_refl _) _).alloc (by simp) _
    rw [← hp, ← hu]
    clear hu hp
    replace ha := ha.below hb
    replace hbel := hbel.trans (hb.mono hbel.size)
    clear hb
    refine (l09Ok_at p xB xA xC xZ u H.out ha (b_p.at_ 0 rfl) (b_p.at_ 1 rfl)).mono ?_
    rintro e v ⟨rfl, hb⟩
    replace ha := ha.below hb
    replace b_p := b_p.below hb
    replace b_p1 := b_p1.below hb
    replace hbel := hbel.trans (hb.mono hbel.size)
    clear hb
    go_upto_region 3 with fail
    have k0 := kept_all (b_p.at_ 0 rfl)
    have k1 := kept_all (b_p.at_ 1 rfl)
    have hS : Below v.heap.size v v.drew := (Below.refl _ _).drew
    refine wp_region_marked (fun w' => Below v.heap.size v w') 10 (by kernel_rfl) ?_
    refine wpAnyM_take (i := 0) (v := ?_) rfl (by kernel_rfl) (by kernel_rfl) (by kernel_rfl) (by kernel_rfl) (by kernel_rfl) (fun _ _ _ h => h) hS (.inl ⟨by rfl, ?_⟩) ?_
    rotate_left 1
    · intro w' hS'; go_simp; try with_reducible rfl
    simp only [Act.put, List.setIfInBounds_toArray, List.set_cons_succ, List.set_cons_zero, List.getElem_toArray, List.getElem_cons_zero]
    refine wpAnyM_take (i := 1) (v := ?_) rfl (by kernel_rfl) (by kernel_rfl) (by kernel_rfl) (by kernel_rfl) (by kernel_rfl) (fun _ _ _ h => h) hS (.inl ⟨by rfl, ?_⟩) ?_
    rotate_left 1
    · intro w' hS'; go_simp; try with_reducible rfl
    simp only [Act.put, List.setIfInBounds_toArray, List.set_cons_succ, List.set_cons_zero, List.getElem_toArray, List.getElem_cons_succ, List.getElem_cons_zero]
    refine wpAnyM_take (i := 2) (v := ?_) rfl (by kernel_rfl) (by kernel_rfl) (by kernel_rfl) (by kernel_rfl) (by kernel_rfl) (fun _ _ _ h => h) hS (.inl ⟨by rfl, ?_⟩) ?_
    rotate_left 1
    · intro w' hS'; go_simp; try with_reducible rfl
    simp only [Act.put, List.setIfInBounds_toArray, List.set_cons_succ, List.set_cons_zero, List.getElem_toArray, List.getElem_cons_succ, List.getElem_cons_zero]
    refine wpAnyM_take (i := 3) (v := ?_) rfl (by kernel_rfl) (by kernel_rfl) (by kernel_rfl) (by kernel_rfl) (by kernel_rfl) (fun _ _ _ h => h) hS (.inl ⟨by rfl, ?_⟩) ?_
    rotate_left 1
    · intro w' hS'; go_simp; try with_reducible rfl
    simp only [Act.put, List.setIfInBounds_toArray, List.set_cons_succ, List.set_cons_zero, List.getElem_toArray, List.getElem_cons_succ, List.getElem_cons_zero]
    refine wpAnyM_take (i := 4) (v := ?_) rfl (by kernel_rfl) (by kernel_rfl) (by kernel_rfl) (by kernel_rfl) (by kernel_rfl) (fun _ _ _ h => h) hS (.inl ⟨by rfl, ?_⟩) ?_
    rotate_left 1
    · intro w' hS'; go_simp; try with_reducible rfl
    simp only [Act.put, List.setIfInBounds_toArray, List.set_cons_succ, List.set_cons_zero, List.getElem_toArray, List.getElem_cons_succ, List.getElem_cons_zero]
    refine wpAnyM_one (i := 5) (by kernel_rfl) rfl (by rfl) (fun K hK => ?_)
    go_simp
    refine (l09Number_any p xB xA xC xZ v.drew H.out (ha.below hS) (k0 _ hS) (k1 _ hS)).mono ?_
    rintro e M ⟨rfl, hb⟩
    rw [HY.out]
    replace hS : Below v.heap.size v M := hS.trans (hb.mono hS.size)
    refine hK _ _ (.inr hS) ?_
    try simp only [Act.put, List.setIfInBounds_toArray, List.set_cons_succ, List.set_cons_zero, List.getElem_toArray, List.getElem_cons_succ, List.getElem_cons_zero]
    clear hK K hb
    refine wpAnyM_take (i := 6) (v := ?_) rfl (by kernel_rfl) (by kernel_rfl) (by kernel_rfl) (by kernel_rfl) (by kernel_rfl) (fun _ _ _ h => h) hS (.inl ⟨by rfl, ?_⟩) ?_
    rotate_left 1
    · intro w' hS'; go_simp; try with_reducible rfl
    simp only [Act.put, List.setIfInBounds_toArray, List.set_cons_succ, List.set_cons_zero, List.getElem_toArray, List.getElem_cons_succ, List.getElem_cons_zero]
    refine wpAnyM_one (i := 7) (by kernel_rfl) rfl (by rfl) (fun K hK => ?_)
    go_simp
    refine (specSetAccumulator xB xZ.length (-y) M b (i64_of (by omega) (by omega)) (i64_of (by omega) (by omega))).mono ?_
    rintro e N ⟨A, C, rfl, own, hb⟩
    rw [← HR.out] at own ⊢
    have hvM := hS.size
    replace hS : Below v.heap.size v N := hS.trans (hb.mono hS.size)
    have hvs := hb.size
    refine hK _ _ (.inr hS) ?_
    try simp only [Act.put, List.setIfInBounds_toArray, List.set_cons_succ, List.set_cons_zero, List.getElem_toArray, List.getElem_cons_succ, List.getElem_cons_zero]
    clear hK K hb
    refine wpAnyM_take (i := 8) (v := ?_) rfl (by kernel_rfl) (by kernel_rfl) (by kernel_rfl) (by kernel_rfl) (by kernel_rfl) (fun _ _ _ h => h) hS (.inl ⟨by rfl, ?_⟩) ?_
    rotate_left 1
    · intro w' hS'; go_simp; try with_reducible rfl
    simp only [Act.put, List.setIfInBounds_toArray, List.set_cons_succ, List.set_cons_zero, List.getElem_toArray, List.getElem_cons_succ, List.getElem_cons_zero]
    refine wpAnyM_take (i := 9) (v := ?_) rfl (by kernel_rfl) (by kernel_rfl) (by kernel_rfl) (by kernel_rfl) (by kernel_rfl) (fun _ _ _ h => h) hS (.inl ⟨by rfl, ?_⟩) ?_
    rotate_left 1
    · intro w' hS'; go_simp; try with_reducible rfl
    simp only [Act.put, List.setIfInBounds_toArray, List.set_cons_succ, List.set_cons_zero, List.getElem_toArray, List.getElem_cons_succ, List.getElem_cons_zero]
    have hpl : p + 1 < v.heap.size := b_p1.lt
    replace b_p1 := b_p1.below hS
    replace hbel := hbel.trans (hS.mono hbel.size)
    have r0 := b_p1.at_ 0 rfl
    have r1 := b_p1.at_ 1 rfl
    have f0 := b_p1.thaw 0
    have f1 := b_p1.thaw 1
    have hs := b_p1.lt
    have hbs := hbel.size
    refine wpAnyM_one (i := 10) (by kernel_rfl) rfl (by rfl) (fun K hK => ?_)
    go_simp
    refine hK _ _ (.inl rfl) ?_
    try simp only [Act.put, List.setIfInBounds_toArray, List.set_cons_succ, List.set_cons_zero, List.getElem_toArray, List.getElem_cons_succ, List.getElem_cons_zero]
    clear hK K
    refine wpAnyM_one (i := 11) (by kernel_rfl) rfl (by rfl) (fun K hK => ?_)
    go_simp
    refine hK _ _ (.inl rfl) ?_
    clear hK K
    refine wpAnyM_done (by kernel_rfl) ?_ _
    try simp only [Act.put, List.setIfInBounds_toArray, List.set_cons_succ, List.set_cons_zero, List.getElem_toArray, List.getElem_cons_succ, List.getElem_cons_zero]
    go_wp2
    exact bodyPost_ret (v := .tuple #[.agg #[.int .i64 (negR xB xZ).1, .slice A (negR xB xZ).2.1.length C], .int .i64 (negR xB xZ).2.2]) (by simp [results, go_sem, r0, r1]) rfl
      ⟨A, C, rfl, ((own.setCell (p := ⟨p + 1, 0, none⟩) (.inl (by simp; omega)) _).setCell (p := ⟨p + 1, 1, none⟩) (.inl (by simp; omega)) _).wide (by have := hk_p; omega) (by simp), (by repeat (first | with_reducible exact hbel | with_reducible refine Below.setCell ?_ (by first | omega | (simp <;> omega)) _ | with_reducible refine Below.alloc ?_ (by first | omega | (simp <;> omega)) _ | with_reducible refine Below.drew ?_))⟩

set_option maxRecDepth 100000 in
set_option maxHeartbeats 4000000 in
theorem specWidenAccumulator (xB : Int) (xA : Option Addr) (xC : Nat) (xZ : List Int) (n : Int) (w : World) (ha : Rd w xA xZ) (_ : All64 xZ) (_ : I64 xB) (_ : I64 n) :
    Calls Tryd.prog 35 #[.agg #[.int .i64 xB, .slice xA xZ.length xC], .int .i64 n] w (RegC (widR xB xZ n) w) := by
  have R := Tryd.results35
  have hbel : Below w.heap.size w w := Below.refl _ _
  have hlx := ha.len
  cases h : accB xB xZ with
  | false =>
    have HR := Lib.hid (show widR xB xZ n = (0, [], 1) by simp [widR, h])
    have H := Lib.hid h
    clear h
    go_enter Tryd.func35, Tryd.ntmps35
    go_wp2_with fail
    obtain ⟨p, hp⟩ : ∃ g, g = w.heap.size := ⟨_, rfl⟩
    have hk_p : w.heap.size ≤ p := Nat.le_of_eq hp.symm
    obtain ⟨u, hu⟩ : ∃ V, V = (w.alloc (.cells #[.int .i64 xB, .slice xA xZ.length xC] 24)).alloc (.cells #[.int .i64 0, .slice none 0 0] 24) := ⟨_, rfl⟩
    have b_p : Bx u p 24 #[.int .i64 xB, .slice xA xZ.length xC] := by rw [hu, hp]; exact (Bx.new _ _ _).alloc _
    have b_p1 : Bx u (p + 1) 24 #[.int .i64 0, .slice none 0 0] := by rw [hu, hp]; simpa using Bx.new (w.alloc (.cells #[.int .i64 xB, .slice xA xZ.length xC] 24)) #[.int .i64 0, .slice none 0 0] 24
    have hb : Below w.heap.size w u := by rw [hu]; exact ((Below.refl _ _).alloc (Nat.le_refl _) _).alloc (by simp) _
    rw [← hp, ← hu]
    clear hu hp
    replace ha := ha.below hb
    replace hbel := hbel.trans (hb.mono hbel.size)
    clear hb
    refine (l09Ok_at p xB xA xC xZ u H.out ha (b_p.at_ 0 rfl) (b_p.at_ 1 rfl)).mono ?_
    rintro e v ⟨rfl, hb⟩
    replace ha := ha.below hb
    replace b_p := b_p.below hb
    replace b_p1 := b_p1.below hb
    replace hbel := hbel.trans (hb.mono hbel.size)
    clear hb
    have r0 := b_p1.at_ 0 rfl
    have r1 := b_p1.at_ 1 rfl
    have f0 := b_p1.thaw 0
    have f1 := b_p1.thaw 1
    have hs := b_p1.lt
    have hbs := hbel.size
    go_wp2
    exact bodyPost_ret (v := .tuple #[.agg #[.int .i64 0, .slice none 0 0], .int .i64 1]) (by simp [results, go_sem, r0, r1]) rfl
      (regC_err HR.out rfl (by repeat (first | with_reducible exact hbel | with_reducible refine Below.setCell ?_ (by first | omega | (simp <;> omega)) _ | with_reducible refine Below.alloc ?_ (by first | omega | (simp <;> omega)) _ | with_reducible refine Below.drew ?_)))
  | true =>
    have H := Lib.hid h
    have hlen := (okB_spec (accB_spec h).1).2.2.2.1
    have hlen0 := (okB_spec (accB_spec h).1).2.2.1
    have hB := (okB_spec (accB_spec h).1).1
    have hB2 := (okB_spec (accB_spec h).1).2.1
    cases hn : inB n xZ.length 16 with
    | false =>
      have HR := Lib.hid (show widR xB xZ n = (0, [], 2) by rw [widR, if_pos h, if_neg (by have := inB_false hn; omega)])
      have HI := Lib.hid (fun w => l00In_false n xZ.length 16 w (inB_false hn))
      clear h hn
      go_enter Tryd.func35, Tryd.ntmps35
      go_wp2_with fail
      obtain ⟨p, hp⟩ : ∃ g, g = w.heap.size := ⟨_, rfl⟩
      have hk_p : w.heap.size ≤ p := Nat.le_of_eq hp.symm
      obtain ⟨u, hu⟩ : ∃ V, V = (w.alloc (.cells #[.int .i64 xB, .slice xA xZ.length xC] 24)).alloc (.cells #[.int .i64 0, .slice none 0 0] 24) := ⟨_, rfl⟩
      have b_p : Bx u p 24 #[.int .i64 xB, .slice xA xZ.length xC] := by rw [hu, hp]; exact (Bx.new _ _ _).alloc _
      have b_p1 : Bx u (p + 1) 24 #[.int .i64 0, .slice none 0 0] := by rw [hu, hp]; simpa using Bx.new (w.alloc (.cells #[.int .i64 xB, .slice xA xZ.length xC] 24)) #[.int .i64 0, .slice none 0 0] 24
      have hb : Below w.heap.size w u := by rw [hu]; exact ((Below.refl _ _).alloc (Nat.le_refl _) _).alloc (by simp) _
      rw [← hp, ← hu]
      clear hu hp
      replace ha := ha.below hb
      replace hbel := hbel.trans (hb.mono hbel.size)
      clear hb
      refine (l09Ok_at p xB xA xC xZ u H.out ha (b_p.at_ 0 rfl) (b_p.at_ 1 rfl)).mono ?_
      rintro e v ⟨rfl, hb⟩
      replace ha := ha.below hb
      replace b_p := b_p.below hb
      replace b_p1 := b_p1.below hb
      replace hbel := hbel.trans (hb.mono hbel.size)
      clear hb
      have c0 := b_p.at_ 0 rfl
      have c1 := b_p.at_ 1 rfl
      go_wp2_with fail
      refine (HI.out v).mono ?_
      rintro e v2 ⟨rfl, hw⟩
      subst v2
      clear c0 c1
      have r0 := b_p1.at_ 0 rfl
      have r1 := b_p1.at_ 1 rfl
      have f0 := b_p1.thaw 0
      have f1 := b_p1.thaw 1
      have hs := b_p1.lt
      have hbs := hbel.size
      go_wp2
      exact bodyPost_ret (v := .tuple #[.agg #[.int .i64 0, .slice none 0 0], .int .i64 2]) (by simp [results, go_sem, r0, r1]) rfl
        (regC_err HR.out rfl (by repeat (first | with_reducible exact hbel | with_reducible refine Below.setCell ?_ (by first | omega | (simp <;> omega)) _ | with_reducible refine Below.alloc ?_ (by first | omega | (simp <;> omega)) _ | with_reducible refine Below.drew ?_)))
    | true =>
      obtain ⟨n1, n2⟩ := inB_true hn
      have HI := Lib.hid (fun w => l00In_true n xZ.length 16 w n1 n2)
      obtain ⟨m, rfl⟩ := Int.eq_ofNat_of_zero_le (show 0 ≤ n by omega)
      cases hf : fullB xB (m : Int) with
      | false =>
        have HR := Lib.hid (show widR xB xZ m = (0, [], 5) by rw [widR, if_pos h, if_pos ⟨n1, n2⟩, hf]; rfl)
        have HF := Lib.hid (fun w => l10Full_at (v := false) xB m w (by omega) hB2 (by omega) (by
          have := hf
          simp only [fullB, Int.toNat_natCast, decide_eq_false_iff_not] at this ⊢
          exact fun hh => this ⟨hB, hB2, by omega, by omega, hh⟩))
        clear h hn hf
        go_enter Tryd.func35, Tryd.ntmps35
        go_wp2_with fail
        obtain ⟨p, hp⟩ : ∃ g, g = w.heap.size := ⟨_, rfl⟩
        have hk_p : w.heap.size ≤ p := Nat.le_of_eq hp.symm
        obtain ⟨u, hu⟩ : ∃ V, V = (w.alloc (.cells #[.int .i64 xB, .slice xA xZ.length xC] 24)).alloc (.cells #[.int .i64 0, .slice none 0 0] 24) := ⟨_, rfl⟩
        have b_p : Bx u p 24 #[.int .i64 xB, .slice xA xZ.length xC] := by rw [hu, hp]; exact (Bx.new _ _ _).alloc _
        have b_p1 : Bx u (p + 1) 24 #[.int .i64 0, .slice none 0 0] := by rw [hu, hp]; simpa using Bx.new (w.alloc (.cells #[.int .i64 xB, .slice xA xZ.length xC] 24)) #[.int .i64 0, .slice none 0 0] 24
        have hb : Below w.heap.size w u := by rw [hu]; exact ((Below.refl _ _).alloc (Nat.le_refl _) _).alloc (by simp) _
        rw [← hp, ← hu]
        clear hu hp
        replace ha := ha.below hb
        replace hbel := hbel.trans (hb.mono hbel.size)
        clear hb
        refine (l09Ok_at p xB xA xC xZ u H.out ha (b_p.at_ 0 rfl) (b_p.at_ 1 rfl)).mono ?_
        rintro e v ⟨rfl, hb⟩
        replace ha := ha.below hb
        replace b_p := b_p.below hb
        replace b_p1 := b_p1.below hb
        replace hbel := hbel.trans (hb.mono hbel.size)
        clear hb
        have c0 := b_p.at_ 0 rfl
        have c1 := b_p.at_ 1 rfl
        go_wp2_with fail
        refine (HI.out v).mono ?_
        rintro e v2 ⟨rfl, hw⟩
        subst v2
        go_wp2_with fail
        refine (HF.out v).mono ?_
        rintro e v2 ⟨rfl, hw⟩
        subst v2
        clear c0 c1
        have r0 := b_p1.at_ 0 rfl
        have r1 := b_p1.at_ 1 rfl
        have f0 := b_p1.thaw 0
        have f1 := b_p1.thaw 1
        have hs := b_p1.lt
        have hbs := hbel.size
        go_wp2
        exact bodyPost_ret (v := .tuple #[.agg #[.int .i64 0, .slice none 0 0], .int .i64 5]) (by simp [results, go_sem, r0, r1]) rfl
          (regC_err HR.out rfl (by repeat (first | with_reducible exact hbel | with_reducible refine Below.setCell ?_ (by first | omega | (simp <;> omega)) _ | with_reducible refine Below.alloc ?_ (by first | omega | (simp <;> omega)) _ | with_reducible refine Below.drew ?_)))
      | true =>
        have HR := Lib.hid (show widR xB xZ m = (xB, setA xB m (numA xB xZ), 0) by rw [widR, if_pos h, if_pos ⟨n1, n2⟩, if_pos hf])
        have HF := Lib.hid (fun w => l10Full_at (v := true) xB m w (by omega) hB2 (by omega) (decide_eq_true (by have := (fullB_spec hf).2.2.2.2; simpa using this)))
        have HG := Lib.hid hf
        clear h hn hf
        go_enter Tryd.func35, Tryd.ntmps35
        go_wp2_with fail
        obtain ⟨p, hp⟩ : ∃ g, g = w.heap.size := ⟨_, rfl⟩
        have hk_p : w.heap.size ≤ p := Nat.le_of_eq hp.symm
        obtain ⟨u, hu⟩ : ∃ V, V = (w.alloc (.cells #[.int .i64 xB, .slice xA xZ.length xC] 24)).alloc (.cells #[.int .i64 0, .slice none 0 0] 24) := ⟨_, rfl⟩
        have b_p : Bx u p 24 #[.int .i64 xB, .slice xA xZ.length xC] := by rw [hu, hp]; exact (Bx.new _ _ _).alloc _
        have b_p1 : Bx u (p + 1) 24 #[.int .i64 0, .slice none 0 0] := by rw [hu, hp]; simpa using Bx.new (w.alloc (.cells #[.int .i64 xB, .slice xA xZ.length xC] 24)) #[.int .i64 0, .slice none 0 0] 24
        have hb : Below w.heap.size w u := by rw [hu]; exact ((Below.refl _ _).alloc (Nat.le_refl _) _).alloc (by simp) _
        rw [← hp, ← hu]
        clear hu hp
        replace ha := ha.below hb
        replace hbel := hbel.trans (hb.mono hbel.size)
        clear hb
        refine (l09Ok_at p xB xA xC xZ u H.out ha (b_p.at_ 0 rfl) (b_p.at_ 1 rfl)).mono ?_
        rintro e v ⟨rfl, hb⟩
        replace ha := ha.below hb
        replace b_p := b_p.below hb
        replace b_p1 := b_p1.below hb
        replace hbel := hbel.trans (hb.mono hbel.size)
        clear hb
        have c0 := b_p.at_ 0 rfl
        have c1 := b_p.at_ 1 rfl
        go_wp2_with fail
        refine (HI.out v).mono ?_
        rintro e v2 ⟨rfl, hw⟩
        subst v2
        go_wp2_with fail
        refine (HF.out v).mono ?_
        rintro e v2 ⟨rfl, hw⟩
        subst v2
        clear c0 c1
        go_upto_region 7 with fail
        have k0 := kept_all (b_p.at_ 0 rfl)
        have k1 := kept_all (b_p.at_ 1 rfl)
        have hS : Below v.heap.size v v.drew := (Below.refl _ _).drew
        refine wp_region_marked (fun w' => Below v.heap.size v w') 5 (by kernel_rfl) ?_
        refine wpAnyM_take (i := 0) (v := ?_) rfl (by kernel_rfl) (by kernel_rfl) (by kernel_rfl) (by kernel_rfl) (by kernel_rfl) (fun _ _ _ h => h) hS (.inl ⟨by rfl, ?_⟩) ?_
        rotate_left 1
        · intro w' hS'; go_simp; try with_reducible rfl
        simp only [Act.put, List.setIfInBounds_toArray, List.set_cons_succ, List.set_cons_zero, List.getElem_toArray, List.getElem_cons_zero]
        refine wpAnyM_take (i := 1) (v := ?_) rfl (by kernel_rfl) (by kernel_rfl) (by kernel_rfl) (by kernel_rfl) (by kernel_rfl) (fun _ _ _ h => h) hS (.inl ⟨by rfl, ?_⟩) ?_
        rotate_left 1
        · intro w' hS'; go_simp; try with_reducible rfl
        simp only [Act.put, List.setIfInBounds_toArray, List.set_cons_succ, List.set_cons_zero, List.getElem_toArray, List.getElem_cons_succ, List.getElem_cons_zero]
        refine wpAnyM_take (i := 2) (v := ?_) rfl (by kernel_rfl) (by kernel_rfl) (by kernel_rfl) (by kernel_rfl) (by kernel_rfl) (fun _ _ _ h => h) hS (.inl ⟨by rfl, ?_⟩) ?_
        rotate_left 1
        · intro w' hS'; go_simp; try with_reducible rfl
        simp only [Act.put, List.setIfInBounds_toArray, List.set_cons_succ, List.set_cons_zero, List.getElem_toArray, List.getElem_cons_succ, List.getElem_cons_zero]
        refine wpAnyM_one (i := 3) (by kernel_rfl) rfl (by rfl) (fun K hK => ?_)
        go_simp
        refine (l09Number_any p xB xA xC xZ v.drew H.out (ha.below hS) (k0 _ hS) (k1 _ hS)).mono ?_
        rintro e M ⟨rfl, hb⟩
        replace hS : Below v.heap.size v M := hS.trans (hb.mono hS.size)
        refine hK _ _ (.inr hS) ?_
        try simp only [Act.put, List.setIfInBounds_toArray, List.set_cons_succ, List.set_cons_zero, List.getElem_toArray, List.getElem_cons_succ, List.getElem_cons_zero]
        clear hK K hb
        refine wpAnyM_one (i := 4) (by kernel_rfl) rfl (by rfl) (fun K hK => ?_)
        go_simp
        refine (l09Set_any xB m (numA xB xZ) M HG.out).mono ?_
        rintro e N ⟨A, C, rfl, own, hb⟩
        have hvM := hS.size
        replace hS : Below v.heap.size v N := hS.trans (hb.mono hS.size)
        have hvs := hb.size
        refine hK _ _ (.inr hS) ?_
        try simp only [Act.put, List.setIfInBounds_toArray, List.set_cons_succ, List.set_cons_zero, List.getElem_toArray, List.getElem_cons_succ, List.getElem_cons_zero]
        clear hK K hb
        have hpl : p + 1 < v.heap.size := b_p1.lt
        replace b_p1 := b_p1.below hS
        replace hbel := hbel.trans (hS.mono hbel.size)
        have r0 := b_p1.at_ 0 rfl
        have r1 := b_p1.at_ 1 rfl
        have f0 := b_p1.thaw 0
        have f1 := b_p1.thaw 1
        have hs := b_p1.lt
        have hbs := hbel.size
        refine wpAnyM_one (i := 5) (by kernel_rfl) rfl (by rfl) (fun K hK => ?_)
        go_simp
        refine hK _ _ (.inl rfl) ?_
        try simp only [Act.put, List.setIfInBounds_toArray, List.set_cons_succ, List.set_cons_zero, List.getElem_toArray, List.getElem_cons_succ, List.getElem_cons_zero]
        clear hK K
        refine wpAnyM_one (i := 6) (by kernel_rfl) rfl (by rfl) (fun K hK => ?_)
        go_simp
        refine hK _ _ (.inl rfl) ?_
        clear hK K
        refine wpAnyM_done (by kernel_rfl) ?_ _
        try simp only [Act.put, List.setIfInBounds_toArray, List.set_cons_succ, List.set_cons_zero, List.getElem_toArray, List.getElem_cons_succ, List.getElem_cons_zero]
        go_wp2
        exact bodyPost_ret (v := .tuple #[.agg #[.int .i64 xB, .slice A (setA xB m (numA xB xZ)).length C], .int .i64 0]) (by simp [results, go_sem, r0, r1]) rfl
          (regC_ok HR.out rfl ((own.setCell (p := ⟨p + 1, 0, none⟩) (.inl (by simp; omega)) _).setCell (p := ⟨p + 1, 1, none⟩) (.inl (by simp; omega)) _) (by have := hk_p; omega) (by simp) (by repeat (first | with_reducible exact hbel | with_reducible refine Below.setCell ?_ (by first | omega | (simp <;> omega)) _ | with_reducible refine Below.alloc ?_ (by first | omega | (simp <;> omega)) _ | with_reducible refine Below.drew ?_)))
end Go.Proofs.YtiogbpnnnpodkaaDoor
