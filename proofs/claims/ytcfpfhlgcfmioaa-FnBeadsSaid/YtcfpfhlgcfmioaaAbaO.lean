/-
  spec.l03Move, spec.MoveBeads.
-/
import Derived.Test.YtcfpfhlgcfmioaaAbaU
import Derived.Deep.Cut
import Derived.RegionTactic
namespace Go.Proofs.Ytcfpfhlgcfmioaa
open Go.RowKit

/-- What l03Move leaves: a code; the rods, moved or not; the abacus where it was. -/
def MovP (U L W : Int) (A : Option Addr) (C : Nat) (rs : List (Int × Int)) (x : Int × Int × Int) (lo hi p : Nat) (w : World) (e : Ending) (w' : World) : Prop :=
  e = .returned (.int .i64 (movC U L rs x)) ∧ OwnF pairF 102 w' lo hi (.slice A rs.length C) (if movC U L rs x = 0 then movL rs x else rs) ∧ AbaAt w' p U L W A rs.length C ∧ Below lo w w'
theorem movP_err {U L W c : Int} {A : Option Addr} {C : Nat} {rs : List (Int × Int)} {x : Int × Int × Int} {lo hi p : Nat} {w w' : World} {e : Ending} (h : movC U L rs x = c) (hc : c ≠ 0) (he : e = .returned (.int .i64 c))
    (ow : OwnF pairF 102 w lo hi (.slice A rs.length C) rs) (at0 : AbaAt w p U L W A rs.length C) (hl : lo ≤ w.heap.size) (hb : Below w.heap.size w w') : MovP U L W A C rs x lo hi p w e w' := by
  subst h
  exact ⟨he, by rw [if_neg hc]; exact ow.below hb, at0.below hb, hb.mono hl⟩
theorem movC_range {U L : Int} {rs : List (Int × Int)} {x : Int × Int × Int} (h : moveB rs.length x = false) : movC U L rs x = 2 := by simp [movC, h]
theorem movC_state {U L : Int} {rs : List (Int × Int)} {x : Int × Int × Int} (h : moveB rs.length x = true) (hr : rodB U L (movedRod rs x) = false) : movC U L rs x = 6 := by simp [movC, h, hr]
theorem movC_ok {U L : Int} {rs : List (Int × Int)} {x : Int × Int × Int} (h : moveB rs.length x = true) (hr : rodB U L (movedRod rs x) = true) : movC U L rs x = 0 := by simp [movC, h, hr]
theorem moveB_false {n : Nat} {x : Int × Int × Int} (h : moveB n x = false) : (x.1 < 0 ∨ (n : Int) - 1 < x.1) ∨ ((0 ≤ x.1 ∧ x.1 ≤ (n : Int) - 1) ∧ (x.2.1 < -4 ∨ 4 < x.2.1)) ∨ ((0 ≤ x.1 ∧ x.1 ≤ (n : Int) - 1) ∧ (-4 ≤ x.2.1 ∧ x.2.1 ≤ 4) ∧ (x.2.2 < -12 ∨ 12 < x.2.2)) := by
  simp only [moveB, decide_eq_false_iff_not] at h
  omega
theorem moveB_true {n : Nat} {x : Int × Int × Int} (h : moveB n x = true) : ∃ k : Nat, x.1 = k ∧ k < n ∧ (-4 ≤ x.2.1 ∧ x.2.1 ≤ 4) ∧ (-12 ≤ x.2.2 ∧ x.2.2 ≤ 12) := by
  simp only [moveB, decide_eq_true_eq] at h
  exact ⟨x.1.toNat, by omega, by omega, by omega, by omega⟩

set_option maxRecDepth 100000 in
set_option maxHeartbeats 2000000 in
theorem l03Move_any (p : Nat) (U L W : Int) (A : Option Addr) (C : Nat) (rs : List (Int × Int)) (x : Int × Int × Int) (lo hi : Nat) (w : World) (at0 : AbaAt w p U L W A rs.length C) (ow : OwnF pairF 102 w lo hi (.slice A rs.length C) rs)
    (hA : Aba U L W rs) (hl : lo ≤ w.heap.size) (hh : hi ≤ w.heap.size) (hpd : p < lo ∨ hi ≤ p) (_ : I64 x.1 ∧ I64 x.2.1 ∧ I64 x.2.2) :
    Calls Try.prog 85 #[.pointer (some ⟨p, 0, none⟩), .agg #[.int .i64 x.1, .int .i64 x.2.1, .int .i64 x.2.2]] w (MovP U L W A C rs x lo hi p w) := by
  have hxl := ow.len
  have hp : p < w.heap.size := World.block_lt_of_cell? _ _ at0.c0
  have hw : IntKind.i64.wrap ((rs.length : Int) - 1) = (rs.length : Int) - 1 := IntWalk.i64_in _ (by omega)
  have hbel : Below w.heap.size w (w.alloc (.cells #[.int .i64 x.1, .int .i64 x.2.1, .int .i64 x.2.2] 37)) := (by repeat (first | exact Below.refl _ _ | refine Below.setCell ?_ (by first | omega | (simp <;> omega)) _ | refine Below.alloc ?_ (by first | omega | (simp <;> omega)) _ | refine Below.drew ?_))
  cases hm : moveB rs.length x with
  | false =>
    have HR := Lib.hid (fun (w' : World) => movP_err (p := p) (w' := w') (A := A) (C := C) (W := W) (movC_range (U := U) (L := L) hm) (by decide) rfl ow at0 hl)
    obtain ⟨c0, c1, c2, c3⟩ := at0
    rcases moveB_false hm with h0 | ⟨h0, h1⟩ | ⟨h0, h1, h2⟩
    · have i0 := inB_no h0
      clear h0 hm
      go_enter Try.func85, Try.ntmps85
      go_wp2
      go_quiet ((go_at_call 76; exact Calls.quiet_of_same (l00In_any _ _ _ _)))
      go_wp2
      go_ret
      exact HR.out _ (by repeat (first | exact bel_drewN hbel _ | refine Below.setCell ?_ (by first | omega | (simp <;> omega)) _ | refine Below.alloc ?_ (by first | omega | (simp <;> omega)) _ | refine Below.drew ?_))
    · have i0 := inB_yes h0.1 h0.2
      have i1 := inB_no h1
      clear h0 h1 hm
      go_enter Try.func85, Try.ntmps85
      go_wp2
      go_quiet ((go_at_call 76; exact Calls.quiet_of_same (l00In_any _ _ _ _)))
      go_wp2
      go_ret
      exact HR.out _ (by repeat (first | exact bel_drewN hbel _ | refine Below.setCell ?_ (by first | omega | (simp <;> omega)) _ | refine Below.alloc ?_ (by first | omega | (simp <;> omega)) _ | refine Below.drew ?_))
    · have i0 := inB_yes h0.1 h0.2
      have i1 := inB_yes h1.1 h1.2
      have i2 := inB_no h2
      clear h0 h1 h2 hm
      go_enter Try.func85, Try.ntmps85
      go_wp2
      go_quiet ((go_at_call 76; exact Calls.quiet_of_same (l00In_any _ _ _ _)))
      go_wp2
      go_ret
      exact HR.out _ (by repeat (first | exact bel_drewN hbel _ | refine Below.setCell ?_ (by first | omega | (simp <;> omega)) _ | refine Below.alloc ?_ (by first | omega | (simp <;> omega)) _ | refine Below.drew ?_))
  | true =>
    obtain ⟨k, hk, hkl, h1, h2⟩ := moveB_true hm
    have i0 : inB (k : Int) 0 ((rs.length : Int) - 1) = true := inB_yes (by omega) (by omega)
    have i1 := inB_yes h1.1 h1.2
    have i2 := inB_yes h2.1 h2.2
    have hv := rodB_true (rodsB_true hA.rods _ (elt_mem (F := pairF) hkl))
    have hu1 := hA.u1
    have hl1 := hA.l1
    obtain ⟨r, hr⟩ : ∃ r, r = movedRod rs x := ⟨_, rfl⟩
    have hr1 : r.1 = (elt pairF rs k).1 + x.2.1 := by simp [hr, movedRod, hk]
    have hr2 : r.2 = (elt pairF rs k).2 + x.2.2 := by simp [hr, movedRod, hk]
    have w1 : IntKind.i64.wrap ((elt pairF rs k).1 + x.2.1) = r.1 := by rw [hr1]; exact IntWalk.i64_in _ (by omega)
    have w2 : IntKind.i64.wrap ((elt pairF rs k).2 + x.2.2) = r.2 := by rw [hr2]; exact IntWalk.i64_in _ (by omega)
    have HM := Lib.hid hm
    have HRE := Lib.hid hr
    have HKE := Lib.hid hk
    obtain ⟨gb, rfl, l1, l2, l3⟩ := ow.head (by omega)
    obtain ⟨V0, hV0⟩ : ∃ V0, V0 = w.alloc (.cells #[.int .i64 x.1, .int .i64 x.2.1, .int .i64 x.2.2] 37) := ⟨_, rfl⟩
    have bm : Bx V0 w.heap.size 37 #[.int .i64 k, .int .i64 x.2.1, .int .i64 x.2.2] := by rw [hV0, ← hk]; exact Bx.new _ _ _
    have hb0 : Below w.heap.size w V0 := by rw [hV0]; exact hbel
    have HV0 := Lib.hid hV0
    clear hm hr hk hv h1 h2 hr1 hr2 hV0 hbel
    have hz0 := bm.lt
    have at1 := at0.below hb0
    have ow1 := ow.below hb0
    obtain ⟨c0, c1, c2, c3⟩ := at1
    have m0 := bm.at_ 0 rfl
    have m1 := bm.at_ 1 rfl
    have m2 := bm.at_ 2 rfl
    go_enter Try.func85, Try.ntmps85
    go_upto_region 1 with fail
    rw [← HV0.out]
    go_quiet ((go_at_call 76; exact Calls.quiet_of_same (l00In_any _ _ _ _)))
    go_upto_region 3 with fail
    obtain ⟨V1, hV1⟩ : ∃ V1, V1 = V0.drewN nq := ⟨_, rfl⟩
    rw [← hV1]
    have hb1 : Below V0.heap.size V0 V1 := by rw [hV1]; exact bel_drewN (Below.refl _ _) nq
    clear hV1 c0 c1 c2 c3 m0 m1 m2 HV0
    replace at0 := (at0.below hb0).below hb1
    replace ow := ow1.below hb1
    replace bm := bm.below hb1
    replace hb0 := hb0.trans (hb1.mono hb0.size)
    have hz1 : w.heap.size < V1.heap.size := bm.lt
    clear hb1 ow1 hz0
    obtain ⟨g0, g1⟩ := ow.get2 (k := k) hkl
    have k0 := kept_all at0.c3
    have k1 := kept_all (p := ⟨w.heap.size, 0, none⟩) (v := .int .i64 (k : Int)) (bm.at_ 0 rfl)
    have k2 := kept_all g0
    have k3 := kept_all g1
    clear g0 g1
    refine wp_region_marked (fun w' => Below V1.heap.size V1 w') 9 (by kernel_rfl) ?_
    have hS : Below V1.heap.size V1 V1.drew := (Below.refl _ _).drew
    refine wpAnyM_take (i := 0) (v := ?_) rfl (by kernel_rfl) (by kernel_rfl) (by kernel_rfl) (by kernel_rfl) (by kernel_rfl) (fun _ _ _ h => h) hS (.inl ⟨by rfl, ?_⟩) ?_
    rotate_left 1
    · intro w' hS'; go_simp; try with_reducible rfl
    simp only [Act.put, List.setIfInBounds_toArray]
    refine wpAnyM_take (i := 1) (v := ?_) rfl (by kernel_rfl) (by kernel_rfl) (by kernel_rfl) (by kernel_rfl) (by kernel_rfl) (fun _ _ _ h => h) hS (.inl ⟨by rfl, ?_⟩) ?_
    rotate_left 1
    · intro w' hS'; go_simp; try with_reducible rfl
    simp only [Act.put]
    refine wpAnyM_take (i := 2) (v := ?_) rfl (by kernel_rfl) (by kernel_rfl) (by kernel_rfl) (by kernel_rfl) (by kernel_rfl) (fun _ _ _ h => h) hS (.inl ⟨by rfl, ?_⟩) ?_
    rotate_left 1
    · intro w' hS'; go_simp; try with_reducible rfl
    simp only [Act.put]
    refine wpAnyM_take (i := 3) (v := ?_) rfl (by kernel_rfl) (by kernel_rfl) (by kernel_rfl) (by kernel_rfl) (by kernel_rfl) (fun _ _ _ h => h) hS (.inl ⟨by rfl, ?_⟩) ?_
    rotate_left 1
    · intro w' hS'; go_simp; try with_reducible rfl
    simp only [Act.put]
    refine wpAnyM_take (i := 4) (v := ?_) rfl (by kernel_rfl) (by kernel_rfl) (by kernel_rfl) (by kernel_rfl) (by kernel_rfl) (fun _ _ _ h => h) hS (.inl ⟨by rfl, ?_⟩) ?_
    rotate_left 1
    · intro w' hS'; go_simp; try with_reducible rfl
    simp only [Act.put]
    refine wpAnyM_take (i := 5) (v := ?_) rfl (by kernel_rfl) (by kernel_rfl) (by kernel_rfl) (by kernel_rfl) (by kernel_rfl) (fun _ _ _ h => h) hS (.inl ⟨by rfl, ?_⟩) ?_
    rotate_left 1
    · intro w' hS'; go_simp; try with_reducible rfl
    simp only [Act.put]
    refine wpAnyM_take (i := 6) (v := ?_) rfl (by kernel_rfl) (by kernel_rfl) (by kernel_rfl) (by kernel_rfl) (by kernel_rfl) (fun _ _ _ h => h) hS (.inl ⟨by rfl, ?_⟩) ?_
    rotate_left 1
    · intro w' hS'; go_simp; try with_reducible rfl
    simp only [Act.put]
    refine wpAnyM_take (i := 7) (v := ?_) rfl (by kernel_rfl) (by kernel_rfl) (by kernel_rfl) (by kernel_rfl) (by kernel_rfl) (fun _ _ _ h => h) hS (.inl ⟨by rfl, ?_⟩) ?_
    rotate_left 1
    · intro w' hS'; go_simp; try with_reducible rfl
    simp only [Act.put]
    clear k0 k1 k2 k3
    refine wpAnyM_one (i := 8) (by kernel_rfl) rfl (by rfl) (fun K hK => ?_)
    go_simp
    have bz := Bx.new V1.drew #[.int .i64 0, .int .i64 0] 102
    replace hS : Below V1.heap.size V1 (V1.drew.alloc (.cells #[.int .i64 0, .int .i64 0] 102)) := hS.alloc (Nat.le_refl _) _
    refine hK _ _ (.inr hS) ?_
    try simp only [Act.put, List.setIfInBounds_toArray]
    clear hK K
    refine wpAnyM_one (i := 9) (by kernel_rfl) rfl (by rfl) (fun K hK => ?_)
    go_simp
    refine hK _ _ (.inl rfl) ?_
    clear hK K
    refine wpAnyM_done (by kernel_rfl) ?_ _
    obtain ⟨V2, hV2⟩ : ∃ V2, V2 = (V1.alloc (.cells #[.int .i64 (elt pairF rs k).1, .int .i64 (elt pairF rs k).2] 102)).drew := ⟨_, rfl⟩
    rw [← hV2]
    have hb2 : Below V1.heap.size V1 V2 := by rw [hV2]; exact ((Below.refl _ _).alloc (Nat.le_refl _) _).drew
    replace bz : Bx V2 V1.heap.size 102 #[.int .i64 (elt pairF rs k).1, .int .i64 (elt pairF rs k).2] := by rw [hV2]; exact (Bx.new _ _ _).drew
    clear hV2 hS
    replace at0 := at0.below hb2
    replace ow := ow.below hb2
    replace bm := bm.below hb2
    replace hb0 := hb0.trans (hb2.mono hb0.size)
    clear hb2
    have m1 := bm.at_ 1 rfl
    have m2 := bm.at_ 2 rfl
    have q0 := bz.at_ 0 rfl
    have q1 := bz.at_ 1 rfl
    have t0 := bz.thaw 0
    have t1 := bz.thaw 1
    have hpz : p < V1.heap.size := by omega
    have hhV : hi ≤ V1.heap.size := by omega
    go_upto_region 6 with fail
    obtain ⟨V3, hV3⟩ : ∃ V3, V3 = (V2.setCell ⟨V1.heap.size, 0, none⟩ (.int .i64 r.1)).setCell ⟨V1.heap.size, 1, none⟩ (.int .i64 r.2) := ⟨_, rfl⟩
    rw [← hV3]
    replace at0 : AbaAt V3 p U L W (some ⟨gb, 0, none⟩) rs.length C := by rw [hV3]; exact (at0.far (Nat.ne_of_lt hpz) _).far (Nat.ne_of_lt hpz) _
    replace ow : OwnF pairF 102 V3 lo hi (.slice (some ⟨gb, 0, none⟩) rs.length C) rs := by rw [hV3]; exact (ow.setCell (.inr hhV) _).setCell (.inr hhV) _
    replace bm : Bx V3 w.heap.size 37 #[.int .i64 k, .int .i64 x.2.1, .int .i64 x.2.2] := by rw [hV3]; exact (bm.far (Nat.ne_of_lt hz1) _).far (Nat.ne_of_lt hz1) _
    replace bz : Bx V3 V1.heap.size 102 #[.int .i64 r.1, .int .i64 r.2] := by rw [hV3]; simpa using (bz.set_ 0 (.int .i64 r.1)).set_ 1 (.int .i64 r.2)
    replace hb0 : Below w.heap.size w V3 := by rw [hV3]; exact (hb0.setCell (Nat.le_of_lt hz1) _).setCell (Nat.le_of_lt hz1) _
    clear hV3 m1 m2 q0 q1 t0 t1 w1 w2 i0 i1 i2 hw
    obtain ⟨c0, c1, c2, c3⟩ := at0
    have q0 := bz.at_ 0 rfl
    have q1 := bz.at_ 1 rfl
    cases hr : rodB U L r with
    | false =>
      have HR := Lib.hid (movC_state HM.out (by rw [← HRE.out]; exact hr))
      have HO := Lib.hid (fun (e : Ending) (w' : World) (he : e = .returned (.int .i64 6)) (hb : Below V3.heap.size V3 w') => show MovP U L W (some ⟨gb, 0, none⟩) C rs x lo hi p w e w' from
        ⟨by rw [he, HR.out], by rw [HR.out]; exact ow.below hb, (AbaAt.mk c0 c1 c2 c3).below hb, (hb0.trans (hb.mono hb0.size)).mono hl⟩)
      have hc : (r.1 < 0 ∨ U < r.1) ∨ ((0 ≤ r.1 ∧ r.1 ≤ U) ∧ (r.2 < 0 ∨ L < r.2)) := by have := rodB_false hr; omega
      clear hr HR
      rcases hc with h0 | ⟨h0, h1⟩
      · have j0 := inB_no h0
        clear h0
        go_quiet ((go_at_call 76; exact Calls.quiet_of_same (l00In_any _ _ _ _)))
        go_wp2
        go_ret
        exact HO.out _ _ rfl (bel_drewN (Below.refl _ _) _)
      · have j0 := inB_yes h0.1 h0.2
        have j1 := inB_no h1
        clear h0 h1
        go_quiet ((go_at_call 76; exact Calls.quiet_of_same (l00In_any _ _ _ _)))
        go_wp2
        go_ret
        exact HO.out _ _ rfl (bel_drewN (Below.refl _ _) _)
    | true =>
      have HR := Lib.hid (movC_ok HM.out (by rw [← HRE.out]; exact hr))
      have hv := rodB_true hr
      have j0 := inB_yes hv.1 hv.2.1
      have j1 := inB_yes hv.2.2.1 hv.2.2.2
      have HML := Lib.hid (show movL rs x = rs.set k r by simp [movL, HKE.out, ← HRE.out])
      clear hr hv
      go_quiet ((go_at_call 76; exact Calls.quiet_of_same (l00In_any _ _ _ _)))
      go_upto_region 8 with fail
      obtain ⟨V4, hV4⟩ : ∃ V4, V4 = V3.drewN nq := ⟨_, rfl⟩
      rw [← hV4]
      have hb4 : Below V3.heap.size V3 V4 := by rw [hV4]; exact bel_drewN (Below.refl _ _) nq
      clear hV4 q0 q1 j0 j1
      have at4 := (AbaAt.mk c0 c1 c2 c3).below hb4
      clear c0 c1 c2 c3
      replace ow := ow.below hb4
      replace bm := bm.below hb4
      replace bz := bz.below hb4
      replace hb0 := hb0.trans (hb4.mono hb0.size)
      clear hb4
      have hz4 : V1.heap.size < V4.heap.size := bz.lt
      have HP := Lib.hid (ow.put2 (k := k) hkl r)
      have k0 := kept_all at4.c3
      have k1 := kept_all (p := ⟨w.heap.size, 0, none⟩) (v := .int .i64 (k : Int)) (bm.at_ 0 rfl)
      have k2 := kept_all (p := ⟨V1.heap.size, 0, none⟩) (v := .int .i64 r.1) (bz.at_ 0 rfl)
      have k3 := kept_all (p := ⟨V1.heap.size, 1, none⟩) (v := .int .i64 r.2) (bz.at_ 1 rfl)
      obtain ⟨g0, g1⟩ := ow.get2 (k := k) hkl
      have f0 := ow.thaw (k * 2)
      have f1 := ow.thaw (k * 2 + 1)
      refine wp_region_marked (fun w' => Below V4.heap.size V4 w') 8 (by kernel_rfl) ?_
      have hS : Below V4.heap.size V4 V4.drew := (Below.refl _ _).drew
      refine wpAnyM_take (i := 0) (v := ?_) rfl (by kernel_rfl) (by kernel_rfl) (by kernel_rfl) (by kernel_rfl) (by kernel_rfl) (fun _ _ _ h => h) hS (.inl ⟨by rfl, ?_⟩) ?_
      rotate_left 1
      · intro w' hS'; go_simp; try with_reducible rfl
      simp only [Act.put, List.setIfInBounds_toArray]
      refine wpAnyM_take (i := 1) (v := ?_) rfl (by kernel_rfl) (by kernel_rfl) (by kernel_rfl) (by kernel_rfl) (by kernel_rfl) (fun _ _ _ h => h) hS (.inl ⟨by rfl, ?_⟩) ?_
      rotate_left 1
      · intro w' hS'; go_simp; try with_reducible rfl
      simp only [Act.put]
      refine wpAnyM_take (i := 2) (v := ?_) rfl (by kernel_rfl) (by kernel_rfl) (by kernel_rfl) (by kernel_rfl) (by kernel_rfl) (fun _ _ _ h => h) hS (.inl ⟨by rfl, ?_⟩) ?_
      rotate_left 1
      · intro w' hS'; go_simp; try with_reducible rfl
      simp only [Act.put]
      refine wpAnyM_take (i := 3) (v := ?_) rfl (by kernel_rfl) (by kernel_rfl) (by kernel_rfl) (by kernel_rfl) (by kernel_rfl) (fun _ _ _ h => h) hS (.inl ⟨by rfl, ?_⟩) ?_
      rotate_left 1
      · intro w' hS'; go_simp; try with_reducible rfl
      simp only [Act.put]
      refine wpAnyM_take (i := 4) (v := ?_) rfl (by kernel_rfl) (by kernel_rfl) (by kernel_rfl) (by kernel_rfl) (by kernel_rfl) (fun _ _ _ h => h) hS (.inl ⟨by rfl, ?_⟩) ?_
      rotate_left 1
      · intro w' hS'; go_simp; try with_reducible rfl
      simp only [Act.put]
      refine wpAnyM_take (i := 5) (v := ?_) rfl (by kernel_rfl) (by kernel_rfl) (by kernel_rfl) (by kernel_rfl) (by kernel_rfl) (fun _ _ _ h => h) hS (.inl ⟨by rfl, ?_⟩) ?_
      rotate_left 1
      · intro w' hS'; go_simp; try with_reducible rfl
      simp only [Act.put]
      refine wpAnyM_take (i := 6) (v := ?_) rfl (by kernel_rfl) (by kernel_rfl) (by kernel_rfl) (by kernel_rfl) (by kernel_rfl) (fun _ _ _ h => h) hS (.inl ⟨by rfl, ?_⟩) ?_
      rotate_left 1
      · intro w' hS'; go_simp; try with_reducible rfl
      simp only [Act.put]
      refine wpAnyM_take (i := 7) (v := ?_) rfl (by kernel_rfl) (by kernel_rfl) (by kernel_rfl) (by kernel_rfl) (by kernel_rfl) (fun _ _ _ h => h) hS (.inl ⟨by rfl, ?_⟩) ?_
      rotate_left 1
      · intro w' hS'; go_simp; try with_reducible rfl
      simp only [Act.put]
      clear k0 k1 k2 k3
      refine wpAnyM_one (i := 8) (by kernel_rfl) rfl (by rfl) (fun K hK => ?_)
      go_simp
      refine hK _ _ (.inl rfl) ?_
      clear hK K
      refine wpAnyM_done (by kernel_rfl) ?_ _
      have hlz : lo ≤ V4.heap.size := by omega
      have hpg : p ≠ gb := by omega
      go_wp2
      go_ret
      have at9 := (at4.far (q := ⟨gb, k * 2, none⟩) hpg (.int .i64 r.1)).far (q := ⟨gb, k * 2 + 1, none⟩) hpg (.int .i64 r.2)
      refine ⟨by rw [HR.out]; rfl, ?_, ⟨at9.c0, at9.c1, at9.c2, at9.c3⟩, ?_⟩
      · rw [HR.out, if_pos rfl, HML.out]
        exact HP.out.drew
      · exact (((hb0.mono hl).setCell (p := ⟨gb, k * 2, none⟩) l1 _).setCell (p := ⟨gb, k * 2 + 1, none⟩) l1 _).drew

theorem movR_bad' {U L W : Int} {rs : List (Int × Int)} {x : Int × Int × Int} (h : abaB U L W rs = false) : movR U L W rs x = (0, 0, 0, [], 1) := by simp [movR, h]
theorem movR_err' {U L W c : Int} {rs : List (Int × Int)} {x : Int × Int × Int} (h : abaB U L W rs = true) (hc : movC U L rs x = c) (hn : ¬ c = 0) : movR U L W rs x = (0, 0, 0, [], c) := by subst hc; rw [movR, if_pos h, if_neg hn]
theorem movR_ok' {U L W : Int} {rs : List (Int × Int)} {x : Int × Int × Int} (h : abaB U L W rs = true) (hc : movC U L rs x = 0) : movR U L W rs x = (U, L, W, movL rs x, 0) := by rw [movR, if_pos h, if_pos hc]
theorem movL_len' (rs : List (Int × Int)) (x : Int × Int × Int) : (movL rs x).length = rs.length := by simp [movL]

set_option maxRecDepth 100000 in
set_option maxHeartbeats 2000000 in
theorem specMoveBeads (U L W : Int) (a : Option Addr) (c : Nat) (rs : List (Int × Int)) (x : Int × Int × Int) (w : World) (ha : RdF pairF w a rs) (_ : I64 U) (_ : I64 L) (_ : I64 W) (_ : All2 rs) (bx : I64 x.1 ∧ I64 x.2.1 ∧ I64 x.2.2) :
    Calls Try.prog 23 #[.agg #[.int .i64 U, .int .i64 L, .int .i64 W, .slice a rs.length c], .agg #[.int .i64 x.1, .int .i64 x.2.1, .int .i64 x.2.2]] w (AbaC (movR U L W rs x) w) := by
  obtain ⟨u, hu⟩ : ∃ u, u = ((w.alloc (.cells #[.int .i64 U, .int .i64 L, .int .i64 W, .slice a rs.length c] 26)).alloc (.cells #[.int .i64 x.1, .int .i64 x.2.1, .int .i64 x.2.2] 37)).alloc (.cells #[.int .i64 0, .int .i64 0, .int .i64 0, .slice none 0 0] 26) := ⟨_, rfl⟩
  have hbel : Below w.heap.size w u := by rw [hu]; exact (by repeat (first | exact Below.refl _ _ | refine Below.setCell ?_ (by first | omega | (simp <;> omega)) _ | refine Below.alloc ?_ (by first | omega | (simp <;> omega)) _ | refine Below.drew ?_))
  have bx0 : Bx u w.heap.size 26 #[.int .i64 U, .int .i64 L, .int .i64 W, .slice a rs.length c] := by rw [hu]; exact ((Bx.new _ _ _).alloc _).alloc _
  have at0 : AbaAt u w.heap.size U L W a rs.length c := .of_box bx0
  have bx1 : Bx u (w.heap.size + 1) 37 #[.int .i64 x.1, .int .i64 x.2.1, .int .i64 x.2.2] := by rw [hu]; exact (by simpa using Bx.new (w.alloc (.cells #[.int .i64 U, .int .i64 L, .int .i64 W, .slice a rs.length c] 26)) #[.int .i64 x.1, .int .i64 x.2.1, .int .i64 x.2.2] 37 : Bx _ (w.heap.size + 1) _ _).alloc _
  have bx2 : Bx u (w.heap.size + 1 + 1) 26 #[.int .i64 0, .int .i64 0, .int .i64 0, .slice none 0 0] := by rw [hu]; simpa using Bx.new ((w.alloc (.cells #[.int .i64 U, .int .i64 L, .int .i64 W, .slice a rs.length c] 26)).alloc (.cells #[.int .i64 x.1, .int .i64 x.2.1, .int .i64 x.2.2] 37)) #[.int .i64 0, .int .i64 0, .int .i64 0, .slice none 0 0] 26
  have HU := Lib.hid hu
  clear hu
  replace ha := ha.below hbel
  cases h : abaB U L W rs with
  | false =>
    have HR := Lib.hid (movR_bad' (x := x) h)
    have HO := Lib.hid (l03Ok_at w.heap.size U L W a c rs u h at0 ha)
    clear h
    go_enter Try.func23, Try.ntmps23
    go_wp2_with fail
    rw [← HU.out]
    refine HO.out.mono ?_
    rintro e w1 ⟨rfl, hb1⟩
    replace bx2 := bx2.below hb1
    have r0 := bx2.at_ 0 rfl
    have r1 := bx2.at_ 1 rfl
    have r2 := bx2.at_ 2 rfl
    have r3 := bx2.at_ 3 rfl
    have f0 := bx2.thaw 0
    have f1 := bx2.thaw 1
    have f2 := bx2.thaw 2
    have f3 := bx2.thaw 3
    have hb := hbel.trans (hb1.mono hbel.size)
    go_wp2
    exact bodyPost_ret (v := .tuple #[.agg #[.int .i64 0, .int .i64 0, .int .i64 0, .slice none 0 0], .int .i64 1]) (by simp [results, Try.results23, go_sem, r0, r1, r2, r3]) rfl
      (abaC_err HR.out rfl (by repeat (first | exact hb | refine Below.setCell ?_ (by first | omega | (simp <;> omega)) _ | refine Below.alloc ?_ (by first | omega | (simp <;> omega)) _ | refine Below.drew ?_)))
  | true =>
    have HO := Lib.hid (l03Ok_at w.heap.size U L W a c rs u h at0 ha)
    have HA := Lib.hid (aba_of h)
    have HOK := Lib.hid (fun (hc : movC U L rs x = 0) => movR_ok' (W := W) h hc)
    have HER := Lib.hid (fun (hc : ¬ movC U L rs x = 0) => movR_err' (W := W) h rfl hc)
    obtain ⟨cd, hcd⟩ : ∃ cd, cd = movC U L rs x := ⟨_, rfl⟩
    have HCD := Lib.hid hcd
    clear h hcd
    go_enter Try.func23, Try.ntmps23
    go_wp2_with fail
    rw [← HU.out]
    refine HO.out.mono ?_
    rintro e w1 ⟨rfl, hb1⟩
    replace at0 := at0.below hb1
    replace bx1 := bx1.below hb1
    replace bx2 := bx2.below hb1
    replace ha := ha.below hb1
    replace hbel := hbel.trans (hb1.mono hbel.size)
    have hlo : w.heap.size + 1 + 1 < w1.heap.size := bx2.lt
    clear hb1 bx0
    go_wp2_with fail
    refine (l03Own_any w.heap.size U L W a c rs w1 at0 ha (by have := HA.out.n0; omega)).mono ?_
    rintro e w2 ⟨A, C, rfl, ow, hb2⟩
    replace bx1 := bx1.below hb2
    replace bx2 := bx2.below hb2
    replace hbel := hbel.trans (hb2.mono hbel.size)
    have hsz : w1.heap.size ≤ w2.heap.size := hb2.size
    clear hb2 ha at0
    go_upto_region 4 with fail
    obtain ⟨V, hV⟩ : ∃ V, V = w2.alloc (.cells #[.int .i64 U, .int .i64 L, .int .i64 W, .slice A rs.length C] 26) := ⟨_, rfl⟩
    rw [← hV]
    have hbV : Below w2.heap.size w2 V := by rw [hV]; exact (Below.refl _ _).alloc (Nat.le_refl _) _
    have bo : Bx V w2.heap.size 26 #[.int .i64 U, .int .i64 L, .int .i64 W, .slice A rs.length C] := by rw [hV]; exact Bx.new _ _ _
    clear hV
    replace ow := ow.below hbV
    replace bx1 := bx1.below hbV
    replace bx2 := bx2.below hbV
    replace hbel := hbel.trans (hbV.mono hbel.size)
    clear hbV
    have hzV : w2.heap.size < V.heap.size := bo.lt
    have m0 := bx1.at_ 0 rfl
    have m1 := bx1.at_ 1 rfl
    have m2 := bx1.at_ 2 rfl
    have HMV := Lib.hid (l03Move_any w2.heap.size U L W A C rs x w1.heap.size w2.heap.size V (.of_box bo) ow HA.out (by omega) (by omega) (.inr (Nat.le_refl _)) bx)
    clear bo ow
    go_wp2_with fail
    refine HMV.out.mono ?_
    rintro e w3 ⟨rfl, ow, at0, hb3⟩
    replace bx2 := bx2.lo hb3 hlo
    replace hbel : Below w.heap.size w w3 := hbel.trans (hb3.mono (by omega))
    obtain ⟨c0, c1, c2, c3⟩ := at0
    rw [← HCD.out] at ow ⊢
    have f0 := bx2.thaw 0
    have f1 := bx2.thaw 1
    have f2 := bx2.thaw 2
    have f3 := bx2.thaw 3
    have z0 := bx2.at_ 0 rfl
    have z1 := bx2.at_ 1 rfl
    have z2 := bx2.at_ 2 rfl
    have z3 := bx2.at_ 3 rfl
    clear m0 m1 m2 HMV
    have hbz : w.heap.size ≤ w.heap.size + 1 + 1 := by omega
    have hsz3 : w2.heap.size ≤ w3.heap.size := by have := hb3.size; omega
    by_cases hc : cd = 0
    · subst hc
      have HR := Lib.hid (HOK.out HCD.out.symm)
      clear hb3
      rw [if_pos rfl] at ow
      have hd : w.heap.size + 1 + 1 < w1.heap.size ∨ w2.heap.size ≤ w.heap.size + 1 + 1 := .inl hlo
      have OW := Lib.hid ((((ow.setCell (p := ⟨w.heap.size + 1 + 1, 0, none⟩) hd (.int .i64 U)).setCell (p := ⟨w.heap.size + 1 + 1, 1, none⟩) hd (.int .i64 L)).setCell (p := ⟨w.heap.size + 1 + 1, 2, none⟩) hd (.int .i64 W)).setCell (p := ⟨w.heap.size + 1 + 1, 3, none⟩) hd (.slice A rs.length C))
      have HB := Lib.hid ((((hbel.setCell (p := ⟨w.heap.size + 1 + 1, 0, none⟩) hbz (.int .i64 U)).setCell (p := ⟨w.heap.size + 1 + 1, 1, none⟩) hbz (.int .i64 L)).setCell (p := ⟨w.heap.size + 1 + 1, 2, none⟩) hbz (.int .i64 W)).setCell (p := ⟨w.heap.size + 1 + 1, 3, none⟩) hbz (.slice A rs.length C))
      have hlw : w.heap.size ≤ w1.heap.size := by omega
      clear ow hbel HOK HER HCD HA HO HU
      go_wp2
      exact bodyPost_ret (v := .tuple #[.agg #[.int .i64 U, .int .i64 L, .int .i64 W, .slice A rs.length C], .int .i64 0]) (by simp [results, Try.results23, go_sem, z0, z1, z2, z3]) rfl
        (abaC_ok HR.out (movL_len' _ _) rfl (lo := w1.heap.size) (hi := w2.heap.size) OW.out hlw (by simpa using hsz3) HB.out)
    · have HR := Lib.hid (HER.out (by rw [← HCD.out]; exact hc))
      rw [← HCD.out] at HR
      have hne : (cd != 0) = true := by simp [hc]
      have HB := Lib.hid ((((hbel.setCell (p := ⟨w.heap.size + 1 + 1, 0, none⟩) hbz (.int .i64 0)).setCell (p := ⟨w.heap.size + 1 + 1, 1, none⟩) hbz (.int .i64 0)).setCell (p := ⟨w.heap.size + 1 + 1, 2, none⟩) hbz (.int .i64 0)).setCell (p := ⟨w.heap.size + 1 + 1, 3, none⟩) hbz (.slice none 0 0))
      clear ow hbel HOK HER HCD HA HO HU hc hb3
      go_wp2
      exact bodyPost_ret (v := .tuple #[.agg #[.int .i64 0, .int .i64 0, .int .i64 0, .slice none 0 0], .int .i64 cd]) (by simp [results, Try.results23, go_sem, z0, z1, z2, z3]) rfl
        (abaC_err HR.out rfl HB.out)
end Go.Proofs.Ytcfpfhlgcfmioaa
