/-
  impl: rodAfter and what it calls.
-/
import Derived.Test.YtcfpfhlgcfmioaaAbaY
import Derived.Deep.Cut
namespace Go.Proofs.Ytcfpfhlgcfmioaa
open Go.RowKit

/-- A move is one of so many beads as a rod may have. -/
def rangeB (mu md : Int) : Bool := decide (-4 ≤ mu ∧ mu ≤ 4 ∧ -12 ≤ md ∧ md ≤ 12)
theorem rangeB_true {mu md : Int} (h : rangeB mu md = true) : -4 ≤ mu ∧ mu ≤ 4 ∧ -12 ≤ md ∧ md ≤ 12 := by simpa [rangeB] using h
theorem moveB_eq {n : Nat} {mr mu md : Int} : moveB n (mr, mu, md) = (decide (0 ≤ mr ∧ mr < n) && rangeB mu md) := by
  rw [Bool.eq_iff_iff]; simp only [moveB, rangeB, Bool.and_eq_true, decide_eq_true_eq]; omega

set_option maxHeartbeats 1000000 in
theorem isInRange_any (mr mu md : Int) (w : World) :
    Calls Try.prog 129 #[.agg #[.int .i64 mr, .int .i64 mu, .int .i64 md]] w fun e w' => e = .returned (.bool (rangeB mu md)) ∧ Below w.heap.size w w' := by
  by_cases h1 : -4 ≤ mu
  · have d1 : decide (-4 ≤ mu) = true := decide_eq_true h1
    by_cases h2 : mu ≤ 4
    · have d2 : decide (mu ≤ 4) = true := decide_eq_true h2
      by_cases h3 : -12 ≤ md
      · have d3 : decide (-12 ≤ md) = true := decide_eq_true h3
        have H := Lib.hid (show rangeB mu md = decide (md ≤ 12) by simp [rangeB, h1, h2, h3])
        clear h1 h2 h3
        go_enter Try.func129, Try.ntmps129
        go_wp2
        go_ret
        exact ⟨ret_bool H.out.symm, (by repeat (first | exact Below.refl _ _ | refine Below.setCell ?_ (by first | omega | (simp <;> omega)) _ | refine Below.alloc ?_ (by first | omega | (simp <;> omega)) _ | refine Below.drew ?_))⟩
      · have d3 : decide (-12 ≤ md) = false := decide_eq_false h3
        have H := Lib.hid (show rangeB mu md = false by simp [rangeB, h3])
        clear h1 h2 h3
        go_enter Try.func129, Try.ntmps129
        go_wp2
        go_ret
        exact ⟨ret_bool H.out.symm, (by repeat (first | exact Below.refl _ _ | refine Below.setCell ?_ (by first | omega | (simp <;> omega)) _ | refine Below.alloc ?_ (by first | omega | (simp <;> omega)) _ | refine Below.drew ?_))⟩
    · have d2 : decide (mu ≤ 4) = false := decide_eq_false h2
      have H := Lib.hid (show rangeB mu md = false by simp [rangeB, h2])
      clear h1 h2
      go_enter Try.func129, Try.ntmps129
      go_wp2
      go_ret
      exact ⟨ret_bool H.out.symm, (by repeat (first | exact Below.refl _ _ | refine Below.setCell ?_ (by first | omega | (simp <;> omega)) _ | refine Below.alloc ?_ (by first | omega | (simp <;> omega)) _ | refine Below.drew ?_))⟩
  · have d1 : decide (-4 ≤ mu) = false := decide_eq_false h1
    have H := Lib.hid (show rangeB mu md = false by simp [rangeB, h1])
    clear h1
    go_enter Try.func129, Try.ntmps129
    go_wp2
    go_ret
    exact ⟨ret_bool H.out.symm, (by repeat (first | exact Below.refl _ _ | refine Below.setCell ?_ (by first | omega | (simp <;> omega)) _ | refine Below.alloc ?_ (by first | omega | (simp <;> omega)) _ | refine Below.drew ?_))⟩

set_option maxHeartbeats 1000000 in
theorem after_any (r : Int × Int) (mr mu md : Int) (w : World) (h1 : 0 ≤ r.1 ∧ r.1 ≤ 12) (h2 : 0 ≤ r.2 ∧ r.2 ≤ 12) (h3 : -4 ≤ mu ∧ mu ≤ 4) (h4 : -12 ≤ md ∧ md ≤ 12) :
    Calls Try.prog 130 #[.agg #[.int .i64 r.1, .int .i64 r.2], .agg #[.int .i64 mr, .int .i64 mu, .int .i64 md]] w fun e w' => e = .returned (.agg #[.int .i64 (r.1 + mu), .int .i64 (r.2 + md)]) ∧ Below w.heap.size w w' := by
  obtain ⟨a1, a2⟩ := h1
  obtain ⟨b1, b2⟩ := h2
  obtain ⟨c1, c2⟩ := h3
  obtain ⟨d1, d2⟩ := h4
  go_enter Try.func130, Try.ntmps130
  go_wp2
  exact bodyPost_ret (v := .agg #[.int .i64 (r.1 + mu), .int .i64 (r.2 + md)]) (by simp [results, Try.results130, go_sem]) rfl ⟨rfl, (by repeat (first | exact Below.refl _ _ | refine Below.setCell ?_ (by first | omega | (simp <;> omega)) _ | refine Below.alloc ?_ (by first | omega | (simp <;> omega)) _ | refine Below.drew ?_))⟩

/-- s leads to a box of the call's own that holds the rod. -/
def BoxRodAt (W : World) (x y : Int) (s : Value) (wx : World) : Prop := ∃ g, s = .pointer (some ⟨g, 0, none⟩) ∧ Bx wx g 102 #[.int .i64 x, .int .i64 y] ∧ Hid (W.heap.size ≤ g) ∧ Below W.heap.size W wx
theorem boxRod_after {W u v : World} {x y : Int} (hk : Below W.heap.size W u) (hb : Below u.heap.size u v) :
    BoxRodAt W x y (.pointer (some ⟨v.heap.size, 0, none⟩)) (v.alloc (.cells #[.int .i64 x, .int .i64 y] 102)) := by
  have h1 := hk.size
  have h2 := hb.size
  exact ⟨_, rfl, Bx.new _ _ _, Lib.hid (by omega), (hk.trans (hb.mono h1)).alloc (by omega) _⟩
theorem boxRod_before {W u v : World} {x y : Int} {g : Nat} {c0 c1 : Value} (hk : Below W.heap.size W u) (hb : Below u.heap.size u v) (bz : Bx v g 102 #[c0, c1]) (h1 : Hid (W.heap.size ≤ g)) :
    BoxRodAt W x y (.pointer (some ⟨g, 0, none⟩)) ((v.setCell ⟨g, 0, none⟩ (.int .i64 x)).setCell ⟨g, 1, none⟩ (.int .i64 y)) := by
  have h3 := hk.size
  exact ⟨_, rfl, by simpa using ((bz.set_ 0 (.int .i64 x)).set_ 1 (.int .i64 y)), h1, ((hk.trans (hb.mono h3)).setCell h1.out _).setCell h1.out _⟩

/-- What rodAfter returns: the rod, a code. -/
def raR (U L : Int) (rs : List (Int × Int)) (m : Int × Int × Int) : (Int × Int) × Int := if moveB rs.length m = true then (if rodB U L (movedRod rs m) = true then (movedRod rs m, 0) else ((0, 0), 6)) else ((0, 0), 2)
theorem ret_rod {R : (Int × Int) × Int} {x y c : Int} (h : R = ((x, y), c)) : Ending.returned (.tuple #[.agg #[.int .i64 x, .int .i64 y], .int .i64 c]) = .returned (.tuple #[.agg #[.int .i64 R.1.1, .int .i64 R.1.2], .int .i64 R.2]) := by subst h; rfl
theorem raR_code {U L : Int} {rs : List (Int × Int)} {m : Int × Int × Int} : (raR U L rs m).2 = movC U L rs m := by unfold raR movC; split <;> (try split) <;> rfl

set_option maxRecDepth 100000 in
set_option maxHeartbeats 4000000 in
theorem rodAfter_any (U L W : Int) (a : Option Addr) (c : Nat) (rs : List (Int × Int)) (mr mu md : Int) (w : World) (ha : RdF pairF w a rs) (u1 : U ≤ 4) (l1 : L ≤ 12) (hrs : ∀ r ∈ rs, rodB U L r = true) :
    Calls Try.prog 84 #[.agg #[.int .i64 U, .int .i64 L, .int .i64 W, .slice a rs.length c], .agg #[.int .i64 mr, .int .i64 mu, .int .i64 md]] w fun e w' =>
      e = .returned (.tuple #[.agg #[.int .i64 (raR U L rs (mr, mu, md)).1.1, .int .i64 (raR U L rs (mr, mu, md)).1.2], .int .i64 (raR U L rs (mr, mu, md)).2]) ∧ Below w.heap.size w w' := by
  have hxl := ha.len
  obtain ⟨u, hu⟩ : ∃ u, u = ((w.alloc (.cells #[.int .i64 U, .int .i64 L, .int .i64 W, .slice a rs.length c] 26)).alloc (.cells #[.int .i64 mr, .int .i64 mu, .int .i64 md] 37)).alloc (.cells #[.int .i64 0, .int .i64 0] 102) := ⟨_, rfl⟩
  have hbel : Below w.heap.size w u := by rw [hu]; exact (by repeat (first | exact Below.refl _ _ | refine Below.setCell ?_ (by first | omega | (simp <;> omega)) _ | refine Below.alloc ?_ (by first | omega | (simp <;> omega)) _ | refine Below.drew ?_))
  have bx0 : Bx u w.heap.size 26 #[.int .i64 U, .int .i64 L, .int .i64 W, .slice a rs.length c] := by rw [hu]; exact ((Bx.new _ _ _).alloc _).alloc _
  have bx1 : Bx u (w.heap.size + 1) 37 #[.int .i64 mr, .int .i64 mu, .int .i64 md] := by rw [hu]; exact (by simpa using Bx.new (w.alloc (.cells #[.int .i64 U, .int .i64 L, .int .i64 W, .slice a rs.length c] 26)) #[.int .i64 mr, .int .i64 mu, .int .i64 md] 37 : Bx _ (w.heap.size + 1) _ _).alloc _
  have bx2 : Bx u (w.heap.size + 1 + 1) 102 #[.int .i64 0, .int .i64 0] := by rw [hu]; simpa using Bx.new ((w.alloc (.cells #[.int .i64 U, .int .i64 L, .int .i64 W, .slice a rs.length c] 26)).alloc (.cells #[.int .i64 mr, .int .i64 mu, .int .i64 md] 37)) #[.int .i64 0, .int .i64 0] 102
  have HU := Lib.hid hu
  have hus : u.heap.size = w.heap.size + 1 + 1 + 1 := by rw [hu]; simp
  have HUS := Lib.hid hus
  clear hu hus
  replace ha := ha.below hbel
  by_cases h0 : 0 ≤ mr ∧ mr < rs.length
  · obtain ⟨h1, h2⟩ := h0
    cases hr : rangeB mu md with
    | false =>
      have HR := Lib.hid (show raR U L rs (mr, mu, md) = ((0, 0), 2) by simp [raR, moveB_eq, hr])
      have HI := Lib.hid (isInRange_any mr mu md u)
      rw [hr] at HI
      clear hr
      go_enter Try.func84, Try.ntmps84
      go_wp2_with fail
      rw [← HU.out]
      refine HI.out.mono ?_
      rintro e w1 ⟨rfl, hb1⟩
      replace bx2 := bx2.below hb1
      have r0 := bx2.at_ 0 rfl
      have r1 := bx2.at_ 1 rfl
      have f0 := bx2.thaw 0
      have f1 := bx2.thaw 1
      have hb := hbel.trans (hb1.mono hbel.size)
      go_wp2
      exact bodyPost_ret (v := .tuple #[.agg #[.int .i64 0, .int .i64 0], .int .i64 2]) (by simp [results, Try.results84, go_sem, r0, r1]) rfl ⟨ret_rod HR.out, (by repeat (first | exact hb | refine Below.setCell ?_ (by first | omega | (simp <;> omega)) _ | refine Below.alloc ?_ (by first | omega | (simp <;> omega)) _ | refine Below.drew ?_))⟩
    | true =>
      obtain ⟨k, rfl⟩ := Int.eq_ofNat_of_zero_le h1
      have hk : k < rs.length := by omega
      obtain ⟨g1, g2, g3, g4⟩ := rangeB_true hr
      have hv := rodB_true (hrs _ (elt_mem (F := pairF) hk))
      have hm : moveB rs.length ((k : Int), mu, md) = true := by rw [moveB_eq, hr]; simp; omega
      have HI := Lib.hid (isInRange_any (k : Int) mu md u)
      rw [hr] at HI
      have HM := Lib.hid (show movedRod rs ((k : Int), mu, md) = ((elt pairF rs k).1 + mu, (elt pairF rs k).2 + md) by simp [movedRod])
      have HMB := Lib.hid hm
      have v1 : 0 ≤ (elt pairF rs k).1 ∧ (elt pairF rs k).1 ≤ 12 := by omega
      have v2 : 0 ≤ (elt pairF rs k).2 ∧ (elt pairF rs k).2 ≤ 12 := by omega
      clear hr hm hv h1 h2
      go_enter Try.func84, Try.ntmps84
      go_wp2_with fail
      rw [← HU.out]
      refine HI.out.mono ?_
      rintro e w1 ⟨rfl, hb1⟩
      replace bx0 := bx0.below hb1
      replace bx1 := bx1.below hb1
      replace bx2 := bx2.below hb1
      replace ha := ha.below hb1
      replace hbel := hbel.trans (hb1.mono hbel.size)
      have hz1 : w.heap.size + 1 + 1 < w1.heap.size := bx2.lt
      clear hb1
      obtain ⟨b, off, rfl, p0, p1⟩ := ha.at2 hk
      go_upto_region 3 with fail
      go_cut [6] from 7 (fun s6 wx => BoxRodAt w1 ((elt pairF rs k).1 + mu) ((elt pairF rs k).2 + md) s6 wx)
      case first =>
        have k0 := kept_all (p := ⟨w.heap.size, 3, none⟩) (v := .slice (some ⟨b, off, none⟩) rs.length c) (bx0.at_ 3 rfl)
        have k1 := kept_all (p := ⟨w.heap.size + 1, 0, none⟩) (v := .int .i64 (k : Int)) (bx1.at_ 0 rfl)
        have k2 := kept_all (p := ⟨w.heap.size + 1, 1, none⟩) (v := .int .i64 mu) (bx1.at_ 1 rfl)
        have k3 := kept_all (p := ⟨w.heap.size + 1, 2, none⟩) (v := .int .i64 md) (bx1.at_ 2 rfl)
        have k4 := kept_all p0
        have k5 := kept_all p1
        refine wp_region_marked (fun w' => Below w1.heap.size w1 w') 9 (by kernel_rfl) ?_
        have hS : Below w1.heap.size w1 w1.drew := (Below.refl _ _).drew
        refine wpAnyM_take (i := 0) (v := ?_) rfl (by kernel_rfl) (by kernel_rfl) (by kernel_rfl) (by kernel_rfl) (by kernel_rfl) (fun _ _ _ h => h) hS (.inl ⟨by rfl, ?_⟩) ?_
        rotate_left 1
        · intro w' hS'; go_simp; try with_reducible rfl
        simp only [Act.put, List.setIfInBounds_toArray]
        refine wpAnyM_take (i := 1) (v := ?_) rfl (by kernel_rfl) (by kernel_rfl) (by kernel_rfl) (by kernel_rfl) (by kernel_rfl) (fun _ _ _ h => h) hS (.inl ⟨by rfl, ?_⟩) ?_
        rotate_left 1
        · intro w' hS'; go_simp; try with_reducible rfl
        simp only [Act.put]
        refine wpAnyM_take (i := 2) (v := ?_) rfl (by kernel_rfl) (by kernel_rfl) (by kernel_rfl) (by kernel_rfl) (by kernel_rfl) (fun _ _ _ h => h) hS (.inl ⟨by rfl, ?_⟩) ?_
        rotate_left 1
        · intro w' hS'; go_simp; try with_reducible rfl
        simp only [Act.put]
        refine wpAnyM_take (i := 3) (v := ?_) rfl (by kernel_rfl) (by kernel_rfl) (by kernel_rfl) (by kernel_rfl) (by kernel_rfl) (fun _ _ _ h => h) hS (.inl ⟨by rfl, ?_⟩) ?_
        rotate_left 1
        · intro w' hS'; go_simp; try with_reducible rfl
        simp only [Act.put]
        refine wpAnyM_take (i := 4) (v := ?_) rfl (by kernel_rfl) (by kernel_rfl) (by kernel_rfl) (by kernel_rfl) (by kernel_rfl) (fun _ _ _ h => h) hS (.inl ⟨by rfl, ?_⟩) ?_
        rotate_left 1
        · intro w' hS'; go_simp; try with_reducible rfl
        simp only [Act.put]
        refine wpAnyM_take (i := 5) (v := ?_) rfl (by kernel_rfl) (by kernel_rfl) (by kernel_rfl) (by kernel_rfl) (by kernel_rfl) (fun _ _ _ h => h) hS (.inl ⟨by rfl, ?_⟩) ?_
        rotate_left 1
        · intro w' hS'; go_simp; try with_reducible rfl
        simp only [Act.put]
        refine wpAnyM_take (i := 6) (v := ?_) rfl (by kernel_rfl) (by kernel_rfl) (by kernel_rfl) (by kernel_rfl) (by kernel_rfl) (fun _ _ _ h => h) hS (.inl ⟨by rfl, ?_⟩) ?_
        rotate_left 1
        · intro w' hS'; go_simp; try with_reducible rfl
        simp only [Act.put]
        clear k0 k1 k2 k3 k4 k5
        refine wpAnyM_two (i := 7) (j := 8) (by kernel_rfl) rfl rfl (by rfl) (by rfl) (fun K hK => ?_) (fun K hK => ?_)
        · go_simp
          refine (after_any (elt pairF rs k) (k : Int) mu md w1.drew v1 v2 ⟨g1, g2⟩ ⟨g3, g4⟩).mono ?_
          rintro e w2 ⟨rfl, hb2⟩
          have hS2 : Below w1.heap.size w1 w2 := hS.trans (hb2.mono (by simp))
          refine hK _ _ (.inr hS2) ?_
          try simp only [Act.put, List.setIfInBounds_toArray]
          clear hK K
          refine wpAnyM_one (i := 8) (by kernel_rfl) rfl (by rfl) (fun K hK => ?_)
          go_simp
          refine hK _ _ (.inr (hS2.alloc hS2.size _)) ?_
          try simp only [Act.put, List.setIfInBounds_toArray]
          clear hK K
          refine wpAnyM_one (i := 9) (by kernel_rfl) rfl (by rfl) (fun K hK => ?_)
          go_simp
          refine hK _ _ (.inl rfl) ?_
          clear hK K
          refine wpAnyM_done (by kernel_rfl) ?_ _
          go_wp2_with fail
          go_meet
          case rel => exact boxRod_after hS hb2
        · go_simp
          have bz := (Bx.new w1 #[.int .i64 0, .int .i64 0] 102).drew
          have hS3 : Below w1.heap.size w1 (w1.alloc (.cells #[.int .i64 0, .int .i64 0] 102)).drew := ((Below.refl _ _).alloc (Nat.le_refl _) _).drew
          refine hK _ _ (.inr hS3) ?_
          try simp only [Act.put, List.setIfInBounds_toArray]
          clear hK K
          refine wpAnyM_one (i := 7) (by kernel_rfl) rfl (by rfl) (fun K hK => ?_)
          go_simp
          refine (after_any (elt pairF rs k) (k : Int) mu md (w1.alloc (.cells #[.int .i64 0, .int .i64 0] 102)).drew v1 v2 ⟨g1, g2⟩ ⟨g3, g4⟩).mono ?_
          rintro e w2 ⟨rfl, hb2⟩
          have hS4 : Below w1.heap.size w1 w2 := hS3.trans (hb2.mono (by simp))
          replace bz := bz.below hb2
          have z0 := bz.at_ 0 rfl
          have z1 := bz.at_ 1 rfl
          have f0 := bz.thaw 0
          have f1 := bz.thaw 1
          refine hK _ _ (.inr hS4) ?_
          try simp only [Act.put, List.setIfInBounds_toArray]
          clear hK K
          refine wpAnyM_one (i := 9) (by kernel_rfl) rfl (by rfl) (fun K hK => ?_)
          go_simp
          refine hK _ _ (.inl rfl) ?_
          clear hK K
          refine wpAnyM_done (by kernel_rfl) ?_ _
          go_wp2_with fail
          go_meet
          case rel => exact boxRod_before hS3 hb2 bz (Lib.hid (Nat.le_refl _))
      case rest =>
        obtain ⟨g, rfl, bg, hg, hbw⟩ := hcut
        obtain ⟨v, rfl⟩ : ∃ v, v = wc := ⟨_, rfl⟩
        replace bx0 := bx0.below hbw
        replace bx2 := bx2.below hbw
        replace hbel := hbel.trans (hbw.mono hbel.size)
        have q0 := bg.at_ 0 rfl
        have q1 := bg.at_ 1 rfl
        have e0 := bx0.at_ 0 rfl
        have e1 := bx0.at_ 1 rfl
        have e2 := bx0.at_ 2 rfl
        have e3 := bx0.at_ 3 rfl
        clear bx1 ha p0 p1
        cases hr : rodB U L ((elt pairF rs k).1 + mu, (elt pairF rs k).2 + md) with
        | false =>
          have HR := Lib.hid (show raR U L rs ((k : Int), mu, md) = ((0, 0), 6) by rw [raR, if_pos HMB.out, HM.out, hr]; rfl)
          have HH := Lib.hid (hasBeadsOf_any U L W (some ⟨b, off, none⟩) rs.length c ((elt pairF rs k).1 + mu, (elt pairF rs k).2 + md) v)
          rw [hr] at HH
          clear hr
          go_wp2_with fail
          refine HH.out.mono ?_
          rintro e w3 ⟨rfl, hb3⟩
          replace bx2 := bx2.below hb3
          have r0 := bx2.at_ 0 rfl
          have r1 := bx2.at_ 1 rfl
          have f0 := bx2.thaw 0
          have f1 := bx2.thaw 1
          have hb := hbel.trans (hb3.mono hbel.size)
          go_wp2
          exact bodyPost_ret (v := .tuple #[.agg #[.int .i64 0, .int .i64 0], .int .i64 6]) (by simp [results, Try.results84, go_sem, r0, r1]) rfl ⟨ret_rod HR.out, (by repeat (first | exact hb | refine Below.setCell ?_ (by first | omega | (simp <;> omega)) _ | refine Below.alloc ?_ (by first | omega | (simp <;> omega)) _ | refine Below.drew ?_))⟩
        | true =>
          have HR := Lib.hid (show raR U L rs ((k : Int), mu, md) = (((elt pairF rs k).1 + mu, (elt pairF rs k).2 + md), 0) by rw [raR, if_pos HMB.out, HM.out, hr]; rfl)
          have HH := Lib.hid (hasBeadsOf_any U L W (some ⟨b, off, none⟩) rs.length c ((elt pairF rs k).1 + mu, (elt pairF rs k).2 + md) v)
          rw [hr] at HH
          clear hr
          go_wp2_with fail
          refine HH.out.mono ?_
          rintro e w3 ⟨rfl, hb3⟩
          have q0' := kept hb3 q0
          have q1' := kept hb3 q1
          replace bx2 := bx2.below hb3
          have r0 := bx2.at_ 0 rfl
          have r1 := bx2.at_ 1 rfl
          have f0 := bx2.thaw 0
          have f1 := bx2.thaw 1
          have hb := hbel.trans (hb3.mono hbel.size)
          clear q0 q1
          go_wp2
          exact bodyPost_ret (v := .tuple #[.agg #[.int .i64 ((elt pairF rs k).1 + mu), .int .i64 ((elt pairF rs k).2 + md)], .int .i64 0]) (by simp [results, Try.results84, go_sem, r0, r1]) rfl ⟨ret_rod HR.out, (by repeat (first | exact hb | refine Below.setCell ?_ (by first | omega | (simp <;> omega)) _ | refine Below.alloc ?_ (by first | omega | (simp <;> omega)) _ | refine Below.drew ?_))⟩
  · have HR := Lib.hid (show raR U L rs (mr, mu, md) = ((0, 0), 2) by simp only [raR, moveB_eq, h0, decide_false, Bool.false_and, Bool.false_eq_true, if_false])
    have h3 : mr < 0 ∨ (0 ≤ mr ∧ (rs.length : Int) ≤ mr) := by omega
    have b2c := bx2
    clear h0
    rcases h3 with h1 | ⟨h1, h2⟩
    all_goals
      go_enter Try.func84, Try.ntmps84
      go_wp2
      exact bodyPost_ret (v := .tuple #[.agg #[.int .i64 0, .int .i64 0], .int .i64 2]) (by simp [results, Try.results84, go_sem]) rfl ⟨ret_rod HR.out, (by repeat (first | exact Below.refl _ _ | refine Below.setCell ?_ (by first | omega | (simp <;> omega)) _ | refine Below.alloc ?_ (by first | omega | (simp <;> omega)) _ | refine Below.drew ?_))⟩
end Go.Proofs.Ytcfpfhlgcfmioaa
