/-
  Some abacus out of a source: spec.l03Draw. Only what its callers need: numbers in their limits, one rod or more.
-/
import Derived.Test.YtcfpfhlgcfmioaaSrc
import Derived.Test.YtcfpfhlgcfmioaaDrawO
import Derived.Test.YtcfpfhlgcfmioaaOwn2
import Derived.Test.YtcfpfhlgcfmioaaAbaT
import Derived.Test.YtcfpfhlgcfmioaaAppR
import Derived.Deep.Cut
import Derived.Deep.CutBlock
namespace Go.Proofs.Ytcfpfhlgcfmioaa
open Go.RowKit

structure FrmD (U L W : Int) : Prop where
  u0 : 0 ≤ U
  u1 : U ≤ 2
  l0 : 0 ≤ L
  l1 : L ≤ 10
  w0 : 1 ≤ W
  w1 : W ≤ 9
def RodsD (rs : List (Int × Int)) : Prop := ∀ x ∈ rs, -100 ≤ x.1 ∧ x.1 ≤ 100 ∧ -100 ≤ x.2 ∧ x.2 ≤ 100
theorem rodsD_snoc {rs : List (Int × Int)} {x : Int × Int} (h : RodsD rs) (hx : -100 ≤ x.1 ∧ x.1 ≤ 100 ∧ -100 ≤ x.2 ∧ x.2 ≤ 100) : RodsD (rs ++ [x]) := by
  intro y hy
  rcases List.mem_append.1 hy with hy | hy
  · exact h y hy
  · rw [List.mem_singleton] at hy; subst hy; exact hx
theorem rodsD_set {rs : List (Int × Int)} {x : Int × Int} {k : Nat} (h : RodsD rs) (hx : -100 ≤ x.1 ∧ x.1 ≤ 100 ∧ -100 ≤ x.2 ∧ x.2 ≤ 100) : RodsD (rs.set k x) := by
  intro y hy
  rcases List.mem_or_eq_of_mem_set hy with hy | rfl
  · exact h y hy
  · exact hx
theorem digP_small {U W d : Int} (u0 : 0 ≤ U) (u1 : U ≤ 2) (w0 : 1 ≤ W) (w1 : W ≤ 9) (d0 : 0 ≤ d) (d1 : d ≤ 9) : -100 ≤ (digP U W d).1 ∧ (digP U W d).1 ≤ 100 ∧ -100 ≤ (digP U W d).2 ∧ (digP U W d).2 ≤ 100 := by
  have q0 : 0 ≤ d / W := Int.ediv_nonneg d0 (by omega)
  have m0 : 0 ≤ min U (d / W) ∧ min U (d / W) ≤ 2 := by omega
  have m1 : 0 ≤ min U (d / W) * W := Int.mul_nonneg m0.1 (by omega)
  have m2 : min U (d / W) * W ≤ min U (d / W) * 9 := Int.mul_le_mul_of_nonneg_left w1 m0.1
  simp only [digP]
  omega
/-- An abacus without rods in a box, whose frame has been chosen. -/
def AbaFrm (s K r B : Nat) (w wx : World) : Prop := ∃ U L W : Int, FrmD U L W ∧ Bx wx B 26 #[.int .i64 U, .int .i64 L, .int .i64 W, .slice none 0 0] ∧ Bx wx r 26 #[.int .i64 0, .int .i64 0, .int .i64 0, .slice none 0 0] ∧ Src wx s K ∧ Touch s (s + 1) w wx

theorem Below.touchAt {L : Nat} {w w' : World} (h : Below L w w') : Touch L w.heap.size w w' := ⟨h.os, h.tape, h.output, h.size, fun k _ ho => h.block k (by omega)⟩

set_option maxHeartbeats 8000000 in
theorem drawAba_any (s K : Nat) (w : World) (h : Src w s K) (hK : K ≤ 700000) :
    Calls Try.prog 118 #[.pointer (some ⟨s, 0, none⟩)] w fun e w' => ∃ (U L W : Int) (rs : List (Int × Int)) (A : Option Addr) (C : Nat), e = .returned (.agg #[.int .i64 U, .int .i64 L, .int .i64 W, .slice A (List.length rs) C]) ∧ FrmD U L W ∧ RodsD rs ∧
      1 ≤ rs.length ∧ rs.length ≤ 6 ∧ OwnF pairF 102 w' w.heap.size w'.heap.size (.slice A rs.length C) rs ∧ Touch s (s + 1) w w' ∧ Src w' s (K + 60) := by
  have hs := h.lt
  obtain ⟨r, hr⟩ : ∃ r, r = w.heap.size := ⟨_, rfl⟩
  obtain ⟨u, hu⟩ : ∃ u, u = (w.alloc (.cells #[.int .i64 0, .int .i64 0, .int .i64 0, .slice none 0 0] 26)).alloc (.cells #[.int .i64 1, .int .i64 4, .int .i64 5, .slice none 0 0] 26) := ⟨_, rfl⟩
  have br : Bx u r 26 #[.int .i64 0, .int .i64 0, .int .i64 0, .slice none 0 0] := by rw [hu, hr]; exact (Bx.new _ _ _).alloc _
  obtain ⟨B, hB⟩ : ∃ B, B = r + 1 := ⟨_, rfl⟩
  have bB : Bx u B 26 #[.int .i64 1, .int .i64 4, .int .i64 5, .slice none 0 0] := by
    rw [hu, hB, hr]; simpa using Bx.new (w.alloc (.cells #[.int .i64 0, .int .i64 0, .int .i64 0, .slice none 0 0] 26)) #[.int .i64 1, .int .i64 4, .int .i64 5, .slice none 0 0] 26
  have hbu : Below w.heap.size w u := by rw [hu]; exact (by repeat (first | exact Below.refl _ _ | refine Below.setCell ?_ (by first | omega | (simp <;> omega)) _ | refine Below.alloc ?_ (by first | omega | (simp <;> omega)) _ | refine Below.drew ?_))
  have hsu : u.heap.size = B + 1 := by rw [hu, hB, hr]; simp
  have su : Src u s K := h.lo hbu hs
  have tu : Touch s (s + 1) w u := Below.touch hbu
  have HU := Lib.hid hu
  have HR := Lib.hid hr
  clear hu h hbu
  have hsr : s < r := by omega
  go_enter Try.func118, Try.ntmps118
  go_wp2_with fail
  rw [← HU.out, ← hr, ← hB]
  clear hr
  refine (pick_any s K 4 u su (by omega) (by omega)).mono ?_
  rintro e w1 ⟨z, rfl, z0, z1, hs1, ht1⟩
  have hl1 := ht1.size
  replace br := br.touch ht1 (by omega)
  replace bB := bB.touch ht1 (by omega)
  replace tu := tu.trans ht1
  have HB := Lib.hid hB
  clear ht1 su hB hsu
  have hrB : r < B := by have := HB.out; omega
  go_upto_block 0 with fail
  go_cut [3] from 10 (fun s3 wx => s3 = .pointer (some ⟨B, 0, none⟩) ∧ AbaFrm s (K + 6) r B w wx)
  case first =>
    by_cases hz : z = 0
    · subst hz
      have c0 := bB.at_ 0 rfl
      have c1 := bB.at_ 1 rfl
      have c2 := bB.at_ 2 rfl
      have c3 := bB.at_ 3 rfl
      have f0 := bB.thaw 0
      have f1 := bB.thaw 1
      have f2 := bB.thaw 2
      have f3 := bB.thaw 3
      have b2 := (((bB.set_ 0 (.int .i64 2)).set_ 1 (.int .i64 5)).set_ 2 (.int .i64 5)).set_ 3 (.slice none 0 0)
      have r2 := (((br.far (p := ⟨B, 0, none⟩) (by simp; omega) (.int .i64 2)).far (p := ⟨B, 1, none⟩) (by simp; omega) (.int .i64 5)).far (p := ⟨B, 2, none⟩) (by simp; omega) (.int .i64 5)).far (p := ⟨B, 3, none⟩) (by simp; omega) (.slice none 0 0)
      have tt : Touch B (B + 1) w1 ((((w1.setCell ⟨B, 0, none⟩ (.int .i64 2)).setCell ⟨B, 1, none⟩ (.int .i64 5)).setCell ⟨B, 2, none⟩ (.int .i64 5)).setCell ⟨B, 3, none⟩ (.slice none 0 0)) :=
        ((((Touch.refl _ _ _).setCell (by simp) (by simp) _).setCell (by simp) (by simp) _).setCell (by simp) (by simp) _).setCell (by simp) (by simp) _
      have s2 := (hs1.touch tt (by omega)).mono (M := K + 6) (by omega)
      have t2 := tu.then_ tt (by have := HR.out; omega)
      clear tt br bB tu hs1
      go_wp2_with fail
      go_meet
      case rel => exact ⟨rfl, 2, 5, 5, ⟨by omega, by omega, by omega, by omega, by omega, by omega⟩, b2, r2, s2, t2⟩
    · have hzb : (z == 0) = false := beq_eq_false_iff_ne.2 hz
      by_cases h1 : z = 1
      · subst h1
        go_wp2_with fail
        refine (pick_any s _ 2 w1 hs1 (by omega) (by omega)).mono ?_
        rintro e w2 ⟨y, rfl, y0, y1, hs2, ht2⟩
        have hl2 := ht2.size
        replace br := br.touch ht2 (by omega)
        replace bB := bB.touch ht2 (by omega)
        replace tu := tu.trans ht2
        have v1 : IntKind.i64.wrap (9 + y) = 9 + y := fits_int _ (by omega) (by omega)
        clear ht2 hs1
        go_wp2_with fail
        refine (pick_any s _ 9 w2 hs2 (by omega) (by omega)).mono ?_
        rintro e w3 ⟨x, rfl, x0, x1, hs3, ht3⟩
        have hl3 := ht3.size
        replace br := br.touch ht3 (by omega)
        replace bB := bB.touch ht3 (by omega)
        replace tu := tu.trans ht3
        have v2 : IntKind.i64.wrap (1 + x) = 1 + x := fits_int _ (by omega) (by omega)
        have c0 := bB.at_ 0 rfl
        have c1 := bB.at_ 1 rfl
        have c2 := bB.at_ 2 rfl
        have c3 := bB.at_ 3 rfl
        have f0 := bB.thaw 0
        have f1 := bB.thaw 1
        have f2 := bB.thaw 2
        have f3 := bB.thaw 3
        have b2 := (((bB.set_ 0 (.int .i64 0)).set_ 1 (.int .i64 (9 + y))).set_ 2 (.int .i64 (1 + x))).set_ 3 (.slice none 0 0)
        have r2 := (((br.far (p := ⟨B, 0, none⟩) (by simp; omega) (.int .i64 0)).far (p := ⟨B, 1, none⟩) (by simp; omega) (.int .i64 (9 + y))).far (p := ⟨B, 2, none⟩) (by simp; omega) (.int .i64 (1 + x))).far (p := ⟨B, 3, none⟩) (by simp; omega) (.slice none 0 0)
        have tt : Touch B (B + 1) w3 ((((w3.setCell ⟨B, 0, none⟩ (.int .i64 0)).setCell ⟨B, 1, none⟩ (.int .i64 (9 + y))).setCell ⟨B, 2, none⟩ (.int .i64 (1 + x))).setCell ⟨B, 3, none⟩ (.slice none 0 0)) :=
          ((((Touch.refl _ _ _).setCell (by simp) (by simp) _).setCell (by simp) (by simp) _).setCell (by simp) (by simp) _).setCell (by simp) (by simp) _
        have s2 := (hs3.touch tt (by omega)).mono (M := K + 6) (by omega)
        have t2 := tu.then_ tt (by have := HR.out; omega)
        have HF : Hid (FrmD 0 (9 + y) (1 + x)) := Lib.hid ⟨by omega, by omega, by omega, by omega, by omega, by omega⟩
        clear tt br bB tu hs3 hs2 x0 x1 y0 y1
        go_wp2_with fail
        go_meet
        case rel => exact ⟨rfl, 0, 9 + y, 1 + x, HF.out, b2, r2, s2, t2⟩
      · have h1b : (z == 1) = false := beq_eq_false_iff_ne.2 h1
        go_wp2_with fail
        go_meet
        case rel => exact ⟨rfl, 1, 4, 5, ⟨by omega, by omega, by omega, by omega, by omega, by omega⟩, bB, br, hs1.mono (by omega), tu⟩
  case rest =>
    clear bB br tu hs1 z0 z1
    obtain ⟨rfl, U, L, W, hF, bB, br, hs1, tu⟩ := hcut
    obtain ⟨w2, rfl⟩ : ∃ v, v = wc := ⟨_, rfl⟩
    have hBz := bB.lt
    go_wp2_with fail
    refine (pick_any s _ 6 w2 hs1 (by omega) (by omega)).mono ?_
    rintro e w3 ⟨x, rfl, x0, x1, hs3, ht3⟩
    have hl3 := ht3.size
    replace br := br.touch ht3 (by omega)
    replace bB := bB.touch ht3 (by omega)
    replace tu := tu.trans ht3
    have v2 : IntKind.i64.wrap (1 + x) = 1 + x := fits_int _ (by omega) (by omega)
    obtain ⟨j0, hj0⟩ : ∃ j : Nat, 1 + x = j := ⟨(1 + x).toNat, by omega⟩
    have hj1 : 1 ≤ j0 ∧ j0 ≤ 6 := by omega
    have HJ := Lib.hid hj0
    clear hj0 x0 x1 ht3 hs1
    go_wp2_with fail
    rw [HJ.out]
    go_loopw [4, 5] (fun i _ wr => ∃ (j : Nat) (rs : List (Int × Int)) (A : Option Addr) (C : Nat), j + rs.length ≤ 6 ∧ 1 ≤ j + rs.length ∧ i = .int .i64 (j : Nat) ∧ Bx wr B 26 #[.int .i64 U, .int .i64 L, .int .i64 W, .slice A rs.length C] ∧
      Bx wr r 26 #[.int .i64 0, .int .i64 0, .int .i64 0, .slice none 0 0] ∧ OwnF pairF 102 wr (B + 1) wr.heap.size (.slice A rs.length C) rs ∧ RodsD rs ∧ Src wr s (K + 8 + 4 * rs.length) ∧ Touch s (s + 1) w wr) (fun i _ _ => (intOf i).toNat)
    case atStart => exact ⟨j0, [], none, 0, by simp; omega, by simp; omega, by go_num, bB, br, ownF_nil _ _ _ _ _, (fun _ hx => by cases hx), by simpa using hs3, tu⟩
    case round =>
      clear bB br tu hs3 HJ v2
      obtain ⟨j, rs, A, C, hj, hj2, rfl, bB, br, ow, hrs, hsrc, tu⟩ := hrel
      have hBz := bB.lt
      cases j with
      | zero =>
        have hn1 : 1 ≤ rs.length := by omega
        have hn6 : rs.length ≤ 6 := by omega
        go_wp2_with fail
        refine (one_any s _ 4 wr hsrc (by omega) (by omega)).mono ?_
        rintro e w4 ⟨x, rfl, hs4, ht4⟩
        have hl4 := ht4.size
        replace br := br.touch ht4 (by omega)
        replace bB := bB.touch ht4 (by omega)
        replace ow := (ow.touch ht4 (.inr (by omega))).wide (Nat.le_refl _) hl4
        replace tu := tu.trans ht4
        replace hs4 := hs4.mono (M := K + 40) (by omega)
        clear ht4 hsrc hj hj2
        go_upto_if 41 with fail
        go_cut [6] from 42 to 61 (fun _ wx => ∃ rs' : List (Int × Int), rs'.length = rs.length ∧ Bx wx B 26 #[.int .i64 U, .int .i64 L, .int .i64 W, .slice A rs.length C] ∧ Bx wx r 26 #[.int .i64 0, .int .i64 0, .int .i64 0, .slice none 0 0] ∧
          OwnF pairF 102 wx (B + 1) wx.heap.size (.slice A rs'.length C) rs' ∧ RodsD rs' ∧ Src wx s (K + 46) ∧ Touch s (s + 1) w wx)
        case first =>
          cases x with
          | false =>
            go_wp2_with fail
            go_meet
            case rel => exact ⟨rs, rfl, bB, br, ow, hrs, hs4.mono (by omega), tu⟩
          | true =>
            have c3 := bB.at_ 3 rfl
            go_wp2_with fail
            refine (pick_any s _ (rs.length : Int) w4 hs4 (by omega) (by omega)).mono ?_
            rintro e w5 ⟨z, rfl, z0, z1, hs5, ht5⟩
            have hl5 := ht5.size
            replace br := br.touch ht5 (by omega)
            replace bB := bB.touch ht5 (by omega)
            replace ow := (ow.touch ht5 (.inr (by omega))).wide (Nat.le_refl _) hl5
            replace tu := tu.trans ht5
            obtain ⟨N, rfl⟩ := Int.eq_ofNat_of_zero_le z0
            have hN : N < rs.length := by omega
            clear ht5 hs4 c3 z0 z1
            obtain ⟨g, rfl, hg1, hg2, hg3⟩ := ow.head (by omega)
            have hBw := bB.lt
            have k0 : ∀ w', Touch s (s + 1) w5 w' → w'.cell? ⟨B, 0, none⟩ = some (.int .i64 U) := fun _ h => keptT h (bB.at_ 0 rfl) (by omega)
            have k1 : ∀ w', Touch s (s + 1) w5 w' → w'.cell? ⟨B, 1, none⟩ = some (.int .i64 L) := fun _ h => keptT h (bB.at_ 1 rfl) (by omega)
            have k3 : ∀ w', Touch s (s + 1) w5 w' → w'.cell? ⟨B, 3, none⟩ = some (.slice (some ⟨g, 0, none⟩) rs.length C) := fun _ h => keptT h (bB.at_ 3 rfl) (by omega)
            have v1 : IntKind.i64.wrap (U + 1) = U + 1 := fits_int _ (by have := hF.u0; omega) (by have := hF.u1; omega)
            have v2 : IntKind.i64.wrap (L + 1) = L + 1 := fits_int _ (by have := hF.l0; omega) (by have := hF.l1; omega)
            go_upto_region 16 with fail
            refine wp_region_marked (fun w' => Touch s (s + 1) w5 w') 15 (by kernel_rfl) ?_
            have hS : Touch s (s + 1) w5 w5.drew := ⟨rfl, rfl, rfl, Nat.le_refl _, fun _ _ _ => rfl⟩
            refine wpAnyM_take (i := 0) (v := ?_) rfl (by kernel_rfl) (by kernel_rfl) (by kernel_rfl) (by kernel_rfl) (by kernel_rfl) (fun _ _ _ h => h) hS (.inl ⟨by rfl, ?_⟩) ?_
            rotate_left 1
            · intro w' hS'; go_simp; try with_reducible rfl
            simp only [Act.put, List.setIfInBounds_toArray]
            refine wpAnyM_take (i := 1) (v := ?_) rfl (by kernel_rfl) (by kernel_rfl) (by kernel_rfl) (by kernel_rfl) (by kernel_rfl) (fun _ _ _ h => h) hS (.inl ⟨by rfl, ?_⟩) ?_
            rotate_left 1
            · intro w' hS'; go_simp; try with_reducible rfl
            simp only [Act.put]
            refine wpAnyM_take (i := 2) (v := ?_) rfl (by kernel_rfl) (by kernel_rfl) (by kernel_rfl) (by kernel_rfl) (by kernel_rfl) (fun _ _ _ h => h) hS (.inl ⟨by rfl, ?_⟩) ?_
            rotate_left 1
            · intro w' hS'; go_simp; try with_reducible rfl
            simp only [Act.put]
            refine wpAnyM_take (i := 3) (v := ?_) rfl (by kernel_rfl) (by kernel_rfl) (by kernel_rfl) (by kernel_rfl) (by kernel_rfl) (fun _ _ _ h => h) hS (.inl ⟨by rfl, ?_⟩) ?_
            rotate_left 1
            · intro w' hS'; go_simp; try with_reducible rfl
            simp only [Act.put]
            refine wpAnyM_take (i := 4) (v := ?_) rfl (by kernel_rfl) (by kernel_rfl) (by kernel_rfl) (by kernel_rfl) (by kernel_rfl) (fun _ _ _ h => h) hS (.inl ⟨by rfl, ?_⟩) ?_
            rotate_left 1
            · intro w' hS'; go_simp; try with_reducible rfl
            simp only [Act.put]
            refine wpAnyM_take (i := 5) (v := ?_) rfl (by kernel_rfl) (by kernel_rfl) (by kernel_rfl) (by kernel_rfl) (by kernel_rfl) (fun _ _ _ h => h) hS (.inl ⟨by rfl, ?_⟩) ?_
            rotate_left 1
            · intro w' hS'; go_simp; try with_reducible rfl
            simp only [Act.put]
            refine wpAnyM_take (i := 6) (v := ?_) rfl (by kernel_rfl) (by kernel_rfl) (by kernel_rfl) (by kernel_rfl) (by kernel_rfl) (fun _ _ _ h => h) hS (.inl ⟨by rfl, ?_⟩) ?_
            rotate_left 1
            · intro w' hS'; go_simp; try with_reducible rfl
            simp only [Act.put]
            refine wpAnyM_take (i := 8) (v := ?_) rfl (by kernel_rfl) (by kernel_rfl) (by kernel_rfl) (by kernel_rfl) (by kernel_rfl) (fun _ _ _ h => h) hS (.inl ⟨by rfl, ?_⟩) ?_
            rotate_left 1
            · intro w' hS'; go_simp; try with_reducible rfl
            simp only [Act.put]
            refine wpAnyM_take (i := 9) (v := ?_) rfl (by kernel_rfl) (by kernel_rfl) (by kernel_rfl) (by kernel_rfl) (by kernel_rfl) (fun _ _ _ h => h) hS (.inl ⟨by rfl, ?_⟩) ?_
            rotate_left 1
            · intro w' hS'; go_simp; try with_reducible rfl
            simp only [Act.put]
            refine wpAnyM_take (i := 10) (v := ?_) rfl (by kernel_rfl) (by kernel_rfl) (by kernel_rfl) (by kernel_rfl) (by kernel_rfl) (fun _ _ _ h => h) hS (.inl ⟨by rfl, ?_⟩) ?_
            rotate_left 1
            · intro w' hS'; go_simp; try with_reducible rfl
            simp only [Act.put]
            refine wpAnyM_take (i := 11) (v := ?_) rfl (by kernel_rfl) (by kernel_rfl) (by kernel_rfl) (by kernel_rfl) (by kernel_rfl) (fun _ _ _ h => h) hS (.inl ⟨by rfl, ?_⟩) ?_
            rotate_left 1
            · intro w' hS'; go_simp; try with_reducible rfl
            simp only [Act.put]
            clear k0 k1 k3
            have hs5d := hs5.lo (L := w5.heap.size) ((Below.refl _ _).drew) (by omega)
            have hsd := (show w5.drew.heap.size = w5.heap.size from rfl)
            have hu2 := hF.u1
            have hu0 := hF.u0
            have hl2 := hF.l1
            have hl0 := hF.l0
            refine wpAnyM_one (i := 7) (by kernel_rfl) rfl (by rfl) (fun K hK => ?_)
            go_simp
            refine (pick_any s _ (U + 1) w5.drew hs5d (by omega) (by omega)).mono ?_
            rintro e w6 ⟨y, rfl, y0, y1, hs6, ht6⟩
            replace hS := hS.trans ht6
            refine hK _ _ (.inr hS) ?_
            try simp only [Act.put, List.setIfInBounds_toArray]
            clear hK K ht6
            refine wpAnyM_one (i := 12) (by kernel_rfl) rfl (by rfl) (fun K hK => ?_)
            go_simp
            refine (pick_any s _ (L + 1) w6 hs6 (by omega) (by omega)).mono ?_
            rintro e w7 ⟨x, rfl, x0, x1, hs7, ht7⟩
            replace hS := hS.trans ht7
            refine hK _ _ (.inr hS) ?_
            try simp only [Act.put, List.setIfInBounds_toArray]
            clear hK K ht7
            refine wpAnyM_one (i := 13) (by kernel_rfl) rfl (by rfl) (fun K hK => ?_)
            go_simp
            refine hK _ _ (.inr hS) ?_
            try simp only [Act.put, List.setIfInBounds_toArray]
            clear hK K
            have hw7 := hS.size
            have bB7 := bB.touch hS (by omega)
            have br7 := br.touch hS (by omega)
            have ow7 := (ow.touch hS (.inr (by omega))).wide (Nat.le_refl _) hw7
            have tu7 := tu.trans hS
            obtain ⟨g0, g1⟩ := ow7.get2 (k := N) hN
            have f0 := ow7.thaw (N * 2)
            have f1 := ow7.thaw (N * 2 + 1)
            have HP := Lib.hid (ow7.put2 (k := N) hN (y, x))
            refine wpAnyM_take (i := 14) (v := ?_) rfl (by kernel_rfl) (by kernel_rfl) (by kernel_rfl) (by kernel_rfl) (by kernel_rfl) (fun _ _ _ h => h) hS (.inl ⟨by rfl, ?_⟩) ?_
            rotate_left 1
            · intro w' hS'; go_simp; try with_reducible rfl
            simp only [Act.put, List.setIfInBounds_toArray]
            refine wpAnyM_one (i := 15) (by kernel_rfl) rfl (by rfl) (fun K hK => ?_)
            go_simp
            refine hK _ _ (.inl rfl) ?_
            clear hK K
            refine wpAnyM_done (by kernel_rfl) ?_ _
            obtain ⟨w9, hw9⟩ : ∃ v, v = (w7.setCell ⟨g, N * 2, none⟩ (.int .i64 y)).setCell ⟨g, N * 2 + 1, none⟩ (.int .i64 x) := ⟨_, rfl⟩
            have HW := Lib.hid hw9
            have hz9 : w9.heap.size = w7.heap.size := by rw [hw9]; simp
            have tt : Touch g (g + 1) w7 w9 := by rw [hw9]; exact ((Touch.refl _ _ _).setCell (by simp) (by simp) _).setCell (by simp) (by simp) _
            have ow9 : OwnF pairF 102 w9 (B + 1) w9.heap.size (.slice (some ⟨g, 0, none⟩) (rs.set N (y, x)).length C) (rs.set N (y, x)) := by rw [hz9, List.length_set, hw9]; exact HP.out
            have b9 := bB7.touch tt (.inl (by omega))
            have br9 := br7.touch tt (.inl (by omega))
            have t9 := tu7.then_ tt (by have := HR.out; omega)
            have s9 := (hs7.touch tt (by omega)).mono (M := K + 46) (by omega)
            have hX := Lib.hid (rodsD_set (k := N) hrs (x := (y, x)) (show -100 ≤ y ∧ y ≤ 100 ∧ -100 ≤ x ∧ x ≤ 100 by omega))
            rw [← hw9]
            clear hw9 HP tt f0 f1 g0 g1 ow7 br7 bB7 hs7 tu7 tu br bB ow hs5 hs6 hs5d
            go_wp2_with fail
            go_meet
            case rel => exact ⟨rs.set N (y, x), by simp, b9, br9, ow9, hX.out, s9, t9⟩
        case rest =>
          clear bB br ow hrs hs4 tu
          obtain ⟨rs', hl', bB, br, ow, hrs, hs5, tu⟩ := hcut
          obtain ⟨w5, rfl⟩ : ∃ v, v = wc := ⟨_, rfl⟩
          have d0 := bB.at_ 0 rfl
          have d1 := bB.at_ 1 rfl
          have d2 := bB.at_ 2 rfl
          have d3 := bB.at_ 3 rfl
          have c0 := br.at_ 0 rfl
          have c1 := br.at_ 1 rfl
          have c2 := br.at_ 2 rfl
          have c3 := br.at_ 3 rfl
          have f0 := br.thaw 0
          have f1 := br.thaw 1
          have f2 := br.thaw 2
          have f3 := br.thaw 3
          have hrl := br.lt
          have tt : Touch r (r + 1) w5 ((((w5.setCell ⟨r, 0, none⟩ (.int .i64 U)).setCell ⟨r, 1, none⟩ (.int .i64 L)).setCell ⟨r, 2, none⟩ (.int .i64 W)).setCell ⟨r, 3, none⟩ (.slice A rs.length C)) :=
            ((((Touch.refl _ _ _).setCell (by simp) (by simp) _).setCell (by simp) (by simp) _).setCell (by simp) (by simp) _).setCell (by simp) (by simp) _
          have HO := Lib.hid ((ow.touch tt (.inr (by omega))).wide (lo' := w.heap.size) (hi' := ((((w5.setCell ⟨r, 0, none⟩ (.int .i64 U)).setCell ⟨r, 1, none⟩ (.int .i64 L)).setCell ⟨r, 2, none⟩ (.int .i64 W)).setCell ⟨r, 3, none⟩ (.slice A rs.length C)).heap.size) (by have := HR.out; omega) (by simp))
          have HT := Lib.hid (tu.then_ tt (by have := HR.out; omega))
          have HS := Lib.hid ((hs5.touch tt (by omega)).mono (M := K + 60) (by omega))
          clear tt ow tu hs5
          go_wp2_with fail
          refine bodyPost_ret (v := .agg #[.int .i64 U, .int .i64 L, .int .i64 W, .slice A rs.length C]) (by simp [results, Try.results118, go_sem, c0, c1, c2, c3]) rfl ?_
          exact ⟨U, L, W, rs', A, C, by rw [hl'], hF, hrs, by omega, by omega, HO.out, HT.out, HS.out⟩
      | succ j =>
        have hpos : (0 : Int) < ((j + 1 : Nat) : Int) := by omega
        go_wp2_with fail
        refine (pick_any s _ 10 wr hsrc (by omega) (by omega)).mono ?_
        rintro e w4 ⟨d, rfl, d0, d1, hs4, ht4⟩
        have hl4 := ht4.size
        replace br := br.touch ht4 (by omega)
        replace bB := bB.touch ht4 (by omega)
        replace ow := (ow.touch ht4 (.inr (by omega))).wide (Nat.le_refl _) hl4
        replace tu := tu.trans ht4
        clear ht4 hsrc
        go_wp2_with fail
        refine (one_any s _ 3 w4 hs4 (by omega) (by omega)).mono ?_
        rintro e w5 ⟨x, rfl, hs5, ht5⟩
        have hl5 := ht5.size
        replace br := br.touch ht5 (by omega)
        replace bB := bB.touch ht5 (by omega)
        replace ow := (ow.touch ht5 (.inr (by omega))).wide (Nat.le_refl _) hl5
        replace tu := tu.trans ht5
        clear ht5 hs4
        go_upto_if 32 with fail
        go_cut [5] from 33 to 39 (fun s5 wx => ∃ d : Int, s5 = .int .i64 d ∧ 0 ≤ d ∧ d ≤ 9 ∧ wx = w5)
        case first =>
          cases x with
          | true =>
            go_wp2_with fail
            go_meet
            case rel => exact ⟨9, rfl, by omega, by omega, rfl⟩
          | false =>
            go_wp2_with fail
            go_meet
            case rel => exact ⟨d, rfl, d0, by omega, rfl⟩
        case rest =>
          clear d0 d1
          obtain ⟨d, rfl, d0, d1, rfl⟩ := hcut
          obtain ⟨w6, rfl⟩ : ∃ v, v = wc := ⟨_, rfl⟩
          have hBw := bB.lt
          have k3 := kept_lo (L := B + 1) (bB.at_ 3 rfl) (by omega)
          go_upto_region 13 with fail
          refine wp_region_marked (fun w' => Below (B + 1) w6 w') 7 (by kernel_rfl) ?_
          have hS : Below (B + 1) w6 w6.drew := (Below.refl _ _).drew
          refine wpAnyM_take (i := 0) (v := ?_) rfl (by kernel_rfl) (by kernel_rfl) (by kernel_rfl) (by kernel_rfl) (by kernel_rfl) (fun _ _ _ h => h) hS (.inl ⟨by rfl, ?_⟩) ?_
          rotate_left 1
          · intro w' hS'; go_simp; try with_reducible rfl
          simp only [Act.put, List.setIfInBounds_toArray]
          refine wpAnyM_take (i := 1) (v := ?_) rfl (by kernel_rfl) (by kernel_rfl) (by kernel_rfl) (by kernel_rfl) (by kernel_rfl) (fun _ _ _ h => h) hS (.inl ⟨by rfl, ?_⟩) ?_
          rotate_left 1
          · intro w' hS'; go_simp; try with_reducible rfl
          simp only [Act.put]
          refine wpAnyM_take (i := 2) (v := ?_) rfl (by kernel_rfl) (by kernel_rfl) (by kernel_rfl) (by kernel_rfl) (by kernel_rfl) (fun _ _ _ h => h) hS (.inl ⟨by rfl, ?_⟩) ?_
          rotate_left 1
          · intro w' hS'; go_simp; try with_reducible rfl
          simp only [Act.put]
          clear k3
          refine wpAnyM_one (i := 3) (by kernel_rfl) rfl (by rfl) (fun K hK => ?_)
          go_simp
          refine (l03Digit_any B U L W A rs.length C d w6.drew (AbaAt.of_box bB.drew) hF.u0 (by have := hF.u1; omega) hF.w0 (by have := hF.w1; omega) d0 d1).mono ?_
          rintro e w7 ⟨rfl, hb7⟩
          have hS7 : Below w6.heap.size w6 w7 := (Below.refl _ _).drew.trans hb7
          have hw7 := hS7.size
          have ow7 := (ow.below hS7).wide (Nat.le_refl _) hw7
          have hg := digP_small hF.u0 hF.u1 hF.w0 hF.w1 d0 d1
          obtain ⟨q, hq⟩ : ∃ q, q = digP U W d := ⟨_, rfl⟩
          rw [← hq] at hg
          rw [← hq]
          replace hS := hS.trans (hb7.mono (show B + 1 ≤ w6.heap.size by omega))
          clear hb7 hq
          refine hK _ _ (.inr hS) ?_
          try simp only [Act.put, List.setIfInBounds_toArray]
          clear hK K
          refine wpAnyM_one (i := 4) (by kernel_rfl) rfl (by rfl) (fun K hK => ?_)
          go_simp
          replace hS := hS.alloc (by have := hS.size; omega) (.cells #[.int .i64 q.1, .int .i64 q.2] 102)
          refine hK _ _ (.inr hS) ?_
          clear hK K
          try simp only [Act.put, List.setIfInBounds_toArray]
          refine wpAnyM_one (i := 5) (by kernel_rfl) rfl (by rfl) (fun K hK => ?_)
          refine wp_appR (.tmp 34) (.tmp 37) 24 102 rfl (.agg #[.int .i64 0, .int .i64 0]) 2 16 Try.underlying24 info_Rod rfl (by omega) (by omega) rfl ((ow7.row).alloc _) ⟨w7.heap.size, 0, none⟩ 1 1 (flat pairF [q]) rfl rfl ?_ flat_mem (by omega) (by simp <;> omega) ?_
          · intro i u hu
            have hbx := Bx.new w7 #[.int .i64 q.1, .int .i64 q.2] 102
            match i, hu with
            | 0, hu => simp [flat, pairF] at hu; subst hu; exact hbx.at_ 0 rfl
            | 1, hu => simp [flat, pairF] at hu; subst hu; exact hbx.at_ 1 rfl
          intro A' C' w8 row8 ht8
          replace hS : Below (B + 1) w6 w8 := hS.trans (ht8.below (Nat.le_refl _) (by simp <;> omega))
          have hw8 := hS.size
          have bB8 := bB.lo hS (by omega)
          have br8 := br.lo hS (by omega)
          have c3 := bB8.at_ 3 rfl
          have f3 := bB8.thaw 3
          refine hK _ _ (.inr hS) ?_
          try simp only [Act.put, List.setIfInBounds_toArray]
          clear hK K
          refine wpAnyM_take (i := 6) (v := ?_) rfl (by kernel_rfl) (by kernel_rfl) (by kernel_rfl) (by kernel_rfl) (by kernel_rfl) (fun _ _ _ h => h) hS (.inl ⟨by rfl, ?_⟩) ?_
          rotate_left 1
          · intro w' hS'; go_simp; try with_reducible rfl
          simp only [Act.put]
          refine wpAnyM_one (i := 7) (by kernel_rfl) rfl (by rfl) (fun K hK => ?_)
          go_simp
          refine hK _ _ (.inl rfl) ?_
          clear hK K
          refine wpAnyM_done (by kernel_rfl) ?_ _
          have ow8 : OwnF pairF 102 w8 (B + 1) w8.heap.size (.slice A' (rs.length + 1) C') (rs ++ [q]) := ⟨by rw [flat_append, List.length_append]; exact row8, by simp; omega⟩
          have tS := tu.then_ (Below.touchAt hS) (by have := HR.out; omega)
          have sS := hs5.lo (L := B + 1) hS (by omega)
          have hX := Lib.hid (rodsD_snoc hrs hg)
          clear ow7 hg row8 ht8 bB br tu hs5 hrs
          obtain ⟨w9, hw9⟩ : ∃ v, v = w8.setCell ⟨B, 3, none⟩ (.slice A' (rs.length + 1) C') := ⟨_, rfl⟩
          rw [← hw9]
          have b9 : Bx w9 B 26 #[.int .i64 U, .int .i64 L, .int .i64 W, .slice A' (rs ++ [q]).length C'] := by rw [hw9, List.length_append]; exact bB8.set_ 3 _
          have br9 : Bx w9 r 26 #[.int .i64 0, .int .i64 0, .int .i64 0, .slice none 0 0] := by rw [hw9]; exact br8.far (by simp; omega) _
          have hz9 : w9.heap.size = w8.heap.size := by rw [hw9]; simp
          have ow9 : OwnF pairF 102 w9 (B + 1) w9.heap.size (.slice A' (rs ++ [q]).length C') (rs ++ [q]) := by rw [hz9, hw9, List.length_append]; exact ow8.setCell (.inl (by simp)) _
          have tt : Touch B (B + 1) w8 w9 := by rw [hw9]; exact (Touch.refl _ _ _).setCell (by simp) (by simp) _
          have t9 := tS.then_ tt (by have := HR.out; omega)
          have s9 := (sS.touch tt (by omega)).mono (M := K + 8 + 4 * (rs ++ [q]).length) (by simp; omega)
          clear hw9 c3 f3 tt tS sS ow8 bB8 br8
          go_wp2_with fail
          go_roundw
          case rel => exact ⟨j, rs ++ [q], A', C', by simp; omega, by simp; omega, by go_num, b9, br9, ow9, hX.out, s9, t9⟩
          case measure => (simp [intOf]) <;> omega
end Go.Proofs.Ytcfpfhlgcfmioaa
