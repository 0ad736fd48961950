/-
  impl.BeadsBetween and what it calls.
-/
import Derived.Test.YthhphopmkmbmiaaAbaQ
import Derived.Test.YthhphopmkmbmiaaAbaV
namespace Go.Proofs.Ythhphopmkmbmiaa
open Go.RowKit

theorem absolute_any (n : Int) (w : World) (h1 : -1000 ≤ n) (h2 : n ≤ 1000) : Calls Try.prog 154 #[.int .i64 n] w fun e w' => e = .returned (.int .i64 (max n (-n))) ∧ w' = w := by
  by_cases h : n < -n
  · have H := Lib.hid (show max n (-n) = -n by omega)
    go_enter Try.func154, Try.ntmps154
    go_wp2
    go_ret
    exact ⟨ret_int H.out.symm, rfl⟩
  · have H := Lib.hid (show max n (-n) = n by omega)
    go_enter Try.func154, Try.ntmps154
    go_wp2
    go_ret
    exact ⟨ret_int H.out.symm, rfl⟩

theorem distR_swap (r s : Int × Int) : max (s.1 - r.1) (-(s.1 - r.1)) + max (s.2 - r.2) (-(s.2 - r.2)) = distR r s := by unfold distR; omega

set_option maxHeartbeats 1000000 in
theorem distance_any (r s : Int × Int) (w : World) (h1 : -1000 ≤ s.1 - r.1 ∧ s.1 - r.1 ≤ 1000) (h2 : -1000 ≤ s.2 - r.2 ∧ s.2 - r.2 ≤ 1000) : Calls Try.prog 116 #[.agg #[.int .i64 r.1, .int .i64 r.2], .agg #[.int .i64 s.1, .int .i64 s.2]] w fun e w' =>
    e = .returned (.int .i64 (distR r s)) ∧ Below w.heap.size w w' := by
  have t1 : 0 ≤ max (s.1 - r.1) (-(s.1 - r.1)) ∧ max (s.1 - r.1) (-(s.1 - r.1)) ≤ 1000 := by omega
  have t2 : 0 ≤ max (s.2 - r.2) (-(s.2 - r.2)) ∧ max (s.2 - r.2) (-(s.2 - r.2)) ≤ 1000 := by omega
  have hw1 : IntKind.i64.wrap (s.1 - r.1) = s.1 - r.1 := IntWalk.i64_in _ (by omega)
  have hw2 : IntKind.i64.wrap (s.2 - r.2) = s.2 - r.2 := IntWalk.i64_in _ (by omega)
  have hw3 : IntKind.i64.wrap (max (s.1 - r.1) (-(s.1 - r.1)) + max (s.2 - r.2) (-(s.2 - r.2))) = distR r s := by rw [← distR_swap]; exact IntWalk.i64_in _ (by omega)
  clear t1 t2
  go_enter Try.func116, Try.ntmps116
  go_wp2
  go_quiet ((go_at_call 154; first | exact Calls.quiet_of_same (absolute_any _ _ h1.1 h1.2) | exact Calls.quiet_of_same (absolute_any _ _ h2.1 h2.2)))
  go_wp2
  go_ret
  exact ⟨rfl, bel_drewN (by repeat (first | exact Below.refl _ _ | refine Below.setCell ?_ (by simp <;> omega) _ | refine Below.alloc ?_ (by simp <;> omega) _ | refine Below.drew ?_)) _⟩

theorem likeB_true {U L W U' L' W' : Int} {n m : Nat} (h : U = U' ∧ L = L' ∧ W = W' ∧ n = m) : likeB U L W U' L' W' n m = true := by simp [likeB, h]
theorem likeB_false {U L W U' L' W' : Int} {n m : Nat} (h : ¬ (U = U' ∧ L = L' ∧ W = W' ∧ n = m)) : likeB U L W U' L' W' n m = false := by simp only [likeB, decide_eq_false_iff_not]; exact h

set_option maxHeartbeats 2000000 in
theorem implBeadsBetween (U L W : Int) (a : Option Addr) (c : Nat) (rs : List (Int × Int)) (U' L' W' : Int) (b : Option Addr) (d : Nat) (ss : List (Int × Int)) (w : World) (ha : RdF pairF w a rs) (bU : I64 U) (bL : I64 L) (bW : I64 W) (z : All2 rs) (hb : RdF pairF w b ss) (bU' : I64 U') (bL' : I64 L') (bW' : I64 W') (z' : All2 ss) :
    Calls Try.prog 55 #[.agg #[.int .i64 U, .int .i64 L, .int .i64 W, .slice a rs.length c], .agg #[.int .i64 U', .int .i64 L', .int .i64 W', .slice b ss.length d]] w fun e w' => e = .returned (.tuple #[.int .i64 (btwR U L W U' L' W' rs ss).1, .int .i64 (btwR U L W U' L' W' rs ss).2]) ∧ Below w.heap.size w w' := by
  have hx1 := ha.len
  have hy1 := hb.len
  obtain ⟨u, hu⟩ : ∃ u, u = (w.alloc (.cells #[.int .i64 U, .int .i64 L, .int .i64 W, .slice a rs.length c] 38)).alloc (.cells #[.int .i64 U', .int .i64 L', .int .i64 W', .slice b ss.length d] 38) := ⟨_, rfl⟩
  have hbel : Below w.heap.size w u := by rw [hu]; exact (by repeat (first | exact Below.refl _ _ | refine Below.setCell ?_ (by simp <;> omega) _ | refine Below.alloc ?_ (by simp <;> omega) _ | refine Below.drew ?_))
  have at0 : AbaAt u w.heap.size U L W a rs.length c := by rw [hu]; exact .of_box ((Bx.new _ _ _).alloc _)
  have at1 : AbaAt u (w.heap.size + 1) U' L' W' b ss.length d := by rw [hu]; exact .of_box (by simpa using Bx.new (w.alloc (.cells #[.int .i64 U, .int .i64 L, .int .i64 W, .slice a rs.length c] 38)) #[.int .i64 U', .int .i64 L', .int .i64 W', .slice b ss.length d] 38)
  have hus : w.heap.size + 1 < u.heap.size := by rw [hu]; simp
  replace ha := ha.below hbel
  replace hb := hb.below hbel
  have HU := Lib.hid hu
  clear hu
  have HO := Lib.hid (implValidAbacus U L W a c rs u ha bU bL bW z)
  have HO2 := Lib.hid (fun (v : World) (hv : Below u.heap.size u v) => implValidAbacus U' L' W' b d ss v (hb.below hv) bU' bL' bW' z')
  cases h : abaB U L W rs with
  | false =>
    have HR := Lib.hid (btw_bad1 (U' := U') (L' := L') (W' := W') (ss := ss) h)
    rw [h] at HO
    clear h at0 at1
    go_enter Try.func55, Try.ntmps55
    go_wp2_with fail
    rw [← HU.out]
    refine HO.out.mono ?_
    rintro e w1 ⟨rfl, hb1⟩
    go_wp2
    go_ret2
    exact ⟨ret_two HR.out, hbel.trans (hb1.mono hbel.size)⟩
  | true =>
    rw [h] at HO
    cases h' : abaB U' L' W' ss with
    | false =>
      have HR := Lib.hid (btw_bad2 (U := U) (L := L) (W := W) (rs := rs) h')
      rw [h'] at HO2
      clear h h'
      go_enter Try.func55, Try.ntmps55
      go_wp2_with fail
      rw [← HU.out]
      refine HO.out.mono ?_
      rintro e w1 ⟨rfl, hb1⟩
      obtain ⟨d0, d1, d2, d3⟩ := at1.below hb1
      go_wp2_with fail
      refine (HO2.out w1 hb1).mono ?_
      rintro e w2 ⟨rfl, hb2⟩
      go_wp2
      go_ret2
      exact ⟨ret_two HR.out, hbel.trans ((hb1.trans (hb2.mono hb1.size)).mono hbel.size)⟩
    | true =>
      rw [h'] at HO2
      by_cases hn : U = U' ∧ L = L' ∧ W = W' ∧ rs.length = ss.length
      · have HR := Lib.hid (btw_ok h h' hn)
        have HV := Lib.hid (aba_of h)
        have HV' := Lib.hid (aba_of h')
        have HK := Lib.hid (likeB_true hn)
        obtain ⟨h0, h1, h2, h3⟩ := hn
        have HL := Lib.hid h3
        have HE := Lib.hid (And.intro h0 h1)
        clear h h' h0 h1 h2 h3
        go_enter Try.func55, Try.ntmps55
        go_wp2_with fail
        rw [← HU.out]
        refine HO.out.mono ?_
        rintro e w1 ⟨rfl, hb1⟩
        obtain ⟨d0, d1, d2, d3⟩ := at1.below hb1
        go_wp2_with fail
        refine (HO2.out w1 hb1).mono ?_
        rintro e w2 ⟨rfl, hb2⟩
        replace hb2 := hb1.trans (hb2.mono hb1.size)
        clear d0 d1 d2 d3 hb1
        obtain ⟨c0, c1, c2, c3⟩ := at0.below hb2
        obtain ⟨d0, d1, d2, d3⟩ := at1.below hb2
        go_wp2_with fail
        refine (isLike_any U L W U' L' W' a b rs.length ss.length c d w2).mono ?_
        rintro e w3 ⟨rfl, hb3⟩
        rw [HK.out]
        replace hb3 := hb2.trans (hb3.mono hb2.size)
        clear c0 c1 c2 c3 d0 d1 d2 d3 hb2
        replace hbel := hbel.trans (hb3.mono hbel.size)
        replace ha := ha.below hb3
        replace hb := hb.below hb3
        obtain ⟨c0, c1, c2, c3⟩ := at0.below hb3
        obtain ⟨d0, d1, d2, d3⟩ := at1.below hb3
        clear at0 at1 w1 w2
        go_wp2
        go_loopw [6, 24] (fun s i wr => ∃ k : Nat, k ≤ rs.length ∧ i = .int .i64 k ∧ s = .int .i64 (distL (rs.take k) (ss.take k)) ∧ Below w3.heap.size w3 wr) (fun _ i _ => rs.length - (intOf i).toNat)
        case atStart => exact ⟨0, Nat.zero_le _, by go_num, by simp [distL], Below.refl _ _⟩
        case round =>
          obtain ⟨k, hk, rfl, rfl, hbw⟩ := hrel
          by_cases hlt : k < rs.length
          · have hlt' : k < ss.length := by rw [← HL.out]; exact hlt
            obtain ⟨b1, o1, rfl, p0, p1⟩ := (ha.below hbw).at2 hlt
            have hq : Below wr.heap.size wr (wr.alloc (.cells #[.int .i64 (elt pairF rs k).1, .int .i64 (elt pairF rs k).2] 106)) := (Below.refl _ _).alloc (Nat.le_refl _) _
            have hq2 := hbw.trans (hq.mono hbw.size)
            obtain ⟨b2, o2, rfl, q0, q1⟩ := (hb.below hq2).at2 hlt'
            have f3 := kept_after (kept hq2 d3)
            have q0' := kept_after q0
            have q1' := kept_after q1
            clear q0 q1
            have bxr := Bx.new wr #[.int .i64 (elt pairF rs k).1, .int .i64 (elt pairF rs k).2] 106
            have r0 := kept_after (p := ⟨wr.heap.size, 0, none⟩) (v := .int .i64 (elt pairF rs k).1) (bxr.at_ 0 rfl)
            have r1 := kept_after (p := ⟨wr.heap.size, 1, none⟩) (v := .int .i64 (elt pairF rs k).2) (bxr.at_ 1 rfl)
            have hr := rodB_true (rodsB_at HV.out.rods hlt)
            have hr' := rodB_true (rodsB_at HV'.out.rods hlt')
            have u1 := HV.out.u1
            have l1 := HV.out.l1
            have u1' := HV'.out.u1
            have l1' := HV'.out.l1
            have n1 := HV.out.n1
            have hD := distL_bd u1 l1 hk (by omega : k ≤ ss.length) (rodsB_true HV.out.rods) (by have := rodsB_true HV'.out.rods; rwa [← HE.out.1, ← HE.out.2] at this)
            have hd2 := distR_bd u1 l1 (rodsB_at HV.out.rods hlt) (by have := rodsB_at HV'.out.rods hlt'; rwa [← HE.out.1, ← HE.out.2] at this)
            have HS := Lib.hid (show distL (rs.take (k + 1)) (ss.take (k + 1)) = distL (rs.take k) (ss.take k) + distR (elt pairF rs k) (elt pairF ss k) from distL_step hlt hlt')
            have g1 : -1000 ≤ (elt pairF ss k).1 - (elt pairF rs k).1 ∧ (elt pairF ss k).1 - (elt pairF rs k).1 ≤ 1000 := by omega
            have g2 : -1000 ≤ (elt pairF ss k).2 - (elt pairF rs k).2 ∧ (elt pairF ss k).2 - (elt pairF rs k).2 ≤ 1000 := by omega
            have hw4 : IntKind.i64.wrap (distL (rs.take k) (ss.take k) + distR (elt pairF rs k) (elt pairF ss k)) = distL (rs.take (k + 1)) (ss.take (k + 1)) := by rw [HS.out]; exact IntWalk.i64_in _ (by omega)
            clear hr hr' hD hd2
            go_wp2
            refine wp_region_after (by kernel_rfl) (by kernel_rfl) ?_
            repeat (go_big_quiet_step ((go_at_call 116; exact calls_after (distance_any _ _ _ g1 g2))))
            refine wpQuiet_nil ?_
            intro u2
            go_wp2
            clear hw4
            go_roundw
            case rel => exact ⟨k + 1, by omega, by go_num, rfl, hq2.trans (u2.ok.mono hq2.size)⟩
            case measure => (simp [intOf]) <;> omega
          · obtain rfl : k = rs.length := by omega
            have e : distL (rs.take rs.length) (ss.take rs.length) = distL rs ss := by
              rw [List.take_of_length_le (Nat.le_refl _), HL.out, List.take_of_length_le (Nat.le_refl _)]
            rw [e] at *
            clear e
            go_wp2
            go_ret2
            exact ⟨ret_two HR.out, hbel.trans (hbw.mono hbel.size)⟩
      · have HR := Lib.hid (btw_ne h h' hn)
        have HK := Lib.hid (likeB_false hn)
        clear h h' hn
        go_enter Try.func55, Try.ntmps55
        go_wp2_with fail
        rw [← HU.out]
        refine HO.out.mono ?_
        rintro e w1 ⟨rfl, hb1⟩
        obtain ⟨d0, d1, d2, d3⟩ := at1.below hb1
        go_wp2_with fail
        refine (HO2.out w1 hb1).mono ?_
        rintro e w2 ⟨rfl, hb2⟩
        replace hb2 := hb1.trans (hb2.mono hb1.size)
        clear d0 d1 d2 d3 hb1
        obtain ⟨c0, c1, c2, c3⟩ := at0.below hb2
        obtain ⟨d0, d1, d2, d3⟩ := at1.below hb2
        go_wp2_with fail
        refine (isLike_any U L W U' L' W' a b rs.length ss.length c d w2).mono ?_
        rintro e w3 ⟨rfl, hb3⟩
        rw [HK.out]
        go_wp2
        go_ret2
        exact ⟨ret_two HR.out, hbel.trans ((hb2.trans (hb3.mono hb2.size)).mono hbel.size)⟩
end Go.Proofs.Ythhphopmkmbmiaa
