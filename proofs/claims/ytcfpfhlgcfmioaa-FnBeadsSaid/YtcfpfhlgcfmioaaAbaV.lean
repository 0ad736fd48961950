/-
  spec.AbacusValue, BeadsBetween and what they call.
-/
import Derived.Test.YtcfpfhlgcfmioaaAbaS
namespace Go.Proofs.Ytcfpfhlgcfmioaa
open Go.RowKit

theorem l03Size_any (n : Int) (w : World) (h1 : -1000 ≤ n) (h2 : n ≤ 1000) : Calls Try.prog 89 #[.int .i64 n] w fun e w' => e = .returned (.int .i64 (max n (-n))) ∧ w' = w := by
  go_enter Try.func89, Try.ntmps89
  go_wp2_with fail
  refine (l00Max_any n (-n) w).mono ?_
  rintro e w1 ⟨rfl, hq⟩
  subst w1
  go_wp2
  go_ret
  exact ⟨rfl, rfl⟩

set_option maxHeartbeats 1000000 in
theorem l03Rod_any (p : Nat) (U L W : Int) (a : Option Addr) (c : Nat) (rs : List (Int × Int)) (k : Nat) (w : World) (h : AbaAt w p U L W a rs.length c) (ha : RdF pairF w a rs) (hv : Aba U L W rs) (hk : k < rs.length) :
    Calls Try.prog 124 #[.pointer (some ⟨p, 0, none⟩), .int .i64 k] w fun e w' => e = .returned (.int .i64 (showR W (elt pairF rs k))) ∧ ∃ n, w' = w.drewN n := by
  have hx := ha.len
  obtain ⟨c0, c1, c2, c3⟩ := h
  obtain ⟨b, off, rfl, p0, p1⟩ := ha.at2 hk
  obtain ⟨m0, m1, s0, s1⟩ := show_bd hv.u1 hv.l1 hv.w0 hv.w1 (rodsB_at hv.rods hk)
  have s2 : showR W (elt pairF rs k) = (elt pairF rs k).1 * W + (elt pairF rs k).2 := rfl
  have hw1 : IntKind.i64.wrap ((elt pairF rs k).1 * W) = (elt pairF rs k).1 * W := IntWalk.i64_in _ (by omega)
  have hw2 : IntKind.i64.wrap ((elt pairF rs k).1 * W + (elt pairF rs k).2) = (elt pairF rs k).1 * W + (elt pairF rs k).2 := IntWalk.i64_in _ (by rw [← s2]; omega)
  clear hv s2 s0 s1
  go_enter Try.func124, Try.ntmps124
  go_wp2
  go_quiet (fail)
  go_wp2
  go_ret
  exact ⟨ret_int rfl, _, rfl⟩

set_option maxHeartbeats 1000000 in
theorem l03Value_any (p : Nat) (U L W : Int) (a : Option Addr) (c : Nat) (rs : List (Int × Int)) (w : World) (h : AbaAt w p U L W a rs.length c) (ha : RdF pairF w a rs) (hv : Aba U L W rs) :
    Calls Try.prog 123 #[.pointer (some ⟨p, 0, none⟩)] w fun e w' => e = .returned (.int .i64 (abaV W rs)) ∧ ∃ n, w' = w.drewN n := by
  have hx := ha.len
  have c3 := h.c3
  go_enter Try.func123, Try.ntmps123
  go_wp2
  go_loopw [3, 4] (fun s i wr => ∃ k m : Nat, k ≤ rs.length ∧ i = .int .i64 ((k : Int) - 1) ∧ s = .int .i64 (abaV W (rs.drop k)) ∧ Hid (wr = w.drewN m)) (fun _ i _ => (intOf i + 1).toNat)
  case atStart => exact ⟨rs.length, 0, Nat.le_refl _, by go_num, by simp [abaV], Lib.hid rfl⟩
  case round =>
    obtain ⟨k, m, hk, hi, rfl, HW⟩ := hrel
    have hb : Below w.heap.size w wr := by rw [HW.out]; exact bel_drewN (Below.refl _ _) m
    cases k with
    | zero =>
      subst hi
      go_wp2
      go_ret
      exact ⟨rfl, _, HW.out⟩
    | succ k =>
      subst hi
      rw [show ((k + 1 : Nat) : Int) - 1 = (k : Int) from by omega]
      have hd := hv.vdrop (k + 1)
      have hd2 := hv.vdrop k
      have HS := Lib.hid (abaV_drop (W := W) (show k < rs.length by omega))
      have hd3 : 0 ≤ 10 * abaV W (rs.drop (k + 1)) + showR W (elt pairF rs k) ∧ 10 * abaV W (rs.drop (k + 1)) + showR W (elt pairF rs k) ≤ 57777777772 := by rw [← HS.out]; exact hd2
      clear hd2
      go_wp2_with fail
      refine (l03Rod_any p U L W a c rs k wr (h.below hb) (ha.below hb) hv (by omega)).mono ?_
      rintro e w1 ⟨rfl, n, rfl⟩
      go_wp2
      go_roundw
      case rel => exact ⟨k, _, by omega, by go_num, by rw [HS.out], Lib.hid (by rw [HW.out, drewN_drewN])⟩
      case measure => (simp [intOf]) <;> omega

theorem btw_bad1 {U L W U' L' W' : Int} {rs ss : List (Int × Int)} (h : abaB U L W rs = false) : btwR U L W U' L' W' rs ss = (0, 1) := by simp [btwR, h]
theorem btw_bad2 {U L W U' L' W' : Int} {rs ss : List (Int × Int)} (h : abaB U' L' W' ss = false) : btwR U L W U' L' W' rs ss = (0, 1) := by simp [btwR, h]
theorem btw_ne {U L W U' L' W' : Int} {rs ss : List (Int × Int)} (h : abaB U L W rs = true) (h' : abaB U' L' W' ss = true) (hn : ¬ (U = U' ∧ L = L' ∧ W = W' ∧ rs.length = ss.length)) : btwR U L W U' L' W' rs ss = (0, 6) := by rw [btwR, if_pos ⟨h, h'⟩, if_neg hn]
theorem btw_ok {U L W U' L' W' : Int} {rs ss : List (Int × Int)} (h : abaB U L W rs = true) (h' : abaB U' L' W' ss = true) (hn : U = U' ∧ L = L' ∧ W = W' ∧ rs.length = ss.length) : btwR U L W U' L' W' rs ss = (distL rs ss, 0) := by rw [btwR, if_pos ⟨h, h'⟩, if_pos hn]
theorem distL_bd {U L : Int} {rs ss : List (Int × Int)} (u1 : U ≤ 4) (l1 : L ≤ 12) : ∀ {k : Nat}, k ≤ rs.length → k ≤ ss.length → (∀ r ∈ rs, rodB U L r = true) → (∀ r ∈ ss, rodB U L r = true) → 0 ≤ distL (rs.take k) (ss.take k) ∧ distL (rs.take k) (ss.take k) ≤ 16 * (k : Int)
  | 0, _, _, _, _ => by simp [distL]
  | k + 1, h1, h2, hr, hs => by
    have ih := distL_bd u1 l1 (k := k) (by omega) (by omega) hr hs
    rw [takeE_succ (F := pairF) (by omega : k < rs.length), takeE_succ (F := pairF) (by omega : k < ss.length), distL_snoc _ _ (by simp; omega)]
    have := distR_bd u1 l1 (hr _ (elt_mem (F := pairF) (k := k) (by omega))) (hs _ (elt_mem (F := pairF) (k := k) (by omega)))
    omega
theorem distL_step {rs ss : List (Int × Int)} {k : Nat} (h1 : k < rs.length) (h2 : k < ss.length) : distL (rs.take (k + 1)) (ss.take (k + 1)) = distL (rs.take k) (ss.take k) + (max ((elt pairF rs k).1 - (elt pairF ss k).1) (-((elt pairF rs k).1 - (elt pairF ss k).1)) + max ((elt pairF rs k).2 - (elt pairF ss k).2) (-((elt pairF rs k).2 - (elt pairF ss k).2))) := by
  rw [takeE_succ (F := pairF) h1, takeE_succ (F := pairF) h2, distL_snoc _ _ (by simp; omega)]; rfl

set_option maxHeartbeats 2000000 in
theorem specBeadsBetween (U L W : Int) (a : Option Addr) (c : Nat) (rs : List (Int × Int)) (U' L' W' : Int) (b : Option Addr) (d : Nat) (ss : List (Int × Int)) (w : World) (ha : RdF pairF w a rs) (_ : I64 U) (_ : I64 L) (_ : I64 W) (_ : All2 rs) (hb : RdF pairF w b ss) (_ : I64 U') (_ : I64 L') (_ : I64 W') (_ : All2 ss) :
    Calls Try.prog 26 #[.agg #[.int .i64 U, .int .i64 L, .int .i64 W, .slice a rs.length c], .agg #[.int .i64 U', .int .i64 L', .int .i64 W', .slice b ss.length d]] w fun e w' => e = .returned (.tuple #[.int .i64 (btwR U L W U' L' W' rs ss).1, .int .i64 (btwR U L W U' L' W' rs ss).2]) ∧ Below w.heap.size w w' := by
  have hx1 := ha.len
  have hy1 := hb.len
  obtain ⟨u, hu⟩ : ∃ u, u = (w.alloc (.cells #[.int .i64 U, .int .i64 L, .int .i64 W, .slice a rs.length c] 26)).alloc (.cells #[.int .i64 U', .int .i64 L', .int .i64 W', .slice b ss.length d] 26) := ⟨_, rfl⟩
  have hbel : Below w.heap.size w u := by rw [hu]; exact (by repeat (first | exact Below.refl _ _ | refine Below.setCell ?_ (by first | omega | (simp <;> omega)) _ | refine Below.alloc ?_ (by first | omega | (simp <;> omega)) _ | refine Below.drew ?_))
  have at0 : AbaAt u w.heap.size U L W a rs.length c := by rw [hu]; exact .of_box ((Bx.new _ _ _).alloc _)
  have at1 : AbaAt u (w.heap.size + 1) U' L' W' b ss.length d := by rw [hu]; exact .of_box (by simpa using Bx.new (w.alloc (.cells #[.int .i64 U, .int .i64 L, .int .i64 W, .slice a rs.length c] 26)) #[.int .i64 U', .int .i64 L', .int .i64 W', .slice b ss.length d] 26)
  replace ha := ha.below hbel
  replace hb := hb.below hbel
  have HU := Lib.hid hu
  clear hu
  cases h : abaB U L W rs with
  | false =>
    have HR := Lib.hid (btw_bad1 (U' := U') (L' := L') (W' := W') (ss := ss) h)
    have HO := Lib.hid (l03Ok_at w.heap.size U L W a c rs u h at0 ha)
    clear h at0 at1
    go_enter Try.func26, Try.ntmps26
    go_wp2_with fail
    rw [← HU.out]
    refine HO.out.mono ?_
    rintro e w1 ⟨rfl, hb1⟩
    go_wp2
    go_ret2
    exact ⟨ret_two HR.out, hbel.trans (hb1.mono hbel.size)⟩
  | true =>
    have HO := Lib.hid (l03Ok_at w.heap.size U L W a c rs u h at0 ha)
    cases h' : abaB U' L' W' ss with
    | false =>
      have HR := Lib.hid (btw_bad2 (U := U) (L := L) (W := W) (rs := rs) h')
      have HO2 := Lib.hid (fun (v : World) (hv : Below u.heap.size u v) => l03Ok_at (w.heap.size + 1) U' L' W' b d ss v h' (at1.below hv) (hb.below hv))
      clear h h' at0 at1
      go_enter Try.func26, Try.ntmps26
      go_wp2_with fail
      rw [← HU.out]
      refine HO.out.mono ?_
      rintro e w1 ⟨rfl, hb1⟩
      go_wp2_with fail
      refine (HO2.out w1 hb1).mono ?_
      rintro e w2 ⟨rfl, hb2⟩
      go_wp2
      go_ret2
      exact ⟨ret_two HR.out, hbel.trans ((hb1.trans (hb2.mono hb1.size)).mono hbel.size)⟩
    | true =>
      have HO2 := Lib.hid (fun (v : World) (hv : Below u.heap.size u v) => l03Ok_at (w.heap.size + 1) U' L' W' b d ss v h' (at1.below hv) (hb.below hv))
      by_cases hn : U = U' ∧ L = L' ∧ W = W' ∧ rs.length = ss.length
      · have HR := Lib.hid (btw_ok h h' hn)
        have HV := Lib.hid (aba_of h)
        have HV' := Lib.hid (aba_of h')
        obtain ⟨h0, h1, h2, h3⟩ := hn
        have b0 : (U != U') = false := by simp [h0]
        have b1 : (L != L') = false := by simp [h1]
        have b2 : (W != W') = false := by simp [h2]
        have b3 : ((rs.length : Int) != (ss.length : Int)) = false := by simp [h3]
        have HL := Lib.hid h3
        have HE := Lib.hid (And.intro h0 h1)
        clear h h' h0 h1 h2 h3
        go_enter Try.func26, Try.ntmps26
        go_wp2_with fail
        rw [← HU.out]
        refine HO.out.mono ?_
        rintro e w1 ⟨rfl, hb1⟩
        go_wp2_with fail
        refine (HO2.out w1 hb1).mono ?_
        rintro e w2 ⟨rfl, hb2⟩
        replace hb2 := hb1.trans (hb2.mono hb1.size)
        replace hbel := hbel.trans (hb2.mono hbel.size)
        replace ha := ha.below hb2
        replace hb := hb.below hb2
        obtain ⟨c0, c1, c2, c3⟩ := at0.below hb2
        obtain ⟨d0, d1, d2, d3⟩ := at1.below hb2
        clear at0 at1 hb1 hb2 w1
        go_wp2
        go_loopw [6, 7] (fun s i wr => ∃ k m : Nat, k ≤ rs.length ∧ i = .int .i64 k ∧ s = .int .i64 (distL (rs.take k) (ss.take k)) ∧ Hid (wr = w2.drewN m)) (fun _ i _ => rs.length - (intOf i).toNat)
        case atStart => exact ⟨0, 0, Nat.zero_le _, by go_num, by simp [distL], Lib.hid rfl⟩
        case round =>
          obtain ⟨k, m, hk, rfl, rfl, HW⟩ := hrel
          have hbw : Below w2.heap.size w2 wr := by rw [HW.out]; exact bel_drewN (Below.refl _ _) m
          have e3 := kept hbw c3
          have f3 := kept hbw d3
          by_cases hlt : k < rs.length
          · have hlt' : k < ss.length := by rw [← HL.out]; exact hlt
            obtain ⟨b1, o1, rfl, p0, p1⟩ := (ha.below hbw).at2 hlt
            obtain ⟨b2, o2, rfl, q0, q1⟩ := (hb.below hbw).at2 hlt'
            have hr := rodB_true (rodsB_at HV.out.rods hlt)
            have hr' := rodB_true (rodsB_at HV'.out.rods hlt')
            have u1 := HV.out.u1
            have l1 := HV.out.l1
            have u1' := HV'.out.u1
            have l1' := HV'.out.l1
            have n1 := HV.out.n1
            have hD := distL_bd u1 l1 hk (by omega : k ≤ ss.length) (rodsB_true HV.out.rods) (by have := rodsB_true HV'.out.rods; rwa [← HE.out.1, ← HE.out.2] at this)
            have HS := Lib.hid (distL_step hlt hlt')
            have hw1 : IntKind.i64.wrap ((elt pairF rs k).1 - (elt pairF ss k).1) = (elt pairF rs k).1 - (elt pairF ss k).1 := IntWalk.i64_in _ (by omega)
            have hw2 : IntKind.i64.wrap ((elt pairF rs k).2 - (elt pairF ss k).2) = (elt pairF rs k).2 - (elt pairF ss k).2 := IntWalk.i64_in _ (by omega)
            have g1 : -1000 ≤ (elt pairF rs k).1 - (elt pairF ss k).1 ∧ (elt pairF rs k).1 - (elt pairF ss k).1 ≤ 1000 := by omega
            have g2 : -1000 ≤ (elt pairF rs k).2 - (elt pairF ss k).2 ∧ (elt pairF rs k).2 - (elt pairF ss k).2 ≤ 1000 := by omega
            have t1 : 0 ≤ max ((elt pairF rs k).1 - (elt pairF ss k).1) (-((elt pairF rs k).1 - (elt pairF ss k).1)) ∧ max ((elt pairF rs k).1 - (elt pairF ss k).1) (-((elt pairF rs k).1 - (elt pairF ss k).1)) ≤ 1000 := by omega
            have t2 : 0 ≤ max ((elt pairF rs k).2 - (elt pairF ss k).2) (-((elt pairF rs k).2 - (elt pairF ss k).2)) ∧ max ((elt pairF rs k).2 - (elt pairF ss k).2) (-((elt pairF rs k).2 - (elt pairF ss k).2)) ≤ 1000 := by omega
            have hw3 : IntKind.i64.wrap (max ((elt pairF rs k).1 - (elt pairF ss k).1) (-((elt pairF rs k).1 - (elt pairF ss k).1)) + max ((elt pairF rs k).2 - (elt pairF ss k).2) (-((elt pairF rs k).2 - (elt pairF ss k).2))) = max ((elt pairF rs k).1 - (elt pairF ss k).1) (-((elt pairF rs k).1 - (elt pairF ss k).1)) + max ((elt pairF rs k).2 - (elt pairF ss k).2) (-((elt pairF rs k).2 - (elt pairF ss k).2)) := IntWalk.i64_in _ (by omega)
            have hw4 : IntKind.i64.wrap (distL (rs.take k) (ss.take k) + (max ((elt pairF rs k).1 - (elt pairF ss k).1) (-((elt pairF rs k).1 - (elt pairF ss k).1)) + max ((elt pairF rs k).2 - (elt pairF ss k).2) (-((elt pairF rs k).2 - (elt pairF ss k).2)))) = distL (rs.take (k + 1)) (ss.take (k + 1)) := by rw [HS.out]; exact IntWalk.i64_in _ (by omega)
            clear t1 t2 hr hr' hD
            go_wp2
            go_quiet ((go_at_call 89; first | exact Calls.quiet_of_same (l03Size_any _ _ g1.1 g1.2) | exact Calls.quiet_of_same (l03Size_any _ _ g2.1 g2.2)))
            go_wp2
            clear hw1 hw2 hw3 hw4
            go_roundw
            case rel => exact ⟨k + 1, _, by omega, by go_num, rfl, Lib.hid (by rw [HW.out, drewN_drewN])⟩
            case measure => (simp [intOf]) <;> omega
          · obtain rfl : k = rs.length := by omega
            have e : distL (rs.take rs.length) (ss.take rs.length) = distL rs ss := by
              rw [List.take_of_length_le (Nat.le_refl _), HL.out, List.take_of_length_le (Nat.le_refl _)]
            rw [e] at *
            clear e
            go_wp2
            go_ret2
            exact ⟨ret_two HR.out, by rw [HW.out]; exact bel_drewN hbel m⟩
      · have HR := Lib.hid (btw_ne h h' hn)
        have HC : (¬ U = U') ∨ (U = U' ∧ ¬ L = L') ∨ (U = U' ∧ L = L' ∧ ¬ W = W') ∨ (U = U' ∧ L = L' ∧ W = W' ∧ ¬ rs.length = ss.length) := by omega
        clear h h' hn
        rcases HC with h0 | ⟨h0, h1⟩ | ⟨h0, h1, h2⟩ | ⟨h0, h1, h2, h3⟩
        · have b0 : (U != U') = true := by simp [h0]
          clear h0
          go_enter Try.func26, Try.ntmps26
          go_wp2_with fail
          rw [← HU.out]
          refine HO.out.mono ?_
          rintro e w1 ⟨rfl, hb1⟩
          go_wp2_with fail
          refine (HO2.out w1 hb1).mono ?_
          rintro e w2 ⟨rfl, hb2⟩
          replace hb2 := hb1.trans (hb2.mono hb1.size)
          obtain ⟨c0, c1, c2, c3⟩ := at0.below hb2
          obtain ⟨d0, d1, d2, d3⟩ := at1.below hb2
          go_wp2
          go_ret2
          exact ⟨ret_two HR.out, hbel.trans (hb2.mono hbel.size)⟩
        · have b0 : (U != U') = false := by simp [h0]
          have b1 : (L != L') = true := by simp [h1]
          clear h0 h1
          go_enter Try.func26, Try.ntmps26
          go_wp2_with fail
          rw [← HU.out]
          refine HO.out.mono ?_
          rintro e w1 ⟨rfl, hb1⟩
          go_wp2_with fail
          refine (HO2.out w1 hb1).mono ?_
          rintro e w2 ⟨rfl, hb2⟩
          replace hb2 := hb1.trans (hb2.mono hb1.size)
          obtain ⟨c0, c1, c2, c3⟩ := at0.below hb2
          obtain ⟨d0, d1, d2, d3⟩ := at1.below hb2
          go_wp2
          go_ret2
          exact ⟨ret_two HR.out, hbel.trans (hb2.mono hbel.size)⟩
        · have b0 : (U != U') = false := by simp [h0]
          have b1 : (L != L') = false := by simp [h1]
          have b2 : (W != W') = true := by simp [h2]
          clear h0 h1 h2
          go_enter Try.func26, Try.ntmps26
          go_wp2_with fail
          rw [← HU.out]
          refine HO.out.mono ?_
          rintro e w1 ⟨rfl, hb1⟩
          go_wp2_with fail
          refine (HO2.out w1 hb1).mono ?_
          rintro e w2 ⟨rfl, hb2⟩
          replace hb2 := hb1.trans (hb2.mono hb1.size)
          obtain ⟨c0, c1, c2, c3⟩ := at0.below hb2
          obtain ⟨d0, d1, d2, d3⟩ := at1.below hb2
          go_wp2
          go_ret2
          exact ⟨ret_two HR.out, hbel.trans (hb2.mono hbel.size)⟩
        · have b0 : (U != U') = false := by simp [h0]
          have b1 : (L != L') = false := by simp [h1]
          have b2 : (W != W') = false := by simp [h2]
          have b3 : ((rs.length : Int) != (ss.length : Int)) = true := by simp; omega
          clear h0 h1 h2 h3
          go_enter Try.func26, Try.ntmps26
          go_wp2_with fail
          rw [← HU.out]
          refine HO.out.mono ?_
          rintro e w1 ⟨rfl, hb1⟩
          go_wp2_with fail
          refine (HO2.out w1 hb1).mono ?_
          rintro e w2 ⟨rfl, hb2⟩
          replace hb2 := hb1.trans (hb2.mono hb1.size)
          obtain ⟨c0, c1, c2, c3⟩ := at0.below hb2
          obtain ⟨d0, d1, d2, d3⟩ := at1.below hb2
          go_wp2
          go_ret2
          exact ⟨ret_two HR.out, hbel.trans (hb2.mono hbel.size)⟩
end Go.Proofs.Ytcfpfhlgcfmioaa
