/-
  impl.MoveBeads.
-/
import Derived.Test.YtcfpfhlgcfmioaaAbaM
import Derived.Test.YtcfpfhlgcfmioaaBoxAba
namespace Go.Proofs.Ytcfpfhlgcfmioaa
open Go.RowKit

theorem boxAba_mk {W v : World} {U L Wo : Int} {rs : List (Int × Int)} {A : Option Addr} {C g lo hi : Nat} {t : TypeId} {c0 c1 c2 c3 : Value} (hb : Below W.heap.size W v) (ow : OwnF pairF 102 v lo hi (.slice A rs.length C) rs)
    (hd : g < lo ∨ hi ≤ g) (hlo : W.heap.size ≤ lo) (hhi : hi ≤ v.heap.size) (bz : Bx v g t #[c0, c1, c2, c3]) (h1 : W.heap.size ≤ g) :
    BoxAba W U L Wo rs (.pointer (some ⟨g, 0, none⟩)) ((((v.setCell ⟨g, 0, none⟩ (.int .i64 U)).setCell ⟨g, 1, none⟩ (.int .i64 L)).setCell ⟨g, 2, none⟩ (.int .i64 Wo)).setCell ⟨g, 3, none⟩ (.slice A rs.length C)) := by
  have hzz := bz.lt
  replace bz := ((((bz.set_ 0 (.int .i64 U)).set_ 1 (.int .i64 L)).set_ 2 (.int .i64 Wo)).set_ 3 (.slice A rs.length C))
  refine ⟨_, A, C, lo, hi, rfl, bz.at_ 0 rfl, bz.at_ 1 rfl, bz.at_ 2 rfl, bz.at_ 3 rfl, (((ow.setCell hd _).setCell hd _).setCell hd _).setCell hd _, Lib.hid hd, Lib.hid hlo, Lib.hid h1, Lib.hid (by simpa using hzz), Lib.hid (by simpa using hhi), ?_⟩
  exact (((hb.setCell h1 _).setCell h1 _).setCell h1 _).setCell h1 _
theorem boxAba_new {W v : World} {U L Wo : Int} {rs : List (Int × Int)} {A : Option Addr} {C lo hi : Nat} {t : TypeId} (hb : Below W.heap.size W v) (ow : OwnF pairF 102 v lo hi (.slice A rs.length C) rs) (hlo : W.heap.size ≤ lo) (hhi : hi ≤ v.heap.size) :
    BoxAba W U L Wo rs (.pointer (some ⟨v.heap.size, 0, none⟩)) (v.alloc (.cells #[.int .i64 U, .int .i64 L, .int .i64 Wo, .slice A rs.length C] t)) := by
  have h1 := hb.size
  have bx := Bx.new v #[.int .i64 U, .int .i64 L, .int .i64 Wo, .slice A rs.length C] t
  exact ⟨_, A, C, lo, hi, rfl, bx.at_ 0 rfl, bx.at_ 1 rfl, bx.at_ 2 rfl, bx.at_ 3 rfl, ow.alloc _, Lib.hid (.inr hhi), Lib.hid hlo, Lib.hid h1, Lib.hid (by simp), Lib.hid (by simp; omega), hb.alloc h1 _⟩

theorem movR_bad {U L W : Int} {rs : List (Int × Int)} {x : Int × Int × Int} (h : abaB U L W rs = false) : movR U L W rs x = (0, 0, 0, [], 1) := by simp [movR, h]
theorem movR_err {U L W c : Int} {rs : List (Int × Int)} {x : Int × Int × Int} (h : abaB U L W rs = true) (hc : movC U L rs x = c) (hn : ¬ c = 0) : movR U L W rs x = (0, 0, 0, [], c) := by subst hc; rw [movR, if_pos h, if_neg hn]
theorem movR_ok {U L W : Int} {rs : List (Int × Int)} {x : Int × Int × Int} (h : abaB U L W rs = true) (hc : movC U L rs x = 0) : movR U L W rs x = (U, L, W, movL rs x, 0) := by rw [movR, if_pos h, if_pos hc]
theorem raR_ok {U L : Int} {rs : List (Int × Int)} {x : Int × Int × Int} (h : movC U L rs x = 0) : moveB rs.length x = true ∧ rodB U L (movedRod rs x) = true ∧ raR U L rs x = (movedRod rs x, 0) := by
  unfold movC at h
  by_cases h1 : moveB rs.length x = true
  · rw [if_pos h1] at h
    by_cases h2 : rodB U L (movedRod rs x) = true
    · exact ⟨h1, h2, by rw [raR, if_pos h1, if_pos h2]⟩
    · rw [if_neg h2] at h; cases h
  · rw [if_neg h1] at h; cases h
theorem moveB_idx {n : Nat} {x : Int × Int × Int} (h : moveB n x = true) : ∃ k : Nat, x.1 = k ∧ k < n := by
  simp only [moveB, decide_eq_true_eq] at h
  exact ⟨x.1.toNat, by omega, by omega⟩
theorem movL_len (rs : List (Int × Int)) (x : Int × Int × Int) : (movL rs x).length = rs.length := by simp [movL]

set_option maxRecDepth 100000 in
set_option maxHeartbeats 4000000 in
theorem implMoveBeads (U L W : Int) (a : Option Addr) (c : Nat) (rs : List (Int × Int)) (x : Int × Int × Int) (w : World) (ha : RdF pairF w a rs) (bU : I64 U) (bL : I64 L) (bW : I64 W) (z : All2 rs) (_ : I64 x.1 ∧ I64 x.2.1 ∧ I64 x.2.2) :
    Calls Try.prog 22 #[.agg #[.int .i64 U, .int .i64 L, .int .i64 W, .slice a rs.length c], .agg #[.int .i64 x.1, .int .i64 x.2.1, .int .i64 x.2.2]] w (AbaC (movR U L W rs x) w) := by
  have hxl := ha.len
  obtain ⟨u, hu⟩ : ∃ u, u = ((w.alloc (.cells #[.int .i64 U, .int .i64 L, .int .i64 W, .slice a rs.length c] 26)).alloc (.cells #[.int .i64 x.1, .int .i64 x.2.1, .int .i64 x.2.2] 37)).alloc (.cells #[.int .i64 0, .int .i64 0, .int .i64 0, .slice none 0 0] 26) := ⟨_, rfl⟩
  have hbel : Below w.heap.size w u := by rw [hu]; exact (by repeat (first | exact Below.refl _ _ | refine Below.setCell ?_ (by first | omega | (simp <;> omega)) _ | refine Below.alloc ?_ (by first | omega | (simp <;> omega)) _ | refine Below.drew ?_))
  have bx0 : Bx u w.heap.size 26 #[.int .i64 U, .int .i64 L, .int .i64 W, .slice a rs.length c] := by rw [hu]; exact ((Bx.new _ _ _).alloc _).alloc _
  have bx1 : Bx u (w.heap.size + 1) 37 #[.int .i64 x.1, .int .i64 x.2.1, .int .i64 x.2.2] := by rw [hu]; exact (by simpa using Bx.new (w.alloc (.cells #[.int .i64 U, .int .i64 L, .int .i64 W, .slice a rs.length c] 26)) #[.int .i64 x.1, .int .i64 x.2.1, .int .i64 x.2.2] 37 : Bx _ (w.heap.size + 1) _ _).alloc _
  have bx2 : Bx u (w.heap.size + 1 + 1) 26 #[.int .i64 0, .int .i64 0, .int .i64 0, .slice none 0 0] := by rw [hu]; simpa using Bx.new ((w.alloc (.cells #[.int .i64 U, .int .i64 L, .int .i64 W, .slice a rs.length c] 26)).alloc (.cells #[.int .i64 x.1, .int .i64 x.2.1, .int .i64 x.2.2] 37)) #[.int .i64 0, .int .i64 0, .int .i64 0, .slice none 0 0] 26
  have HU := Lib.hid hu
  have HUS := Lib.hid (show u.heap.size = w.heap.size + 1 + 1 + 1 by rw [hu]; simp)
  clear hu
  replace ha := ha.below hbel
  have HV := Lib.hid (implValidAbacus U L W a c rs u ha bU bL bW z)
  cases h : abaB U L W rs with
  | false =>
    have HR := Lib.hid (movR_bad (x := x) h)
    rw [h] at HV
    clear h
    go_enter Try.func22, Try.ntmps22
    go_wp2_with fail
    rw [← HU.out]
    refine HV.out.mono ?_
    rintro e w1 ⟨rfl, hb1⟩
    replace bx2 := bx2.below hb1
    have r0 := bx2.at_ 0 rfl
    have r1 := bx2.at_ 1 rfl
    have r2 := bx2.at_ 2 rfl
    have r3 := bx2.at_ 3 rfl
    have f0 := bx2.thaw 0
    have f1 := bx2.thaw 1
    have f2 := bx2.thaw 2
    have f3 := bx2.thaw 3
    have hb := hbel.trans (hb1.mono hbel.size)
    go_wp2
    exact bodyPost_ret (v := .tuple #[.agg #[.int .i64 0, .int .i64 0, .int .i64 0, .slice none 0 0], .int .i64 1]) (by simp [results, Try.results22, go_sem, r0, r1, r2, r3]) rfl
      (abaC_err HR.out rfl (by repeat (first | exact hb | refine Below.setCell ?_ (by first | omega | (simp <;> omega)) _ | refine Below.alloc ?_ (by first | omega | (simp <;> omega)) _ | refine Below.drew ?_)))
  | true =>
    rw [h] at HV
    have HA := Lib.hid (aba_of h)
    have HRA := Lib.hid (fun (v : World) (hv : Below u.heap.size u v) => rodAfter_any U L W a c rs x.1 x.2.1 x.2.2 v (ha.below hv) HA.out.u1 HA.out.l1 (rodsB_true HA.out.rods))
    by_cases hc : movC U L rs x = 0
    · obtain ⟨hm, hrb, hra⟩ := raR_ok hc
      have HR := Lib.hid (movR_ok h hc)
      obtain ⟨k, hk, hkl⟩ := moveB_idx hm
      have HML := Lib.hid (show movL rs x = rs.set k (movedRod rs x) by simp [movL, hk])
      obtain ⟨r, hr⟩ : ∃ r, r = movedRod rs x := ⟨_, rfl⟩
      rw [← hr] at hra HML
      have HRR := Lib.hid hra
      clear hm hrb hr hc h hra
      have HKE := Lib.hid hk
      clear hk
      go_enter Try.func22, Try.ntmps22
      go_wp2_with fail
      rw [← HU.out]
      refine HV.out.mono ?_
      rintro e w1 ⟨rfl, hb1⟩
      replace bx0 := bx0.below hb1
      replace bx1 := bx1.below hb1
      have e0 := bx0.at_ 0 rfl
      have e1 := bx0.at_ 1 rfl
      have e2 := bx0.at_ 2 rfl
      have e3 := bx0.at_ 3 rfl
      have m0 := bx1.at_ 0 rfl
      have m1 := bx1.at_ 1 rfl
      have m2 := bx1.at_ 2 rfl
      have hra2 := HRA.out w1 hb1
      rw [show raR U L rs (x.1, x.2.1, x.2.2) = (r, 0) from HRR.out] at hra2
      have HR2 := Lib.hid hra2
      clear hra2
      go_wp2_with fail
      refine HR2.out.mono ?_
      rintro e w2 ⟨rfl, hb2⟩
      replace bx0 := bx0.below hb2
      replace bx1 := bx1.below hb2
      have hb3 := hb1.trans (hb2.mono hb1.size)
      replace bx2 := bx2.below hb3
      replace ha := ha.below hb3
      replace hbel := hbel.trans (hb3.mono hbel.size)
      have hz2 : w.heap.size + 1 + 1 < w2.heap.size := bx2.lt
      clear e0 e1 e2 e3 m0 m1 m2 hb1 hb2 hb3 HR2 w1
      go_upto_region 6 with fail
      obtain ⟨V, hV⟩ : ∃ V, V = w2.alloc (.cells #[.int .i64 r.1, .int .i64 r.2] 102) := ⟨_, rfl⟩
      rw [← hV]
      have hbV : Below w2.heap.size w2 V := by rw [hV]; exact (Below.refl _ _).alloc (Nat.le_refl _) _
      have bq : Bx V w2.heap.size 102 #[.int .i64 r.1, .int .i64 r.2] := by rw [hV]; exact Bx.new _ _ _
      clear hV
      replace bx0 := bx0.below hbV
      replace bx1 := bx1.below hbV
      replace bx2 := bx2.below hbV
      replace ha := ha.below hbV
      replace hbel := hbel.trans (hbV.mono hbel.size)
      have hzV : w2.heap.size < V.heap.size := bq.lt
      clear hbV
      go_cut [8] from 9 (fun s8 wx => BoxAba V U L W rs s8 wx)
      case first =>
        have k0 := kept_all (p := ⟨w.heap.size, 0, none⟩) (v := .int .i64 U) (bx0.at_ 0 rfl)
        have k1 := kept_all (p := ⟨w.heap.size, 1, none⟩) (v := .int .i64 L) (bx0.at_ 1 rfl)
        have k2 := kept_all (p := ⟨w.heap.size, 2, none⟩) (v := .int .i64 W) (bx0.at_ 2 rfl)
        have k3 := kept_all (p := ⟨w.heap.size, 3, none⟩) (v := .slice a rs.length c) (bx0.at_ 3 rfl)
        have hn0 : 0 < rs.length := by have := HA.out.n0; omega
        refine wp_region_marked (fun w' => Below V.heap.size V w') 6 (by kernel_rfl) ?_
        have hS : Below V.heap.size V V.drew := (Below.refl _ _).drew
        refine wpAnyM_take (i := 0) (v := ?_) rfl (by kernel_rfl) (by kernel_rfl) (by kernel_rfl) (by kernel_rfl) (by kernel_rfl) (fun _ _ _ h => h) hS (.inl ⟨by rfl, ?_⟩) ?_
        rotate_left 1
        · intro w' hS'; go_simp; try with_reducible rfl
        simp only [Act.put, List.setIfInBounds_toArray]
        refine wpAnyM_take (i := 1) (v := ?_) rfl (by kernel_rfl) (by kernel_rfl) (by kernel_rfl) (by kernel_rfl) (by kernel_rfl) (fun _ _ _ h => h) hS (.inl ⟨by rfl, ?_⟩) ?_
        rotate_left 1
        · intro w' hS'; go_simp; try with_reducible rfl
        simp only [Act.put]
        refine wpAnyM_take (i := 2) (v := ?_) rfl (by kernel_rfl) (by kernel_rfl) (by kernel_rfl) (by kernel_rfl) (by kernel_rfl) (fun _ _ _ h => h) hS (.inl ⟨by rfl, ?_⟩) ?_
        rotate_left 1
        · intro w' hS'; go_simp; try with_reducible rfl
        simp only [Act.put]
        clear k0 k1 k2 k3
        refine wpAnyM_two (i := 3) (j := 5) (by kernel_rfl) rfl rfl (by rfl) (by rfl) (fun K hK => ?_) (fun K hK => ?_)
        · go_simp
          refine (cloneRods_any a c rs V.drew (ha.below hS) hn0).mono ?_
          rintro e w3 ⟨A, C, rfl, ow, hb3⟩
          have hS3 : Below V.heap.size V w3 := hS.trans (hb3.mono (by simp))
          replace ow : OwnF pairF 102 w3 V.heap.size w3.heap.size (.slice A rs.length C) rs := by simpa using ow
          refine hK _ _ (.inr hS3) ?_
          try simp only [Act.put, List.setIfInBounds_toArray]
          clear hK K hb3
          refine wpAnyM_two (i := 4) (j := 5) (by kernel_rfl) rfl rfl (by rfl) (by rfl) (fun K hK => ?_) (fun K hK => ?_)
          · go_simp
            refine (withRods_any U L W a rs.length c A rs.length C w3).mono ?_
            rintro e w4 ⟨rfl, hb4⟩
            have hS4 := hS3.trans (hb4.mono hS3.size)
            have ow4 := ow.below hb4
            refine hK _ _ (.inr hS4) ?_
            try simp only [Act.put, List.setIfInBounds_toArray]
            clear hK K
            refine wpAnyM_one (i := 5) (by kernel_rfl) rfl (by rfl) (fun K hK => ?_)
            go_simp
            refine hK _ _ (.inr (hS4.alloc hS4.size _)) ?_
            try simp only [Act.put, List.setIfInBounds_toArray]
            clear hK K
            refine wpAnyM_one (i := 6) (by kernel_rfl) rfl (by rfl) (fun K hK => ?_)
            go_simp
            refine hK _ _ (.inl rfl) ?_
            clear hK K
            refine wpAnyM_done (by kernel_rfl) ?_ _
            go_wp2_with fail
            go_meet
            case rel => exact boxAba_new hS4 ow4 (Nat.le_refl _) hb4.size
          · go_simp
            have bz := Bx.new w3 #[.int .i64 0, .int .i64 0, .int .i64 0, .slice none 0 0] 26
            have hS4 := hS3.alloc hS3.size (.cells #[.int .i64 0, .int .i64 0, .int .i64 0, .slice none 0 0] 26)
            have ow4 := ow.alloc (.cells #[.int .i64 0, .int .i64 0, .int .i64 0, .slice none 0 0] 26)
            have hg4 : V.heap.size ≤ w3.heap.size := hS3.size
            refine hK _ _ (.inr hS4) ?_
            try simp only [Act.put, List.setIfInBounds_toArray]
            clear hK K
            refine wpAnyM_one (i := 4) (by kernel_rfl) rfl (by rfl) (fun K hK => ?_)
            go_simp
            refine (withRods_any U L W a rs.length c A rs.length C _).mono ?_
            rintro e w4 ⟨rfl, hb4⟩
            have hS5 := hS4.trans (hb4.mono hS4.size)
            have ow5 := ow4.below hb4
            replace bz := bz.below hb4
            have hz4 : w3.heap.size < w4.heap.size := bz.lt
            have z0 := bz.at_ 0 rfl
            have z1 := bz.at_ 1 rfl
            have z2 := bz.at_ 2 rfl
            have z3 := bz.at_ 3 rfl
            have f0 := bz.thaw 0
            have f1 := bz.thaw 1
            have f2 := bz.thaw 2
            have f3 := bz.thaw 3
            refine hK _ _ (.inr hS5) ?_
            try simp only [Act.put, List.setIfInBounds_toArray]
            clear hK K
            refine wpAnyM_one (i := 6) (by kernel_rfl) rfl (by rfl) (fun K hK => ?_)
            go_simp
            refine hK _ _ (.inl rfl) ?_
            clear hK K
            refine wpAnyM_done (by kernel_rfl) ?_ _
            go_wp2_with fail
            go_meet
            case rel => exact boxAba_mk hS5 ow5 (.inr (Nat.le_refl _)) (Nat.le_refl _) (Nat.le_of_lt hz4) bz hg4
        · go_simp
          have bz := (Bx.new V #[.int .i64 0, .int .i64 0, .int .i64 0, .slice none 0 0] 26).drew
          have hS3 : Below V.heap.size V (V.alloc (.cells #[.int .i64 0, .int .i64 0, .int .i64 0, .slice none 0 0] 26)).drew := ((Below.refl _ _).alloc (Nat.le_refl _) _).drew
          refine hK _ _ (.inr hS3) ?_
          try simp only [Act.put, List.setIfInBounds_toArray]
          clear hK K
          refine wpAnyM_one (i := 3) (by kernel_rfl) rfl (by rfl) (fun K hK => ?_)
          go_simp
          refine (cloneRods_any a c rs (V.alloc (.cells #[.int .i64 0, .int .i64 0, .int .i64 0, .slice none 0 0] 26)).drew (ha.below hS3) hn0).mono ?_
          rintro e w3 ⟨A, C, rfl, ow, hb3⟩
          have hS4 : Below V.heap.size V w3 := hS3.trans (hb3.mono (by simp))
          replace ow : OwnF pairF 102 w3 (V.heap.size + 1) w3.heap.size (.slice A rs.length C) rs := by simpa using ow
          replace bz := bz.below hb3
          refine hK _ _ (.inr hS4) ?_
          try simp only [Act.put, List.setIfInBounds_toArray]
          clear hK K hb3
          refine wpAnyM_one (i := 4) (by kernel_rfl) rfl (by rfl) (fun K hK => ?_)
          go_simp
          refine (withRods_any U L W a rs.length c A rs.length C w3).mono ?_
          rintro e w4 ⟨rfl, hb4⟩
          have hS5 := hS4.trans (hb4.mono hS4.size)
          have ow5 := ow.below hb4
          replace bz := bz.below hb4
          have z0 := bz.at_ 0 rfl
          have z1 := bz.at_ 1 rfl
          have z2 := bz.at_ 2 rfl
          have z3 := bz.at_ 3 rfl
          have f0 := bz.thaw 0
          have f1 := bz.thaw 1
          have f2 := bz.thaw 2
          have f3 := bz.thaw 3
          refine hK _ _ (.inr hS5) ?_
          try simp only [Act.put, List.setIfInBounds_toArray]
          clear hK K
          refine wpAnyM_one (i := 6) (by kernel_rfl) rfl (by rfl) (fun K hK => ?_)
          go_simp
          refine hK _ _ (.inl rfl) ?_
          clear hK K
          refine wpAnyM_done (by kernel_rfl) ?_ _
          go_wp2_with fail
          go_meet
          case rel => exact boxAba_mk hS5 ow5 (.inl (by omega)) (by omega) hb4.size bz (Nat.le_refl _)
      case rest =>
        obtain ⟨g, A, C, lo, hi, rfl, b0, b1, b2, b3, ow, D1, D2, D3, D4, D5, hbw⟩ := hcut
        obtain ⟨v, rfl⟩ : ∃ v, v = wc := ⟨_, rfl⟩
        obtain ⟨gb, rfl, l1, l2, l3⟩ := ow.head (by omega)
        rw [HKE.out] at bx1
        replace bx1 := bx1.below hbw
        replace bx2 := bx2.below hbw
        replace bq := bq.below hbw
        have hb := hbel.trans (hbw.mono hbel.size)
        have hne : ¬ g = gb := by have := D1.out; omega
        have hlo : w.heap.size + 1 + 1 < gb := by have := D2.out; omega
        have m0 := bx1.at_ 0 rfl
        have q0 := bq.at_ 0 rfl
        have q1 := bq.at_ 1 rfl
        obtain ⟨g0, g1⟩ := ow.get2 (k := k) hkl
        have f0 := ow.thaw (k * 2)
        have f1 := ow.thaw (k * 2 + 1)
        have HP := Lib.hid (ow.put2 (k := k) hkl r)
        have r0 := bx2.at_ 0 rfl
        have r1 := bx2.at_ 1 rfl
        have r2 := bx2.at_ 2 rfl
        have r3 := bx2.at_ 3 rfl
        have t0 := bx2.thaw 0
        have t1 := bx2.thaw 1
        have t2 := bx2.thaw 2
        have t3 := bx2.thaw 3
        have hne' : ¬ gb = g := fun e => hne e.symm
        have hn2 : ¬ w.heap.size + 1 + 1 = gb := by omega
        have hn3 : ¬ gb = w.heap.size + 1 + 1 := by omega
        go_wp2
        have ow9 := HP.out
        rw [← HML.out] at ow9
        have hlw : w.heap.size + 1 + 1 < lo := by have := D2.out; omega
        have hd : w.heap.size + 1 + 1 < lo ∨ hi ≤ w.heap.size + 1 + 1 := .inl hlw
        have bz := ((((((bx2.far (p := ⟨gb, k * 2, none⟩) hn2 (.int .i64 r.1)).far (p := ⟨gb, k * 2 + 1, none⟩) hn2 (.int .i64 r.2)).set_ 0 (.int .i64 U)).set_ 1 (.int .i64 L)).set_ 2 (.int .i64 W)).set_ 3 (.slice (some ⟨gb, 0, none⟩) rs.length C))
        have hgb : w.heap.size ≤ gb := by omega
        have hgz : w.heap.size ≤ w.heap.size + 1 + 1 := by omega
        have hb9 := (((((hb.setCell (p := ⟨gb, k * 2, none⟩) hgb (.int .i64 r.1)).setCell (p := ⟨gb, k * 2 + 1, none⟩) hgb (.int .i64 r.2)).setCell (p := ⟨w.heap.size + 1 + 1, 0, none⟩) hgz (.int .i64 U)).setCell (p := ⟨w.heap.size + 1 + 1, 1, none⟩) hgz (.int .i64 L)).setCell (p := ⟨w.heap.size + 1 + 1, 2, none⟩) hgz (.int .i64 W)).setCell (p := ⟨w.heap.size + 1 + 1, 3, none⟩) hgz (.slice (some ⟨gb, 0, none⟩) rs.length C)
        have ow8 := (((ow9.setCell (p := ⟨w.heap.size + 1 + 1, 0, none⟩) hd (.int .i64 U)).setCell (p := ⟨w.heap.size + 1 + 1, 1, none⟩) hd (.int .i64 L)).setCell (p := ⟨w.heap.size + 1 + 1, 2, none⟩) hd (.int .i64 W)).setCell (p := ⟨w.heap.size + 1 + 1, 3, none⟩) hd (.slice (some ⟨gb, 0, none⟩) rs.length C)
        have hz8 : hi ≤ ((((((v.setCell ⟨gb, k * 2, none⟩ (.int .i64 r.1)).setCell ⟨gb, k * 2 + 1, none⟩ (.int .i64 r.2)).setCell ⟨w.heap.size + 1 + 1, 0, none⟩ (.int .i64 U)).setCell ⟨w.heap.size + 1 + 1, 1, none⟩ (.int .i64 L)).setCell ⟨w.heap.size + 1 + 1, 2, none⟩ (.int .i64 W)).setCell ⟨w.heap.size + 1 + 1, 3, none⟩ (.slice (some ⟨gb, 0, none⟩) rs.length C)).heap.size := by
          have := D5.out; simpa using this
        have hlw' : w.heap.size ≤ lo := by omega
        clear r0 r1 r2 r3 t0 t1 t2 t3 ow9 HP ow hb bq q0 q1 m0 g0 g1 f0 f1 b0 b1 b2 b3 bx0 bx1 bx2 ha hbel HU HUS HV HRA HA
        generalize hX : ((((((v.setCell ⟨gb, k * 2, none⟩ (.int .i64 r.1)).setCell ⟨gb, k * 2 + 1, none⟩ (.int .i64 r.2)).setCell ⟨w.heap.size + 1 + 1, 0, none⟩ (.int .i64 U)).setCell ⟨w.heap.size + 1 + 1, 1, none⟩ (.int .i64 L)).setCell ⟨w.heap.size + 1 + 1, 2, none⟩ (.int .i64 W)).setCell ⟨w.heap.size + 1 + 1, 3, none⟩ (.slice (some ⟨gb, 0, none⟩) rs.length C)) = X at bz hb9 ow8 hz8 ⊢
        clear hX
        have r0 := bz.at_ 0 rfl
        have r1 := bz.at_ 1 rfl
        have r2 := bz.at_ 2 rfl
        have r3 := bz.at_ 3 rfl
        have t0 := bz.thaw 0
        have t1 := bz.thaw 1
        have t2 := bz.thaw 2
        have t3 := bz.thaw 3
        exact bodyPost_ret (v := .tuple #[.agg #[.int .i64 U, .int .i64 L, .int .i64 W, .slice (some ⟨gb, 0, none⟩) rs.length C], .int .i64 0]) (by simp [results, Try.results22, go_sem, r0, r1, r2, r3]) rfl
          (abaC_ok HR.out (movL_len _ _) rfl (lo := lo) (hi := hi) ow8 hlw' hz8 hb9)
    · obtain ⟨cd, hcd⟩ : ∃ cd, cd = movC U L rs x := ⟨_, rfl⟩
      rw [← hcd] at hc
      have HR := Lib.hid (movR_err h hcd.symm hc)
      have hne : (cd != 0) = true := by simp [hc]
      obtain ⟨r, hr⟩ : ∃ r, raR U L rs x = (r, cd) := ⟨(raR U L rs x).1, by rw [hcd, ← raR_code]⟩
      have HRR := Lib.hid hr
      clear hcd hc h hr
      go_enter Try.func22, Try.ntmps22
      go_wp2_with fail
      rw [← HU.out]
      refine HV.out.mono ?_
      rintro e w1 ⟨rfl, hb1⟩
      replace bx0 := bx0.below hb1
      replace bx1 := bx1.below hb1
      have e0 := bx0.at_ 0 rfl
      have e1 := bx0.at_ 1 rfl
      have e2 := bx0.at_ 2 rfl
      have e3 := bx0.at_ 3 rfl
      have m0 := bx1.at_ 0 rfl
      have m1 := bx1.at_ 1 rfl
      have m2 := bx1.at_ 2 rfl
      have hra2 := HRA.out w1 hb1
      rw [show raR U L rs (x.1, x.2.1, x.2.2) = (r, cd) from HRR.out] at hra2
      have HR2 := Lib.hid hra2
      clear hra2
      go_wp2_with fail
      refine HR2.out.mono ?_
      rintro e w2 ⟨rfl, hb2⟩
      have hb3 := hb1.trans (hb2.mono hb1.size)
      replace bx2 := bx2.below hb3
      have hb := hbel.trans (hb3.mono hbel.size)
      have hz2 : w.heap.size + 1 + 1 < w2.heap.size := bx2.lt
      have r0 := bx2.at_ 0 rfl
      have r1 := bx2.at_ 1 rfl
      have r2 := bx2.at_ 2 rfl
      have r3 := bx2.at_ 3 rfl
      have f0 := bx2.thaw 0
      have f1 := bx2.thaw 1
      have f2 := bx2.thaw 2
      have f3 := bx2.thaw 3
      clear e0 e1 e2 e3 m0 m1 m2
      go_wp2
      exact bodyPost_ret (v := .tuple #[.agg #[.int .i64 0, .int .i64 0, .int .i64 0, .slice none 0 0], .int .i64 cd]) (by simp [results, Try.results22, go_sem, r0, r1, r2, r3, hz2]) rfl
        (abaC_err HR.out rfl (by repeat (first | exact hb | refine Below.setCell ?_ (by first | omega | (simp <;> omega)) _ | refine Below.alloc ?_ (by first | omega | (simp <;> omega)) _ | refine Below.drew ?_)))
end Go.Proofs.Ytcfpfhlgcfmioaa
