/-
  impl.ReplayBeads.
-/
import Derived.Test.YthhphopmkmbmiaaAbaN
import Derived.Test.YthhphopmkmbmiaaAbaR
namespace Go.Proofs.Ythhphopmkmbmiaa
open Go.RowKit

theorem raR_any {U L : Int} {rs : List (Int × Int)} {x : Int × Int × Int} : ∃ r, raR U L rs (x.1, x.2.1, x.2.2) = (r, movC U L rs x) := ⟨(raR U L rs x).1, by rw [← raR_code]⟩

set_option maxRecDepth 100000 in
set_option maxHeartbeats 4000000 in
theorem implReplayBeads (U L W : Int) (a : Option Addr) (c : Nat) (rs : List (Int × Int)) (b : Option Addr) (d : Nat) (ms : List (Int × Int × Int)) (w : World) (ha : RdF pairF w a rs) (bU : I64 U) (bL : I64 L) (bW : I64 W) (z : All2 rs) (hm : RdF tripF w b ms) (zm : All3 ms) :
    Calls Try.prog 49 #[.agg #[.int .i64 U, .int .i64 L, .int .i64 W, .slice a rs.length c], .slice b ms.length d] w (AbaN (rplR U L W rs ms) w) := by
  have hml := hm.len
  have hxl := ha.len
  obtain ⟨u, hu⟩ : ∃ u, u = (w.alloc (.cells #[.int .i64 U, .int .i64 L, .int .i64 W, .slice a rs.length c] 38)).alloc (.cells #[.int .i64 0, .int .i64 0, .int .i64 0, .slice none 0 0] 38) := ⟨_, rfl⟩
  have hbel : Below w.heap.size w u := by rw [hu]; exact (by repeat (first | exact Below.refl _ _ | refine Below.setCell ?_ (by simp <;> omega) _ | refine Below.alloc ?_ (by simp <;> omega) _ | refine Below.drew ?_))
  have bx0 : Bx u w.heap.size 38 #[.int .i64 U, .int .i64 L, .int .i64 W, .slice a rs.length c] := by rw [hu]; exact (Bx.new _ _ _).alloc _
  have bx2 : Bx u (w.heap.size + 1) 38 #[.int .i64 0, .int .i64 0, .int .i64 0, .slice none 0 0] := by rw [hu]; simpa using Bx.new (w.alloc (.cells #[.int .i64 U, .int .i64 L, .int .i64 W, .slice a rs.length c] 38)) #[.int .i64 0, .int .i64 0, .int .i64 0, .slice none 0 0] 38
  have HU := Lib.hid hu
  clear hu
  replace ha := ha.below hbel
  have HV := Lib.hid (implValidAbacus U L W a c rs u ha bU bL bW z)
  cases h : abaB U L W rs with
  | false =>
    have HR := Lib.hid (rplR_bad (ms := ms) h)
    rw [h] at HV
    clear h
    go_enter Try.func49, Try.ntmps49
    go_wp2_with fail
    rw [← HU.out]
    refine HV.out.mono ?_
    rintro e w1 ⟨rfl, hb1⟩
    replace bx2 := bx2.below hb1
    have r0 := bx2.at_ 0 rfl
    have r1 := bx2.at_ 1 rfl
    have r2 := bx2.at_ 2 rfl
    have r3 := bx2.at_ 3 rfl
    have f0 := bx2.thaw 0
    have f1 := bx2.thaw 1
    have f2 := bx2.thaw 2
    have f3 := bx2.thaw 3
    have hb := hbel.trans (hb1.mono hbel.size)
    go_wp2
    exact bodyPost_ret (v := .tuple #[.agg #[.int .i64 0, .int .i64 0, .int .i64 0, .slice none 0 0], .int .i64 0, .int .i64 1]) (by simp [results, Try.results49, go_sem, r0, r1, r2, r3]) rfl
      (abaN_err HR.out rfl (by repeat (first | exact hb | refine Below.setCell ?_ (by simp <;> omega) _ | refine Below.alloc ?_ (by simp <;> omega) _ | refine Below.drew ?_)))
  | true =>
    rw [h] at HV
    have HA := Lib.hid (aba_of h)
    have HST := Lib.hid (fun (j : Nat) (cur : List (Int × Int)) => repAt_stop (j := j) (cur := cur) (ms := ms) h)
    have HEN := Lib.hid (fun (j : Nat) (cur : List (Int × Int)) => repAt_end (j := j) (cur := cur) (ms := ms) h)
    clear h
    go_enter Try.func49, Try.ntmps49
    go_wp2_with fail
    rw [← HU.out]
    refine HV.out.mono ?_
    rintro e V ⟨rfl, hb1⟩
    replace bx0 := bx0.below hb1
    replace bx2 := bx2.below hb1
    replace ha := ha.below hb1
    replace hbel := hbel.trans (hb1.mono hbel.size)
    have hzV : w.heap.size + 1 < V.heap.size := bx2.lt
    clear hb1 HV HU u
    go_upto_region 3 with fail
    go_cut [7] from 8 (fun s7 wx => BoxAba V U L W rs s7 wx)
    case first =>
      have k0 := kept_all (p := ⟨w.heap.size, 0, none⟩) (v := .int .i64 U) (bx0.at_ 0 rfl)
      have k1 := kept_all (p := ⟨w.heap.size, 1, none⟩) (v := .int .i64 L) (bx0.at_ 1 rfl)
      have k2 := kept_all (p := ⟨w.heap.size, 2, none⟩) (v := .int .i64 W) (bx0.at_ 2 rfl)
      have k3 := kept_all (p := ⟨w.heap.size, 3, none⟩) (v := .slice a rs.length c) (bx0.at_ 3 rfl)
      have hn0 : 0 < rs.length := by have := HA.out.n0; omega
      refine wp_region_marked (fun w' => Below V.heap.size V w') 6 (by kernel_rfl) ?_
      have hS : Below V.heap.size V V.drew := (Below.refl _ _).drew
      refine wpAnyM_take (i := 0) (v := ?_) rfl (by kernel_rfl) (by kernel_rfl) (by kernel_rfl) (by kernel_rfl) (by kernel_rfl) (fun _ _ _ h => h) hS (.inl ⟨by rfl, ?_⟩) ?_
      rotate_left 1
      · intro w' hS'; go_simp; try with_reducible rfl
      simp only [Act.put, List.setIfInBounds_toArray]
      refine wpAnyM_take (i := 1) (v := ?_) rfl (by kernel_rfl) (by kernel_rfl) (by kernel_rfl) (by kernel_rfl) (by kernel_rfl) (fun _ _ _ h => h) hS (.inl ⟨by rfl, ?_⟩) ?_
      rotate_left 1
      · intro w' hS'; go_simp; try with_reducible rfl
      simp only [Act.put]
      refine wpAnyM_take (i := 2) (v := ?_) rfl (by kernel_rfl) (by kernel_rfl) (by kernel_rfl) (by kernel_rfl) (by kernel_rfl) (fun _ _ _ h => h) hS (.inl ⟨by rfl, ?_⟩) ?_
      rotate_left 1
      · intro w' hS'; go_simp; try with_reducible rfl
      simp only [Act.put]
      clear k0 k1 k2 k3
      refine wpAnyM_two (i := 3) (j := 5) (by kernel_rfl) rfl rfl (by rfl) (by rfl) (fun K hK => ?_) (fun K hK => ?_)
      · go_simp
        refine (cloneRods_any a c rs V.drew (ha.below hS) hn0).mono ?_
        rintro e w3 ⟨A, C, rfl, ow, hb3⟩
        have hS3 : Below V.heap.size V w3 := hS.trans (hb3.mono (by simp))
        replace ow : OwnF pairF 106 w3 V.heap.size w3.heap.size (.slice A rs.length C) rs := by simpa using ow
        refine hK _ _ (.inr hS3) ?_
        try simp only [Act.put, List.setIfInBounds_toArray]
        clear hK K hb3
        refine wpAnyM_two (i := 4) (j := 5) (by kernel_rfl) rfl rfl (by rfl) (by rfl) (fun K hK => ?_) (fun K hK => ?_)
        · go_simp
          refine (withRods_any U L W a rs.length c A rs.length C w3).mono ?_
          rintro e w4 ⟨rfl, hb4⟩
          have hS4 := hS3.trans (hb4.mono hS3.size)
          have ow4 := ow.below hb4
          refine hK _ _ (.inr hS4) ?_
          try simp only [Act.put, List.setIfInBounds_toArray]
          clear hK K
          refine wpAnyM_one (i := 5) (by kernel_rfl) rfl (by rfl) (fun K hK => ?_)
          go_simp
          refine hK _ _ (.inr (hS4.alloc hS4.size _)) ?_
          try simp only [Act.put, List.setIfInBounds_toArray]
          clear hK K
          refine wpAnyM_one (i := 6) (by kernel_rfl) rfl (by rfl) (fun K hK => ?_)
          go_simp
          refine hK _ _ (.inl rfl) ?_
          clear hK K
          refine wpAnyM_done (by kernel_rfl) ?_ _
          go_wp2_with fail
          go_meet
          case rel => exact boxAba_new hS4 ow4 (Nat.le_refl _) hb4.size
        · go_simp
          have bz := Bx.new w3 #[.int .i64 0, .int .i64 0, .int .i64 0, .slice none 0 0] 38
          have hS4 := hS3.alloc hS3.size (.cells #[.int .i64 0, .int .i64 0, .int .i64 0, .slice none 0 0] 38)
          have ow4 := ow.alloc (.cells #[.int .i64 0, .int .i64 0, .int .i64 0, .slice none 0 0] 38)
          have hg4 : V.heap.size ≤ w3.heap.size := hS3.size
          refine hK _ _ (.inr hS4) ?_
          try simp only [Act.put, List.setIfInBounds_toArray]
          clear hK K
          refine wpAnyM_one (i := 4) (by kernel_rfl) rfl (by rfl) (fun K hK => ?_)
          go_simp
          refine (withRods_any U L W a rs.length c A rs.length C _).mono ?_
          rintro e w4 ⟨rfl, hb4⟩
          have hS5 := hS4.trans (hb4.mono hS4.size)
          have ow5 := ow4.below hb4
          replace bz := bz.below hb4
          have hz4 : w3.heap.size < w4.heap.size := bz.lt
          have z0 := bz.at_ 0 rfl
          have z1 := bz.at_ 1 rfl
          have z2 := bz.at_ 2 rfl
          have z3 := bz.at_ 3 rfl
          have f0 := bz.thaw 0
          have f1 := bz.thaw 1
          have f2 := bz.thaw 2
          have f3 := bz.thaw 3
          refine hK _ _ (.inr hS5) ?_
          try simp only [Act.put, List.setIfInBounds_toArray]
          clear hK K
          refine wpAnyM_one (i := 6) (by kernel_rfl) rfl (by rfl) (fun K hK => ?_)
          go_simp
          refine hK _ _ (.inl rfl) ?_
          clear hK K
          refine wpAnyM_done (by kernel_rfl) ?_ _
          go_wp2_with fail
          go_meet
          case rel => exact boxAba_mk hS5 ow5 (.inr (Nat.le_refl _)) (Nat.le_refl _) (Nat.le_of_lt hz4) bz hg4
      · go_simp
        have bz := (Bx.new V #[.int .i64 0, .int .i64 0, .int .i64 0, .slice none 0 0] 38).drew
        have hS3 : Below V.heap.size V (V.alloc (.cells #[.int .i64 0, .int .i64 0, .int .i64 0, .slice none 0 0] 38)).drew := ((Below.refl _ _).alloc (Nat.le_refl _) _).drew
        refine hK _ _ (.inr hS3) ?_
        try simp only [Act.put, List.setIfInBounds_toArray]
        clear hK K
        refine wpAnyM_one (i := 3) (by kernel_rfl) rfl (by rfl) (fun K hK => ?_)
        go_simp
        refine (cloneRods_any a c rs (V.alloc (.cells #[.int .i64 0, .int .i64 0, .int .i64 0, .slice none 0 0] 38)).drew (ha.below hS3) hn0).mono ?_
        rintro e w3 ⟨A, C, rfl, ow, hb3⟩
        have hS4 : Below V.heap.size V w3 := hS3.trans (hb3.mono (by simp))
        replace ow : OwnF pairF 106 w3 (V.heap.size + 1) w3.heap.size (.slice A rs.length C) rs := by simpa using ow
        replace bz := bz.below hb3
        refine hK _ _ (.inr hS4) ?_
        try simp only [Act.put, List.setIfInBounds_toArray]
        clear hK K hb3
        refine wpAnyM_one (i := 4) (by kernel_rfl) rfl (by rfl) (fun K hK => ?_)
        go_simp
        refine (withRods_any U L W a rs.length c A rs.length C w3).mono ?_
        rintro e w4 ⟨rfl, hb4⟩
        have hS5 := hS4.trans (hb4.mono hS4.size)
        have ow5 := ow.below hb4
        replace bz := bz.below hb4
        have z0 := bz.at_ 0 rfl
        have z1 := bz.at_ 1 rfl
        have z2 := bz.at_ 2 rfl
        have z3 := bz.at_ 3 rfl
        have f0 := bz.thaw 0
        have f1 := bz.thaw 1
        have f2 := bz.thaw 2
        have f3 := bz.thaw 3
        refine hK _ _ (.inr hS5) ?_
        try simp only [Act.put, List.setIfInBounds_toArray]
        clear hK K
        refine wpAnyM_one (i := 6) (by kernel_rfl) rfl (by rfl) (fun K hK => ?_)
        go_simp
        refine hK _ _ (.inl rfl) ?_
        clear hK K
        refine wpAnyM_done (by kernel_rfl) ?_ _
        go_wp2_with fail
        go_meet
        case rel => exact boxAba_mk hS5 ow5 (.inl (by omega)) (by omega) hb4.size bz (Nat.le_refl _)
    case rest =>
      obtain ⟨g, A, C, lo, hi, rfl, b0, b1, b2, b3, ow, D1, D2, D3, D4, D5, hbw⟩ := hcut
      obtain ⟨v, rfl⟩ : ∃ v, v = wc := ⟨_, rfl⟩
      obtain ⟨gb, rfl, l1, l2, l3⟩ := ow.head (by have := HA.out.n0; omega)
      replace bx2 := bx2.below hbw
      replace hbel := hbel.trans (hbw.mono hbel.size)
      have hne : g ≠ gb := by have := D1.out; omega
      have hlo : w.heap.size + 1 < lo := by have := D2.out; omega
      have hlg : w.heap.size + 1 < g := by have := D3.out; omega
      have atv : AbaAt v g U L W (some ⟨gb, 0, none⟩) rs.length C := ⟨b0, b1, b2, b3⟩
      obtain ⟨n, hn⟩ : ∃ n, n = rs.length := ⟨_, rfl⟩
      rw [← hn] at ow atv
      have HN := Lib.hid hn
      clear b0 b1 b2 b3 hbw hn bx0 ha hxl
      go_wp2
      go_loopw [23] (fun i wr => ∃ (j : Nat) (cur : List (Int × Int)), j ≤ ms.length ∧ i = .int .i64 j ∧ Hid (RepAt U L rs ms j cur) ∧ Hid (Aba U L W cur) ∧ Hid (cur.length = n) ∧
        OwnF pairF 106 wr lo hi (.slice (some ⟨gb, 0, none⟩) n C) cur ∧ AbaAt wr g U L W (some ⟨gb, 0, none⟩) n C ∧ Bx wr (w.heap.size + 1) 38 #[.int .i64 0, .int .i64 0, .int .i64 0, .slice none 0 0] ∧ Below w.heap.size w wr ∧ Hid (hi ≤ wr.heap.size) ∧ Hid (g < wr.heap.size)) (fun i _ => ms.length - (intOf i).toNat)
      case atStart => exact ⟨0, rs, Nat.zero_le _, rfl, Lib.hid repAt_zero, HA, Lib.hid HN.out.symm, ow, atv, bx2, hbel, D5, D4⟩
      case round =>
        obtain ⟨j, cur, hj, rfl, HP, HC, HL, owr, atr, bxr, hbr, HZ, HG⟩ := hrel
        clear ow atv bx2 hbel
        have hcl := HL.out
        clear HL HN
        subst hcl
        by_cases hlt : j < ms.length
        · obtain ⟨b', off, rfl, p0, p1, p2⟩ := (hm.below hbr).at3 hlt
          have hI := zm _ (elt_mem (F := tripF) hlt)
          go_upto_region 7 with fail
          obtain ⟨x, hx⟩ : ∃ x, x = elt tripF ms j := ⟨_, rfl⟩
          rw [← hx] at p0 p1 p2 hI ⊢
          have HX := Lib.hid hx
          clear hx p0 p1 p2
          obtain ⟨X, hX⟩ : ∃ X, X = wr.alloc (.cells #[.int .i64 x.1, .int .i64 x.2.1, .int .i64 x.2.2] 62) := ⟨_, rfl⟩
          rw [← hX]
          have hbX : Below wr.heap.size wr X := by rw [hX]; exact (Below.refl _ _).alloc (Nat.le_refl _) _
          have bm : Bx X wr.heap.size 62 #[.int .i64 x.1, .int .i64 x.2.1, .int .i64 x.2.2] := by rw [hX]; exact Bx.new _ _ _
          clear hX
          have hgw : g < wr.heap.size := HG.out
          have hbw : gb < wr.heap.size := by have := HZ.out; omega
          have hlw0 : w.heap.size + 1 < wr.heap.size := bxr.lt
          replace owr := owr.below hbX
          replace atr := atr.below hbX
          replace bxr := bxr.below hbX
          replace hbr := hbr.trans (hbX.mono hbr.size)
          clear hbX
          obtain ⟨r, hr⟩ := raR_any (U := U) (L := L) (rs := cur) (x := x)
          have HRA := Lib.hid (rodAfter_any U L W (some ⟨gb, 0, none⟩) C cur x.1 x.2.1 x.2.2 X owr.rd HC.out.u1 HC.out.l1 (rodsB_true HC.out.rods))
          rw [hr] at HRA
          have HRR := Lib.hid hr
          clear hr
          obtain ⟨c0, c1, c2, c3⟩ := atr
          have m0 := bm.at_ 0 rfl
          have m1 := bm.at_ 1 rfl
          have m2 := bm.at_ 2 rfl
          go_wp2_with fail
          refine HRA.out.mono ?_
          rintro e w3 ⟨rfl, hb3⟩
          replace owr := owr.below hb3
          replace bxr := bxr.below hb3
          replace bm := bm.below hb3
          have atr := (AbaAt.mk c0 c1 c2 c3).below hb3
          replace hbr := hbr.trans (hb3.mono hbr.size)
          have hz3 : wr.heap.size < w3.heap.size := bm.lt
          clear hb3 HRA c0 c1 c2 c3 m0 m1 m2
          by_cases hc : movC U L cur x = 0
          · rw [hc]
            obtain ⟨hm1, hrb, hra⟩ := raR_ok hc
            obtain ⟨k, hk, hkl⟩ := moveB_idx hm1
            have hre : r = movedRod cur x := by have h1 := HRR.out; rw [hra] at h1; exact (Prod.mk.inj h1).1.symm
            have HML := Lib.hid (show movL cur x = cur.set k r by simp [movL, hk, hre])
            have HP' := Lib.hid (show RepAt U L rs ms (j + 1) (movL cur x) by rw [HX.out]; exact repAt_succ HP.out hlt (by rw [← HX.out]; exact hc))
            have HC' := Lib.hid (aba_movL HC.out hc)
            rw [hk] at bm
            clear hm1 hrb hra hk hre hc HP HC HRR HX HST HEN
            go_upto_region 8 with fail
            obtain ⟨Y, hY⟩ : ∃ Y, Y = w3.alloc (.cells #[.int .i64 r.1, .int .i64 r.2] 106) := ⟨_, rfl⟩
            rw [← hY]
            have hbY : Below w3.heap.size w3 Y := by rw [hY]; exact (Below.refl _ _).alloc (Nat.le_refl _) _
            have bq : Bx Y w3.heap.size 106 #[.int .i64 r.1, .int .i64 r.2] := by rw [hY]; exact Bx.new _ _ _
            clear hY
            replace owr := owr.below hbY
            replace atr := atr.below hbY
            replace bxr := bxr.below hbY
            replace bm := bm.below hbY
            replace hbr := hbr.trans (hbY.mono hbr.size)
            replace HZ := Lib.hid (Nat.le_trans HZ.out (Nat.le_trans (Nat.le_of_lt hz3) hbY.size))
            replace HG := Lib.hid (Nat.lt_of_lt_of_le hgw (Nat.le_trans (Nat.le_of_lt hz3) hbY.size))
            clear hbY
            have at9 := (atr.far (q := ⟨gb, k * 2, none⟩) hne (.int .i64 r.1)).far (q := ⟨gb, k * 2 + 1, none⟩) hne (.int .i64 r.2)
            have bx9 := (bxr.far (p := ⟨gb, k * 2, none⟩) (show w.heap.size + 1 ≠ gb by omega) (.int .i64 r.1)).far (p := ⟨gb, k * 2 + 1, none⟩) (show w.heap.size + 1 ≠ gb by omega) (.int .i64 r.2)
            have hb9 := (hbr.setCell (p := ⟨gb, k * 2, none⟩) (show w.heap.size ≤ gb by omega) (.int .i64 r.1)).setCell (p := ⟨gb, k * 2 + 1, none⟩) (show w.heap.size ≤ gb by omega) (.int .i64 r.2)
            have HB9 := Lib.hid hb9
            have HO9 := Lib.hid (owr.put2 (k := k) hkl r)
            have HA9 := Lib.hid at9
            have HX9 := Lib.hid bx9
            obtain ⟨g0, g1⟩ := owr.get2 (k := k) hkl
            have f0 := owr.thaw (k * 2)
            have f1 := owr.thaw (k * 2 + 1)
            have m0 := bm.at_ 0 rfl
            have q0 := bq.at_ 0 rfl
            have q1 := bq.at_ 1 rfl
            obtain ⟨c0, c1, c2, c3⟩ := atr
            clear at9 bx9 hb9 c0 c1 c2
            go_wp2
            go_roundw
            case rel => exact ⟨j + 1, _, by omega, by go_num, HP', HC', Lib.hid (movL_len _ _), (by rw [HML.out]; exact HO9.out), HA9.out, HX9.out, HB9.out, Lib.hid (by have := HZ.out; simpa using this), Lib.hid (by have := HG.out; simpa using this)⟩
            case measure => (simp [intOf]) <;> omega
          · have hne : (movC U L cur x != 0) = true := by simp [hc]
            have HR := Lib.hid (HST.out j cur HP.out hlt (by rw [← HX.out]; exact hc))
            go_upto_region 8 with fail
            obtain ⟨Y, hY⟩ : ∃ Y, Y = w3.alloc (.cells #[.int .i64 r.1, .int .i64 r.2] 106) := ⟨_, rfl⟩
            rw [← hY]
            have hbY : Below w3.heap.size w3 Y := by rw [hY]; exact (Below.refl _ _).alloc (Nat.le_refl _) _
            clear hY
            replace owr := owr.below hbY
            replace atr := atr.below hbY
            replace bxr := bxr.below hbY
            replace hbr := hbr.trans (hbY.mono hbr.size)
            replace HZ := Lib.hid (Nat.le_trans HZ.out (Nat.le_trans (Nat.le_of_lt hz3) hbY.size))
            clear hbY HP HC HRR HX
            have f0 := bxr.thaw 0
            have f1 := bxr.thaw 1
            have f2 := bxr.thaw 2
            have f3 := bxr.thaw 3
            have z0 := bxr.at_ 0 rfl
            have z1 := bxr.at_ 1 rfl
            have z2 := bxr.at_ 2 rfl
            have z3 := bxr.at_ 3 rfl
            have hbz : w.heap.size ≤ w.heap.size + 1 := by omega
            have hd : w.heap.size + 1 < lo ∨ hi ≤ w.heap.size + 1 := .inl hlo
            have OW := Lib.hid ((((owr.setCell (p := ⟨w.heap.size + 1, 0, none⟩) hd (.int .i64 U)).setCell (p := ⟨w.heap.size + 1, 1, none⟩) hd (.int .i64 L)).setCell (p := ⟨w.heap.size + 1, 2, none⟩) hd (.int .i64 W)).setCell (p := ⟨w.heap.size + 1, 3, none⟩) hd (.slice (some ⟨gb, 0, none⟩) cur.length C))
            have HB := Lib.hid ((((hbr.setCell (p := ⟨w.heap.size + 1, 0, none⟩) hbz (.int .i64 U)).setCell (p := ⟨w.heap.size + 1, 1, none⟩) hbz (.int .i64 L)).setCell (p := ⟨w.heap.size + 1, 2, none⟩) hbz (.int .i64 W)).setCell (p := ⟨w.heap.size + 1, 3, none⟩) hbz (.slice (some ⟨gb, 0, none⟩) cur.length C))
            have hlw : w.heap.size ≤ lo := by omega
            have hpn : ¬ g = w.heap.size + 1 := by omega
            have hpn' : ¬ w.heap.size + 1 = g := by omega
            obtain ⟨c0, c1, c2, c3⟩ := atr
            clear owr hbr HST HEN HA
            go_wp2
            exact bodyPost_ret (v := .tuple #[.agg #[.int .i64 U, .int .i64 L, .int .i64 W, .slice (some ⟨gb, 0, none⟩) cur.length C], .int .i64 j, .int .i64 0]) (by simp [results, Try.results49, go_sem, z0, z1, z2, z3]) rfl
              (abaN_ok HR.out rfl rfl (lo := lo) (hi := hi) OW.out hlw (by have := HZ.out; simp; omega) HB.out)
        · have HR := Lib.hid (HEN.out j cur HP.out (by omega))
          have hje : (ms.length : Int) = (j : Int) := by omega
          clear HP HC
          have f0 := bxr.thaw 0
          have f1 := bxr.thaw 1
          have f2 := bxr.thaw 2
          have f3 := bxr.thaw 3
          have z0 := bxr.at_ 0 rfl
          have z1 := bxr.at_ 1 rfl
          have z2 := bxr.at_ 2 rfl
          have z3 := bxr.at_ 3 rfl
          have hbz : w.heap.size ≤ w.heap.size + 1 := by omega
          have hd : w.heap.size + 1 < lo ∨ hi ≤ w.heap.size + 1 := .inl hlo
          have OW := Lib.hid ((((owr.setCell (p := ⟨w.heap.size + 1, 0, none⟩) hd (.int .i64 U)).setCell (p := ⟨w.heap.size + 1, 1, none⟩) hd (.int .i64 L)).setCell (p := ⟨w.heap.size + 1, 2, none⟩) hd (.int .i64 W)).setCell (p := ⟨w.heap.size + 1, 3, none⟩) hd (.slice (some ⟨gb, 0, none⟩) cur.length C))
          have HB := Lib.hid ((((hbr.setCell (p := ⟨w.heap.size + 1, 0, none⟩) hbz (.int .i64 U)).setCell (p := ⟨w.heap.size + 1, 1, none⟩) hbz (.int .i64 L)).setCell (p := ⟨w.heap.size + 1, 2, none⟩) hbz (.int .i64 W)).setCell (p := ⟨w.heap.size + 1, 3, none⟩) hbz (.slice (some ⟨gb, 0, none⟩) cur.length C))
          have hlw : w.heap.size ≤ lo := by omega
          have hpn : ¬ g = w.heap.size + 1 := by omega
          have hpn' : ¬ w.heap.size + 1 = g := by omega
          obtain ⟨c0, c1, c2, c3⟩ := atr
          clear owr hbr HST HEN HA
          go_wp2
          rw [hje]
          exact bodyPost_ret (v := .tuple #[.agg #[.int .i64 U, .int .i64 L, .int .i64 W, .slice (some ⟨gb, 0, none⟩) cur.length C], .int .i64 j, .int .i64 0]) (by simp [results, Try.results49, go_sem, z0, z1, z2, z3]) rfl
            (abaN_ok HR.out rfl rfl (lo := lo) (hi := hi) OW.out hlw (by have := HZ.out; simp; omega) HB.out)
end Go.Proofs.Ythhphopmkmbmiaa
