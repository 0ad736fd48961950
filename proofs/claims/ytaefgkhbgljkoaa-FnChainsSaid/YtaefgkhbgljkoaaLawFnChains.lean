/-
  laws.FnChains returns true at every input (no condition), and leaves its arguments as they were.
-/
import Derived.Test.YtaefgkhbgljkoaaBytes
import Derived.Test.YtaefgkhbgljkoaaDrawC
import Derived.Test.YtaefgkhbgljkoaaA2Same
import Derived.Test.YtaefgkhbgljkoaaMoveChI
import Derived.Test.YtaefgkhbgljkoaaMoveChS
import Derived.Test.YtaefgkhbgljkoaaChainT
import Derived.Test.YtaefgkhbgljkoaaSameCh
import Derived.Test.YtaefgkhbgljkoaaFacts
import Derived.Test.YtaefgkhbgljkoaaRows
namespace Go.Proofs.Ytaefgkhbgljkoaa.lawFnChains
open Go.ChangeShapes Go.WideShapes Go.ChangeAt Go.WideElems Go.RowKit Go.Joins
open Go.ChangeMaps (open_string shut_string)
open Go.BigFrame

/-- A chain in a box that has been made, and a code. -/
def ChaBoxAt (w : World) (p q : List Int) (s t : Value) (wx : World) : Prop := ∃ g A C D E, s = .pointer (some ⟨g, 0, none⟩) ∧ t = .int .i64 0 ∧ Bx wx g 41 #[.slice A p.length C, .slice D q.length E] ∧ Rd2 wx A p D q ∧ Below w.heap.size w wx

theorem rd_cell {w : World} {b o : Nat} {zs : List Int} {k : Nat} (h : Rd w (some ⟨b, o, none⟩) zs) (hk : k < zs.length) : w.cell? ⟨b, o + k, none⟩ = some (.int .i64 (nth zs k)) := by
  obtain ⟨b', o', e, hc⟩ := h.at_ hk
  injection e with e
  injection e with e1 e2
  subst e1 e2
  exact hc
theorem mem_all64 {zs : List Int} (h : ∀ k, k < zs.length → -1000000 ≤ nth zs k ∧ nth zs k ≤ 1000000) : All64 zs := by
  intro z hz
  obtain ⟨k, hk, rfl⟩ := List.getElem_of_mem hz
  have := h k hk
  rw [nth_get hk] at this
  exact i64_small this.1 this.2
theorem chain_i64 {p q : List Int} (h : ChainOf p q) : All64 p ∧ All64 q := ⟨mem_all64 fun k hk => by have := h.play k hk; omega, mem_all64 h.place⟩

set_option maxRecDepth 100000 in
set_option maxHeartbeats 8000000 in
theorem law_walk (xA : Option Addr) (xC : Nat) (xZ : List Int) (yA : Option Addr) (yC : Nat) (yZ : List Int) (w : World) (hx : RawU w xA xZ) (hy : RawU w yA yZ) :
    Calls Try.prog 4 #[.slice xA xZ.length xC, .slice yA yZ.length yC] w fun e w' => e = .returned (.bool true) ∧ Below w.heap.size w w' := by
  have hbel : Below w.heap.size w w := Below.refl _ _
  go_enter Try.func4, Try.ntmps4
  go_wp2_with fail
  refine (a2Long_any xA yA xZ.length yZ.length xC yC w).mono ?_
  rintro e w1 ⟨rfl, hq⟩
  subst w1
  by_cases hl : 3000 < xZ.length ∨ 3000 < yZ.length
  · rw [decide_eq_true hl]
    clear hl
    go_wp2
    go_ret
    exact ⟨rfl, hbel⟩
  · rw [decide_eq_false hl]
    replace hx := hx.rd (by omega)
    replace hy := hy.rd (by omega)
    clear hl
    go_wp2_with fail
    refine (a2Chain_any xA xZ xC w hx).mono ?_
    rintro e w1 ⟨p, q, A, C, D, E, rfl, dd, hn, rc, hb⟩
    clear hx
    replace hy := hy.below hb
    replace hbel := hbel.trans (hb.mono hbel.size)
    clear hb
    have hC := dd.chain hn.1 hn.2
    have h64 := chain_i64 (chain_of hC)
    have HC := Lib.hid hC
    have HD := Lib.hid dd
    have HN := Lib.hid hn
    clear hC dd hn
    go_wp2_with fail
    obtain ⟨gc, hgc⟩ : ∃ g, g = w1.heap.size := ⟨_, rfl⟩
    obtain ⟨v1, hv1⟩ : ∃ V, V = w1.alloc (.cells #[.slice A p.length C, .slice D q.length E] 41) := ⟨_, rfl⟩
    have b_gc : Bx v1 gc 41 #[.slice A p.length C, .slice D q.length E] := by rw [hv1, hgc]; exact Bx.new _ _ _
    have hb : Below w1.heap.size w1 v1 := by rw [hv1]; exact (Below.refl _ _).alloc (Nat.le_refl _) _
    rw [← hgc, ← hv1]
    clear hv1 hgc
    replace hy := hy.below hb
    replace rc := rc.below hb
    replace hbel := hbel.trans (hb.mono hbel.size)
    clear hb
    refine (a2At_any yA yZ yC 0 60 v1 hy (by omega) (by omega) (by omega)).mono ?_
    rintro e w2 ⟨z, rfl, z0, z1, hb⟩
    replace hy := hy.below hb
    replace rc := rc.below hb
    replace b_gc := b_gc.below hb
    replace hbel := hbel.trans (hb.mono hbel.size)
    clear hb
    have e1 : IntKind.i64.wrap (z - 30) = z - 30 := fits_int _ (by omega) (by omega)
    obtain ⟨t, ht⟩ : ∃ t, t = z - 30 := ⟨_, rfl⟩
    have ht0 : -30 ≤ t ∧ t ≤ 29 := by omega
    have it : I64 t := i64_small (by omega) (by omega)
    have HT := Lib.hid ht
    clear ht z0 z1
    have cc0 := b_gc.at_ 0 rfl
    have cc1 := b_gc.at_ 1 rfl
    go_wp2_with fail
    rw [← HT.out]
    obtain ⟨xs, hxs⟩ : ∃ xs, xs = mvL p q t := ⟨_, rfl⟩
    have hcx : chainB p xs = true := by rw [hxs]; exact HD.out.moved HN.out.1 HN.out.2 (by omega) (by omega)
    have x64 := chain_i64 (chain_of hcx)
    have hx0 : 0 < xs.length := by rw [hxs, mvL_len]; omega
    have hxt : nth xs 0 = t := by rw [hxs, mvL_at (by omega)]; rfl
    have HM := Lib.hid (show mvR p q t = (p, xs, 0) by rw [hxs]; exact mvR_ok HC.out (inB_yes (by omega) (by omega)))
    have HX := Lib.hid hxs
    have HCX := Lib.hid hcx
    have HXT := Lib.hid hxt
    clear hxs hcx hxt e1
    refine (implMoveChain A C p D E q t w2 rc h64 it).mono ?_
    rw [HM.out]
    rintro e w3 ⟨A1, C1, D1, E1, rfl, ox, hb⟩
    clear cc0 cc1
    have rx : Rd2 w3 A1 p D1 xs := ox.rd
    clear ox
    replace hy := hy.below hb
    replace rc := rc.below hb
    replace b_gc := b_gc.below hb
    replace hbel := hbel.trans (hb.mono hbel.size)
    clear hb
    have cc0 := b_gc.at_ 0 rfl
    have cc1 := b_gc.at_ 1 rfl
    have cz := b_gc.lt
    go_wp2_with fail
    clear cc0 cc1 cz
    obtain ⟨gx, hgx⟩ : ∃ g, g = w3.heap.size := ⟨_, rfl⟩
    obtain ⟨v3, hv3⟩ : ∃ V, V = w3.alloc (.cells #[.slice A1 p.length C1, .slice D1 xs.length E1] 41) := ⟨_, rfl⟩
    have b_gx : Bx v3 gx 41 #[.slice A1 p.length C1, .slice D1 xs.length E1] := by rw [hv3, hgx]; exact Bx.new _ _ _
    have hb : Below w3.heap.size w3 v3 := by rw [hv3]; exact (Below.refl _ _).alloc (Nat.le_refl _) _
    rw [← hgx, ← hv3]
    clear hv3 hgx
    replace hy := hy.below hb
    replace rc := rc.below hb
    replace b_gc := b_gc.below hb
    replace rx := rx.below hb
    replace hbel := hbel.trans (hb.mono hbel.size)
    clear hb
    obtain ⟨tt, htt⟩ : ∃ z, z = sumTo p p.length := ⟨_, rfl⟩
    have HTO := Lib.hid (show totR p q = (tt, 0) by rw [htt]; exact totR_ok HC.out)
    have HTT := Lib.hid htt
    clear htt
    refine (implTotalPlay A C p D E q v3 rc h64).mono ?_
    rw [HTO.out]
    rintro e w4 ⟨rfl, hb⟩
    replace hy := hy.below hb
    replace rc := rc.below hb
    replace b_gc := b_gc.below hb
    replace rx := rx.below hb
    replace b_gx := b_gx.below hb
    replace hbel := hbel.trans (hb.mono hbel.size)
    clear hb
    have cc0 := b_gc.at_ 0 rfl
    have cx0 := b_gx.at_ 0 rfl
    have cx1 := b_gx.at_ 1 rfl
    go_wp2_with fail
    refine (specValidChain A1 C1 p D1 E1 xs w4 rx x64).mono ?_
    rw [HCX.out]
    rintro e w5 ⟨rfl, hb⟩
    clear cc0 cx0 cx1
    replace hy := hy.below hb
    replace rc := rc.below hb
    replace b_gc := b_gc.below hb
    replace rx := rx.below hb
    replace b_gx := b_gx.below hb
    replace hbel := hbel.trans (hb.mono hbel.size)
    clear hb
    have cc0 := b_gc.at_ 0 rfl
    have cx0 := b_gx.at_ 0 rfl
    have cx1 := b_gx.at_ 1 rfl
    go_wp2_with fail
    refine (a2Same_any A1 A C1 C p p w5 rx.p rc.p).mono ?_
    rw [decide_eq_true (rfl : p = p)]
    rintro e w6 ⟨rfl, m, hm⟩
    have hb : Below w5.heap.size w5 w6 := by rw [hm]; exact bel_drewN (Below.refl _ _) m
    clear hm cc0 cx0 cx1
    replace hy := hy.below hb
    replace rc := rc.below hb
    replace b_gc := b_gc.below hb
    replace rx := rx.below hb
    replace b_gx := b_gx.below hb
    replace hbel := hbel.trans (hb.mono hbel.size)
    clear hb
    have cc0 := b_gc.at_ 0 rfl
    have cc1 := b_gc.at_ 1 rfl
    have cx0 := b_gx.at_ 0 rfl
    have cx1 := b_gx.at_ 1 rfl
    obtain ⟨b1, o1, hD1, hc1⟩ := rx.q.at_ hx0
    rw [HXT.out, Nat.add_zero] at hc1
    subst hD1
    go_upto_region 9 with fail
    clear cx0 cx1 hc1
    have hq0 : 0 < q.length := by have := HD.out.ln; omega
    obtain ⟨b2, o2, hD2, hc2⟩ := rc.q.at_ hq0
    rw [Nat.add_zero] at hc2
    subst hD2
    obtain ⟨f, hf⟩ : ∃ f, f = nth q 0 := ⟨_, rfl⟩
    rw [← hf] at hc2
    have hf0 := HD.out.first
    rw [← hf] at hf0
    have i_f : I64 f := i64_small (by omega) (by omega)
    have HS := Lib.hid (show mvR p q f = (p, q, 0) by rw [hf, mvR_ok HC.out (inB_yes (by omega) (by omega)), mvL_stay HD.out.ln HD.out.join])
    have HF := Lib.hid hf
    clear hf
    go_cut [11, 12] from 67 (fun s11 s12 wx => ChaBoxAt w6 p q s11 s12 wx)
    case first =>
      have k0 := kept_all cc0
      have k1 := kept_all cc1
      have k2 := kept_all hc2
      refine wp_region_marked (fun w' => Below w6.heap.size w6 w') 11 (by kernel_rfl) ?_
      have hS : Below w6.heap.size w6 w6.drew := (Below.refl _ _).drew
      refine wpAnyM_take (i := 0) (v := ?_) rfl (by kernel_rfl) (by kernel_rfl) (by kernel_rfl) (by kernel_rfl) (by kernel_rfl) (fun _ _ _ h => h) hS (.inl ⟨by rfl, ?_⟩) ?_
      rotate_left 1
      · intro w' hS'; go_simp; try with_reducible rfl
      simp only [Act.put, List.setIfInBounds_toArray]
      refine wpAnyM_take (i := 1) (v := ?_) rfl (by kernel_rfl) (by kernel_rfl) (by kernel_rfl) (by kernel_rfl) (by kernel_rfl) (fun _ _ _ h => h) hS (.inl ⟨by rfl, ?_⟩) ?_
      rotate_left 1
      · intro w' hS'; go_simp; try with_reducible rfl
      simp only [Act.put]
      refine wpAnyM_take (i := 2) (v := ?_) rfl (by kernel_rfl) (by kernel_rfl) (by kernel_rfl) (by kernel_rfl) (by kernel_rfl) (fun _ _ _ h => h) hS (.inl ⟨by rfl, ?_⟩) ?_
      rotate_left 1
      · intro w' hS'; go_simp; try with_reducible rfl
      simp only [Act.put]
      refine wpAnyM_take (i := 3) (v := ?_) rfl (by kernel_rfl) (by kernel_rfl) (by kernel_rfl) (by kernel_rfl) (by kernel_rfl) (fun _ _ _ h => h) hS (.inl ⟨by rfl, ?_⟩) ?_
      rotate_left 1
      · intro w' hS'; go_simp; try with_reducible rfl
      simp only [Act.put]
      refine wpAnyM_take (i := 4) (v := ?_) rfl (by kernel_rfl) (by kernel_rfl) (by kernel_rfl) (by kernel_rfl) (by kernel_rfl) (fun _ _ _ h => h) hS (.inl ⟨by rfl, ?_⟩) ?_
      rotate_left 1
      · intro w' hS'; go_simp; try with_reducible rfl
      simp only [Act.put]
      clear k0 k1 k2
      refine wpAnyM_two (i := 5) (j := 9) (by kernel_rfl) rfl rfl (by rfl) (by rfl) (fun K hK => ?_) (fun K hK => ?_)
      · go_simp
        refine (implMoveChain A C p (some ⟨b2, o2, none⟩) E q f w6.drew (rc.below hS) h64 i_f).mono ?_
        rw [HS.out]
        rintro e w7 ⟨A2, C2, D2, E2, rfl, oy, hb⟩
        have hS2 : Below w6.heap.size w6 w7 := hS.trans (hb.mono (by simp))
        refine hK _ _ (.inr hS2) ?_
        try simp only []
        clear hK K
        refine wpAnyM_take (i := 6) (v := ?_) rfl (by kernel_rfl) (by kernel_rfl) (by kernel_rfl) (by kernel_rfl) (by kernel_rfl) (fun _ _ _ h => h) hS2 (.inl ⟨by rfl, ?_⟩) ?_
        rotate_left 1
        · intro w' hS'; go_simp; try with_reducible rfl
        simp only [Act.put, List.setIfInBounds_toArray]
        refine wpAnyM_take (i := 7) (v := ?_) rfl (by kernel_rfl) (by kernel_rfl) (by kernel_rfl) (by kernel_rfl) (by kernel_rfl) (fun _ _ _ h => h) hS2 (.inl ⟨by rfl, ?_⟩) ?_
        rotate_left 1
        · intro w' hS'; go_simp; try with_reducible rfl
        simp only [Act.put]
        refine wpAnyM_take (i := 8) (v := ?_) rfl (by kernel_rfl) (by kernel_rfl) (by kernel_rfl) (by kernel_rfl) (by kernel_rfl) (fun _ _ _ h => h) hS2 (.inl ⟨by rfl, ?_⟩) ?_
        rotate_left 1
        · intro w' hS'; go_simp; try with_reducible rfl
        simp only [Act.put]
        refine wpAnyM_one (i := 9) (by kernel_rfl) rfl (by rfl) (fun K hK => ?_)
        go_simp
        have bz := Bx.new w7 #[.slice none 0 0, .slice none 0 0] 41
        have ry : Rd2 w7 A2 p D2 q := oy.rd
        refine hK _ _ (.inr (hS2.alloc hS2.size _)) ?_
        try simp only [Act.put, List.setIfInBounds_toArray]
        clear hK K
        have z0 := bz.at_ 0 rfl
        have z1 := bz.at_ 1 rfl
        have f0 := bz.thaw 0
        have f1 := bz.thaw 1
        refine wpAnyM_one (i := 10) (by kernel_rfl) rfl (by rfl) (fun K hK => ?_)
        go_simp
        refine hK _ _ (.inr (hS2.alloc hS2.size _)) ?_
        try simp only [Act.put, List.setIfInBounds_toArray]
        clear hK K
        refine wpAnyM_one (i := 11) (by kernel_rfl) rfl (by rfl) (fun K hK => ?_)
        go_simp
        refine hK _ _ (.inl rfl) ?_
        clear hK K
        refine wpAnyM_done (by kernel_rfl) ?_ _
        go_wp2_with fail
        go_meet
        case rel => exact ⟨w7.heap.size, A2, C2, D2, E2, rfl, rfl, Bx.new _ _ _, ry.below ((Below.refl _ _).alloc (Nat.le_refl _) _), hS2.alloc hS2.size _⟩
      · go_simp
        have bz := (Bx.new w6 #[.slice none 0 0, .slice none 0 0] 41).drew
        have hS3 : Below w6.heap.size w6 (w6.alloc (.cells #[.slice none 0 0, .slice none 0 0] 41)).drew := ((Below.refl _ _).alloc (Nat.le_refl _) _).drew
        refine hK _ _ (.inr hS3) ?_
        try simp only [Act.put, List.setIfInBounds_toArray]
        clear hK K
        refine wpAnyM_one (i := 5) (by kernel_rfl) rfl (by rfl) (fun K hK => ?_)
        go_simp
        refine (implMoveChain A C p (some ⟨b2, o2, none⟩) E q f _ (rc.below hS3) h64 i_f).mono ?_
        rw [HS.out]
        rintro e w7 ⟨A2, C2, D2, E2, rfl, oy, hb⟩
        have hS4 : Below w6.heap.size w6 w7 := hS3.trans (hb.mono (by simp))
        replace bz := bz.below hb
        have z0 := bz.at_ 0 rfl
        have z1 := bz.at_ 1 rfl
        have f0 := bz.thaw 0
        have f1 := bz.thaw 1
        refine hK _ _ (.inr hS4) ?_
        try simp only []
        clear hK K
        refine wpAnyM_take (i := 6) (v := ?_) rfl (by kernel_rfl) (by kernel_rfl) (by kernel_rfl) (by kernel_rfl) (by kernel_rfl) (fun _ _ _ h => h) hS4 (.inl ⟨by rfl, ?_⟩) ?_
        rotate_left 1
        · intro w' hS'; go_simp; try with_reducible rfl
        simp only [Act.put, List.setIfInBounds_toArray]
        refine wpAnyM_take (i := 7) (v := ?_) rfl (by kernel_rfl) (by kernel_rfl) (by kernel_rfl) (by kernel_rfl) (by kernel_rfl) (fun _ _ _ h => h) hS4 (.inl ⟨by rfl, ?_⟩) ?_
        rotate_left 1
        · intro w' hS'; go_simp; try with_reducible rfl
        simp only [Act.put]
        refine wpAnyM_take (i := 8) (v := ?_) rfl (by kernel_rfl) (by kernel_rfl) (by kernel_rfl) (by kernel_rfl) (by kernel_rfl) (fun _ _ _ h => h) hS4 (.inl ⟨by rfl, ?_⟩) ?_
        rotate_left 1
        · intro w' hS'; go_simp; try with_reducible rfl
        simp only [Act.put]
        refine wpAnyM_one (i := 10) (by kernel_rfl) rfl (by rfl) (fun K hK => ?_)
        go_simp
        refine hK _ _ (.inr ((hS4.setCell (by simp) _).setCell (by simp) _)) ?_
        try simp only [Act.put, List.setIfInBounds_toArray]
        clear hK K
        refine wpAnyM_one (i := 11) (by kernel_rfl) rfl (by rfl) (fun K hK => ?_)
        go_simp
        refine hK _ _ (.inl rfl) ?_
        clear hK K
        refine wpAnyM_done (by kernel_rfl) ?_ _
        go_wp2_with fail
        go_meet
        case rel => exact ⟨w6.heap.size, A2, C2, D2, E2, rfl, rfl, (bz.set_ 0 _).set_ 1 _, ((oy.setCell (.inl (by simp)) _).setCell (.inl (by simp)) _).rd, (hS4.setCell (by simp) _).setCell (by simp) _⟩
    case rest =>
      obtain ⟨gs, A2, C2, D2, E2, rfl, rfl, b_gs, rs, hb⟩ := hcut
      obtain ⟨v6, rfl⟩ : ∃ v, v = wc := ⟨_, rfl⟩
      clear cc0 cc1 hc2
      replace hy := hy.below hb
      replace rc := rc.below hb
      replace b_gc := b_gc.below hb
      replace rx := rx.below hb
      replace b_gx := b_gx.below hb
      replace hbel := hbel.trans (hb.mono hbel.size)
      clear hb
      have cc0 := b_gc.at_ 0 rfl
      have cc1 := b_gc.at_ 1 rfl
      have cx0 := b_gx.at_ 0 rfl
      have cx1 := b_gx.at_ 1 rfl
      have HA := Lib.hid (show mvR p xs t = (p, xs, 0) by rw [mvR_ok HCX.out (inB_yes (by omega) (by omega)), HX.out, HD.out.again t])
      go_wp2_with fail
      refine (implMoveChain A1 C1 p (some ⟨b1, o1, none⟩) E1 xs t v6 rx x64 it).mono ?_
      rw [HA.out]
      rintro e w7 ⟨A3, C3, D3, E3, rfl, oa, hb⟩
      have ra : Rd2 w7 A3 p D3 xs := oa.rd
      clear cc0 cc1 cx0 cx1 oa
      replace hy := hy.below hb
      replace rc := rc.below hb
      replace b_gc := b_gc.below hb
      replace rx := rx.below hb
      replace b_gx := b_gx.below hb
      replace b_gs := b_gs.below hb
      replace rs := rs.below hb
      replace hbel := hbel.trans (hb.mono hbel.size)
      clear hb
      have cc0 := b_gc.at_ 0 rfl
      have cc1 := b_gc.at_ 1 rfl
      have cx0 := b_gx.at_ 0 rfl
      have cx1 := b_gx.at_ 1 rfl
      have cs0 := b_gs.at_ 0 rfl
      have cs1 := b_gs.at_ 1 rfl
      have zz := (And.intro b_gc.lt (And.intro b_gx.lt b_gs.lt))
      obtain ⟨zc, zx, zs⟩ := zz
      go_wp2_with fail
      clear cc0 cc1 cx0 cx1 cs0 cs1 zc zx zs
      obtain ⟨ga, hga⟩ : ∃ g, g = w7.heap.size := ⟨_, rfl⟩
      obtain ⟨v7, hv7⟩ : ∃ V, V = w7.alloc (.cells #[.slice A3 p.length C3, .slice D3 xs.length E3] 41) := ⟨_, rfl⟩
      have b_ga : Bx v7 ga 41 #[.slice A3 p.length C3, .slice D3 xs.length E3] := by rw [hv7, hga]; exact Bx.new _ _ _
      have hb : Below w7.heap.size w7 v7 := by rw [hv7]; exact (Below.refl _ _).alloc (Nat.le_refl _) _
      rw [← hga, ← hv7]
      clear hv7 hga
      replace hy := hy.below hb
      replace rc := rc.below hb
      replace b_gc := b_gc.below hb
      replace rx := rx.below hb
      replace b_gx := b_gx.below hb
      replace b_gs := b_gs.below hb
      replace rs := rs.below hb
      replace ra := ra.below hb
      replace hbel := hbel.trans (hb.mono hbel.size)
      clear hb
      have HE := chEqB_self p q
      refine (specSameChain A2 C2 p D2 E2 q A C p (some ⟨b2, o2, none⟩) E q v7 rs h64 rc h64).mono ?_
      rw [HE]
      rintro e w8 ⟨rfl, hb⟩
      clear HE
      replace hy := hy.below hb
      replace rc := rc.below hb
      replace b_gc := b_gc.below hb
      replace rx := rx.below hb
      replace b_gx := b_gx.below hb
      replace b_gs := b_gs.below hb
      replace rs := rs.below hb
      replace ra := ra.below hb
      replace b_ga := b_ga.below hb
      replace hbel := hbel.trans (hb.mono hbel.size)
      clear hb
      have cx0 := b_gx.at_ 0 rfl
      have cx1 := b_gx.at_ 1 rfl
      have cs0 := b_ga.at_ 0 rfl
      have cs1 := b_ga.at_ 1 rfl
      go_wp2_with fail
      have HE := chEqB_self p xs
      refine (specSameChain A3 C3 p D3 E3 xs A1 C1 p (some ⟨b1, o1, none⟩) E1 xs w8 ra x64 rx x64).mono ?_
      rw [HE]
      rintro e w9 ⟨rfl, hb⟩
      clear HE cx0 cx1 cs0 cs1
      replace hy := hy.below hb
      replace rc := rc.below hb
      replace b_gc := b_gc.below hb
      replace rx := rx.below hb
      replace b_gx := b_gx.below hb
      replace b_gs := b_gs.below hb
      replace rs := rs.below hb
      replace ra := ra.below hb
      replace b_ga := b_ga.below hb
      replace hbel := hbel.trans (hb.mono hbel.size)
      clear hb
      go_wp2_with fail
      clear b_gs rs ra b_ga
      go_loopw [15] (fun i wr => ∃ k m : Nat, k ≤ q.length ∧ i = .int .i64 (k : Nat) ∧ wr = w9.drewN m) (fun i _ => q.length - (intOf i).toNat)
      case atStart => exact ⟨0, 0, Nat.zero_le _, rfl, rfl⟩
      case round =>
        obtain ⟨k, m, hk, rfl, rfl⟩ := hrel
        have cc0 := b_gc.at_ 0 rfl
        have cc1 := b_gc.at_ 1 rfl
        have cx0 := b_gx.at_ 0 rfl
        have cx1 := b_gx.at_ 1 rfl
        have hlq := rc.len.2
        have hlx := rx.len.2
        by_cases hlt : k < q.length
        · have hkn : k ≤ p.length := by have := HD.out.ln; omega
          have hltx : k < xs.length := by rw [HX.out, mvL_len]; omega
          have hc3 := rd_cell rc.q hlt
          have hc4 := rd_cell rx.q hltx
          have hc5 := rd_cell rc.q hq0
          rw [← HF.out, Nat.add_zero] at hc5
          obtain ⟨X, hX⟩ : ∃ X, X = nth xs k := ⟨_, rfl⟩
          obtain ⟨Q, hQ⟩ : ∃ Q, Q = nth q k := ⟨_, rfl⟩
          have far := HD.out.far t k hkn
          have hsk := HD.out.sum_le p.length hkn (Nat.le_refl _)
          have hs1 := HD.out.sum p.length (Nat.le_refl _)
          have near := HD.out.near k hkn
          rw [← hX] at hc4
          rw [← hQ] at hc3 near
          have hXF : X = mvF p q t k := by rw [hX, HX.out, mvL_at hkn]
          have up : f ≤ t → Q ≤ X := fun h => by rw [hQ, hXF]; exact HD.out.up (by rw [← HF.out]; exact h) k hkn
          have dn : t ≤ f → X ≤ Q := fun h => by rw [hQ, hXF]; exact HD.out.down (by rw [← HF.out]; exact h) k hkn
          rw [← hXF] at far
          rw [← HTT.out] at hsk hs1
          have hn1 := HN.out.2
          have b1' : X - t ≤ tt := by omega
          have b2' : t - X ≤ tt := by omega
          have bX : -1000 ≤ X ∧ X ≤ 1000 := by omega
          have w1 : IntKind.i64.wrap (X - t) = X - t := fits_int _ (by omega) (by omega)
          have w2 : IntKind.i64.wrap (t - X) = t - X := fits_int _ (by omega) (by omega)
          have hk1 : IntKind.i64.wrap ((k : Int) + 1) = (k : Int) + 1 := fits_int _ (by omega) (by omega)
          have HXH := Lib.hid hX
          have HQH := Lib.hid hQ
          clear hX hQ hXF far hsk hs1 near
          rcases Int.lt_trichotomy f t with hft | hft | hft
          · have u1 := up (by omega)
            have u2 : ¬ t ≤ f := by omega
            have u3 : f ≤ t := by omega
            have d1 : decide (X < Q) = false := decide_eq_false (by omega)
            have d2 : decide (t ≤ f) = false := decide_eq_false (by omega)
            have d3 : decide (f ≤ t) = true := decide_eq_true (by omega)
            clear up dn
            go_wp2_with fail
            go_big_quiet (fail)
            go_wp2_with fail
            go_roundw
            case rel => exact ⟨k + 1, _, by omega, by go_num, rfl⟩
            case measure => (simp [intOf]) <;> omega
          · have u1 := up (by omega)
            have u2 := dn (by omega)
            have u3 : f ≤ t := by omega
            have u4 : t ≤ f := by omega
            have d1 : decide (X < Q) = false := decide_eq_false (by omega)
            have d2 : decide (Q < X) = false := decide_eq_false (by omega)
            have d3 : decide (f ≤ t) = true := decide_eq_true (by omega)
            have d4 : decide (t ≤ f) = true := decide_eq_true (by omega)
            clear up dn hft
            go_wp2_with fail
            go_big_quiet (fail)
            go_wp2_with fail
            go_roundw
            case rel => exact ⟨k + 1, _, by omega, by go_num, rfl⟩
            case measure => (simp [intOf]) <;> omega
          · have u1 := dn (by omega)
            have u2 : ¬ f ≤ t := by omega
            have u3 : t ≤ f := by omega
            have d1 : decide (Q < X) = false := decide_eq_false (by omega)
            have d2 : decide (f ≤ t) = false := decide_eq_false (by omega)
            have d3 : decide (t ≤ f) = true := decide_eq_true (by omega)
            clear up dn
            go_wp2_with fail
            go_big_quiet (fail)
            go_wp2_with fail
            go_roundw
            case rel => exact ⟨k + 1, _, by omega, by go_num, rfl⟩
            case measure => (simp [intOf]) <;> omega
        · have hkq : k = q.length := by omega
          subst hkq
          go_wp2_with fail
          clear cc0 cc1 cx0 cx1
          obtain ⟨w10, hw10⟩ : ∃ v, v = w9.drewN m := ⟨_, rfl⟩
          rw [← hw10]
          have hb : Below w9.heap.size w9 w10 := by rw [hw10]; exact bel_drewN (Below.refl _ _) m
          clear hw10
          clear rx b_gx
          replace hy := hy.below hb
          replace rc := rc.below hb
          replace b_gc := b_gc.below hb
          replace hbel := hbel.trans (hb.mono hbel.size)
          clear hb
          refine (a2At_any yA yZ yC 1 40 w10 hy (by omega) (by omega) (by omega)).mono ?_
          rintro e w11 ⟨g', rfl, g0, g1, hb⟩
          replace hy := hy.below hb
          replace rc := rc.below hb
          replace b_gc := b_gc.below hb
          replace hbel := hbel.trans (hb.mono hbel.size)
          clear hb
          have e1 : IntKind.i64.wrap (g' - 20) = g' - 20 := fits_int _ (by omega) (by omega)
          obtain ⟨g, hg⟩ : ∃ g, g = g' - 20 := ⟨_, rfl⟩
          have hg0 : -20 ≤ g ∧ g ≤ 19 := by omega
          have ig : I64 g := i64_small (by omega) (by omega)
          have HG := Lib.hid hg
          clear hg g0 g1
          obtain ⟨nd, hnd⟩ : ∃ z, z = needTo p q g := ⟨_, rfl⟩
          have hnn := HD.out.need HN.out.1 HN.out.2 hg0.1 hg0.2
          rw [← hnd] at hnn
          have hN := Lib.hid hnn.2.2
          have hn0 := hnn.1
          have hn1 := hnn.2.1
          have i_n : I64 nd := i64_small (by omega) (by omega)
          obtain ⟨ys, hys⟩ : ∃ ys, ys = mvL p q nd := ⟨_, rfl⟩
          have hyl : ys.length = q.length := by rw [hys, mvL_len, HD.out.ln]
          have hlast : nth ys p.length = g := by rw [hys, mvL_at (Nat.le_refl _), hnd]; exact HD.out.reach g
          have HMN := Lib.hid (show mvR p q nd = (p, ys, 0) by rw [hys]; exact mvR_ok HC.out (inB_yes (by omega) (by omega)))
          have HLA := Lib.hid hlast
          have HYL := Lib.hid hyl
          have cc0 := b_gc.at_ 0 rfl
          have cc1 := b_gc.at_ 1 rfl
          clear hnn hnd hys hyl hlast
          go_wp2_with fail
          rw [← HG.out]
          refine (implMoveNeeded A C p (some ⟨b2, o2, none⟩) E q g w11 rc h64 ig).mono ?_
          rw [hN.out]
          rintro e w12 ⟨rfl, hb⟩
          clear cc0 cc1 e1
          replace hy := hy.below hb
          replace rc := rc.below hb
          replace b_gc := b_gc.below hb
          replace hbel := hbel.trans (hb.mono hbel.size)
          clear hb
          have cc0 := b_gc.at_ 0 rfl
          have cc1 := b_gc.at_ 1 rfl
          go_wp2_with fail
          refine (implMoveChain A C p (some ⟨b2, o2, none⟩) E q nd w12 rc h64 i_n).mono ?_
          rw [HMN.out]
          rintro e w13 ⟨A4, C4, D4, E4, rfl, oy, hb⟩
          have ry : Rd2 w13 A4 p D4 ys := oy.rd
          clear cc0 cc1 oy
          replace hy := hy.below hb
          replace rc := rc.below hb
          replace b_gc := b_gc.below hb
          replace hbel := hbel.trans (hb.mono hbel.size)
          clear hb
          go_upto_region 25 with fail
          obtain ⟨gy, hgy⟩ : ∃ g, g = w13.heap.size := ⟨_, rfl⟩
          obtain ⟨v13, hv13⟩ : ∃ V, V = w13.alloc (.cells #[.slice A4 p.length C4, .slice D4 ys.length E4] 41) := ⟨_, rfl⟩
          have b_gy : Bx v13 gy 41 #[.slice A4 p.length C4, .slice D4 ys.length E4] := by rw [hv13, hgy]; exact Bx.new _ _ _
          have hb : Below w13.heap.size w13 v13 := by rw [hv13]; exact (Below.refl _ _).alloc (Nat.le_refl _) _
          rw [← hgy, ← hv13]
          clear hv13 hgy
          replace hy := hy.below hb
          replace rc := rc.below hb
          replace b_gc := b_gc.below hb
          replace ry := ry.below hb
          replace hbel := hbel.trans (hb.mono hbel.size)
          clear hb
          have hql : q.length = p.length + 1 := HD.out.ln
          rw [HYL.out, hql] at b_gy
          rw [hql] at b_gc
          have hly : p.length < ys.length := by rw [HYL.out, hql]; omega
          obtain ⟨b6, o6, hD4, hc6⟩ := ry.q.at_ hly
          rw [HLA.out] at hc6
          subst hD4
          have hlp := rc.len.1
          have cc1 := b_gc.at_ 1 rfl
          have cy1 := b_gy.at_ 1 rfl
          have e1 : IntKind.i64.wrap (p.length : Int) = (p.length : Int) := IntWalk.i64_in _ (by omega)
          have en : (p.length : Int) < (p.length : Int) + 1 := by omega
          have HQL := Lib.hid hql
          clear hql
          go_wp2_with fail
          go_ret
          exact ⟨rfl, hbel⟩

set_option maxRecDepth 100000 in
theorem lifted (os : Os) (started : os.Started) (H : Type) (enc : TypeId × Value → H) :
    ReturnsInHanded {} Try.checked os 4 .any (Rows.fnChainsSpec.pre6 enc Try.prog Try.f4 Rows.fnChainsRow.domain false) (Rows.fnChainsSpec.post enc Try.prog Try.f4 false true false false) := by
  refine returnsInHanded_of_change (C := Try.checked) own_knob started (by kernel_rfl) Try.func4
    (ChangeSpec.witness6 (enc := enc) (C := Try.checked) false ⟨#[], #[.slice none 0 0, .slice none 0 0], []⟩ 8 (by kernel_rfl) (by kernel_rfl) (by kernel_rfl) (by kernel_rfl)) ?_
  intro W base args ds gs before hval0 hW hcnd _
  have hval : ∀ (j : Nat) t v, Try.f4.params[j]? = some t → args[j]? = some v → Value.okWide Try.prog W .any base t v := hval0
  have hW' := hW
  obtain ⟨p, q, hA0, hV, rfl, hfz, hnd⟩ := hW
  have hA : DataW.TrodAll enc Try.prog W 0 (fun _ => true) true Try.f4.params.toList args.toList ds p := hA0
  rw [Try.params4] at hA hval
  obtain ⟨v0, vs0, d0, ds0, p0, q0, hargs, rfl, rfl, h0, r0⟩ := trodAll_cons hA
  obtain ⟨v1, vs1, d1, ds1, p1, q1, rfl, rfl, rfl, h1, r1⟩ := trodAll_cons r0
  obtain ⟨rfl, rfl, rfl⟩ := trodAll_nil r1
  obtain rfl : args = #[v0, v1] := by cases args; simp_all
  obtain ⟨rfl, rfl⟩ := trodVars_none hV
  have k0 := h0
  have lt0 : ∀ x ∈ p0, x.block < W.heap.size := by obtain ⟨m, hm⟩ := k0; exact DataW.trod_lt m _ _ _ hm
  obtain ⟨xA, xC, xZ, rfl, hx⟩ := open_Bytes (hval 0 22 v0 rfl rfl) h0
  have k1 := h1
  have lt1 : ∀ x ∈ p1, x.block < W.heap.size := by obtain ⟨m, hm⟩ := k1; exact DataW.trod_lt m _ _ _ hm
  obtain ⟨yA, yC, yZ, rfl, hy⟩ := open_Bytes (hval 1 22 v1 rfl rfl) h1
  clear hA0 hval0
  refine (law_walk xA xC xZ yA yC yZ W hx hy).mono fun e W' ⟨he, bel⟩ => ?_
  subst he
  exact ⟨_, rfl, _, _, _, [], _, [], hW', trodAll_mk1 (shut_bool Try.underlying4 _), (trodAll_cons_mk (Below.trod laid_out (by kernel_rfl) (of_decide_eq_true (by kernel_rfl)) k0 bel lt0) (trodAll_cons_mk (Below.trod laid_out (by kernel_rfl) (of_decide_eq_true (by kernel_rfl)) k1 bel lt1) trodAll_mk0)), rfl, bel.frame _, fun h => by cases h⟩

set_option maxHeartbeats 20000000 in
theorem closed : joinedFacts Try.prog 4 Try.f4 Rows.fnChainsSpec Rows.fnChainsRow = true := by
  simp only [joinedFacts, Bool.and_eq_true]
  refine ⟨⟨⟨⟨⟨⟨⟨⟨⟨⟨⟨⟨⟨⟨⟨⟨⟨⟨⟨⟨⟨⟨⟨⟨⟨⟨⟨⟨⟨⟨⟨?_, laid_out⟩, fact_maps⟩, ?_⟩, ?_⟩, ?_⟩, fact_stops⟩, ?_⟩, fact_knobs⟩, ?_⟩, ?_⟩, ?_⟩, ?_⟩, ?_⟩, ?_⟩, ?_⟩, ?_⟩, ?_⟩, ?_⟩, ?_⟩, ?_⟩, ?_⟩, fact_plain⟩, ?_⟩, fact_heard⟩, fact_enter⟩, fact_lift⟩, ?_⟩, ?_⟩, ?_⟩, ?_⟩, ?_⟩
  all_goals (as_aux_lemma => kernel_rfl)

theorem over : Rows.fnChainsRow.holds Try.pinned (OpenSpec.ofChange Rows.fnChainsSpec) :=
  OpenClaim.holds_of_wide 4 Try.f4 rfl rfl rfl rfl rfl rfl rfl ⟨rfl, rfl, rfl, rfl, rfl⟩ rfl rfl rfl rfl rfl (by as_aux_lemma => kernel_rfl) Try.func4 closed
    (of_decide_eq_true (by as_aux_lemma => kernel_rfl)) (by unfold Func.isWrapper; rw [if_neg (by decide +kernel)]; exact ⟨rfl, rfl⟩)
    (fun os started H enc _ => lifted os started H enc)

/-- The statement. -/
theorem proved : Rows.FnChainsSaid := over
end Go.Proofs.Ytaefgkhbgljkoaa.lawFnChains
