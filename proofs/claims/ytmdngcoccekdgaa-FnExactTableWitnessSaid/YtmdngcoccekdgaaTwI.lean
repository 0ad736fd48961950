/-
  impl.TableWitness.
-/
import Derived.Test.YtmdngcoccekdgaaTwM
import Derived.Test.YtmdngcoccekdgaaTfI
import Derived.Test.YtmdngcoccekdgaaOrdC
namespace Go.Proofs.Ytmdngcoccekdgaa
open Go.RowKit

set_option maxRecDepth 100000 in
set_option maxHeartbeats 4000000 in
theorem implTableWitness (b : Int) (a : Option Addr) (c : Nat) (rs : List Row5) (w : World) (bb : I64 b) (ha : RdF quinF w a rs) (hz : All5 rs) :
    Calls Try.prog 16 #[.int .i64 b, .slice a rs.length c] w (TwoAny (twR b rs) w) := by
  obtain ⟨r, hr⟩ : ∃ r, r = w.heap.size := ⟨_, rfl⟩
  obtain ⟨u, hu⟩ : ∃ u, u = (w.alloc (.cells #[.int .i64 0, .slice none 0 0] 31)).alloc (.cells #[.int .i64 0, .slice none 0 0] 31) := ⟨_, rfl⟩
  have b0 : Bx u r 31 #[.int .i64 0, .slice none 0 0] := by rw [hu, hr]; exact (Bx.new _ _ _).alloc _
  have b1 : Bx u (r + 1) 31 #[.int .i64 0, .slice none 0 0] := by rw [hu, hr]; simpa using Bx.new (w.alloc (.cells #[.int .i64 0, .slice none 0 0] 31)) #[.int .i64 0, .slice none 0 0] 31
  have hbel : Below r w u := by rw [hu, hr]; exact (by repeat (first | exact Below.refl _ _ | refine Below.setCell ?_ (by first | omega | (simp <;> omega)) _ | refine Below.alloc ?_ (by first | omega | (simp <;> omega)) _ | refine Below.drew ?_))
  have hsu : u.heap.size = r + 2 := by rw [hu, hr]; simp
  have hau := ha.below (by rw [← hr]; exact hbel)
  have HU := Lib.hid hu
  have HR := Lib.hid hr
  clear hu hr
  have HC := Lib.hid (implTableFault b a c rs u bb hau hz)
  by_cases h0 : (tfR b rs).2 = 0
  · have ht : ((tfR b rs).2 != 0) = false := by simp [h0]
    by_cases hn : (tfR b rs).1 < 0
    · have HT := Lib.hid (twR_none h0 hn)
      clear h0
      go_enter Try.func16, Try.ntmps16
      go_wp2_with fail
      rw [← HU.out, ← HR.out]
      refine HC.out.mono ?_
      rintro e w2 ⟨rfl, hb12⟩
      replace b0 := b0.below hb12
      replace b1 := b1.below hb12
      replace hbel := hbel.trans (hb12.mono (by omega))
      have hs2 := hb12.size
      clear hb12
      have r0 := b0.at_ 0 rfl
      have r1 := b0.at_ 1 rfl
      have r2 := b1.at_ 0 rfl
      have r3 := b1.at_ 1 rfl
      have f0 := b0.thaw 0
      have f1 := b0.thaw 1
      have f2 := b1.thaw 0
      have f3 := b1.thaw 1
      go_wp2
      exact bodyPost_ret (v := .tuple #[.agg #[.int .i64 0, .slice none 0 0], .agg #[.int .i64 0, .slice none 0 0], .int .i64 3]) (by simp [results, Try.results16, go_sem, r0, r1, r2, r3]) rfl
        (twoAny_err HT.out rfl (by rw [← HR.out]; exact (by repeat (first | exact hbel | refine Below.setCell ?_ (by first | omega | (simp <;> omega)) _ | refine Below.alloc ?_ (by first | omega | (simp <;> omega)) _ | refine Below.drew ?_))))
    · obtain ⟨hm1, hm2, j, hj, hjj⟩ := tfR_idx h0 hn
      obtain ⟨m, rfl⟩ : ∃ m : Nat, b = m := ⟨b.toNat, by omega⟩
      have hjl : (j : Int) < (rs.length : Int) := by omega
      have hv1 : IntKind.i64.wrap ((m : Int) - 1) = (m : Int) - 1 := fits_int _ (by omega) (by omega)
      obtain ⟨b', off, rfl, p0, p1, p2, p3, p4⟩ := hau.at5 hj
      have HTi := Lib.hid (fun h => twR_in (j := j) h0 hjj h)
      have HTo := Lib.hid (fun h => twR_out (j := j) h0 hjj h)
      obtain ⟨y, hy⟩ : ∃ y, y = elt quinF rs j := ⟨_, rfl⟩
      rw [← hy] at p0 p1 p2 p3 p4 HTi HTo
      rw [hjj, h0] at HC
      clear hy h0 hn hau ht hjj
      by_cases h1 : y.1 = 1
      · have t1 : (y.1 == 1) = true := by simp [h1]
        have HT := Lib.hid (HTi.out h1)
        clear HTi HTo h1
        go_enter Try.func16, Try.ntmps16
        go_wp2_with fail
        rw [← HU.out, ← HR.out]
        refine HC.out.mono ?_
        rintro e w2 ⟨rfl, hb12⟩
        replace b0 := b0.below hb12
        replace b1 := b1.below hb12
        replace hbel := hbel.trans (hb12.mono (by omega))
        have hs2 := hb12.size
        have p0 := kept hb12 p0
        have p1 := kept hb12 p1
        have p2 := kept hb12 p2
        have p3 := kept hb12 p3
        have p4 := kept hb12 p4
        clear hb12
        go_upto_region 7 with fail
        obtain ⟨V, hV⟩ : ∃ V, V = w2.alloc (.cells #[.int .i64 y.1, .int .i64 y.2.1, .int .i64 y.2.2.1, .int .i64 y.2.2.2.1, .int .i64 y.2.2.2.2] 88) := ⟨_, rfl⟩
        have bR : Bx V w2.heap.size 88 #[.int .i64 y.1, .int .i64 y.2.1, .int .i64 y.2.2.1, .int .i64 y.2.2.2.1, .int .i64 y.2.2.2.2] := by rw [hV]; exact Bx.new _ _ _
        have hbv : Below w2.heap.size w2 V := by rw [hV]; exact (Below.refl _ _).alloc (Nat.le_refl _) _
        have hsv : V.heap.size ≤ w2.heap.size + 1 ∧ w2.heap.size + 1 ≤ V.heap.size := by rw [hV]; simp
        replace b0 := b0.below hbv
        replace b1 := b1.below hbv
        replace hbel := hbel.trans (hbv.mono (by omega))
        rw [← hV]
        clear hV hbv p0 p1 p2 p3 p4
        have k0 := kept_all (bR.at_ 0 rfl)
        have k1 := kept_all (bR.at_ 1 rfl)
        have k2 := kept_all (bR.at_ 2 rfl)
        refine wp_region_marked (fun w' => Below V.heap.size V w') 7 (by kernel_rfl) ?_
        have hS : Below V.heap.size V V.drew := (Below.refl _ _).drew
        refine wpAnyM_takeC (i := 0) (v := ?_) 12 rfl (by kernel_rfl) (by kernel_rfl) (by kernel_rfl) (by kernel_rfl) (by kernel_rfl) (by kernel_rfl) (fun _ _ _ h => h) hS (.inl ⟨by rfl, ?_⟩) ?_
        rotate_left 1
        · intro w' hS'; go_simp; try with_reducible rfl
        simp only [Act.put, List.setIfInBounds_toArray, List.set_cons_succ, List.set_cons_zero, List.getElem_toArray, List.getElem_cons_zero]
        refine wpAnyM_takeC (i := 1) (v := ?_) 12 rfl (by kernel_rfl) (by kernel_rfl) (by kernel_rfl) (by kernel_rfl) (by kernel_rfl) (by kernel_rfl) (fun _ _ _ h => h) hS (.inl ⟨by rfl, ?_⟩) ?_
        rotate_left 1
        · intro w' hS'; go_simp; try with_reducible rfl
        simp only [Act.put, List.setIfInBounds_toArray, List.set_cons_succ, List.set_cons_zero, List.getElem_toArray, List.getElem_cons_succ, List.getElem_cons_zero]
        refine wpAnyM_takeC (i := 3) (v := ?_) 12 rfl (by kernel_rfl) (by kernel_rfl) (by kernel_rfl) (by kernel_rfl) (by kernel_rfl) (by kernel_rfl) (fun _ _ _ h => h) hS (.inl ⟨by rfl, ?_⟩) ?_
        rotate_left 1
        · intro w' hS'; go_simp; try with_reducible rfl
        simp only [Act.put, List.setIfInBounds_toArray, List.set_cons_succ, List.set_cons_zero, List.getElem_toArray, List.getElem_cons_succ, List.getElem_cons_zero]
        refine wpAnyM_takeC (i := 4) (v := ?_) 12 rfl (by kernel_rfl) (by kernel_rfl) (by kernel_rfl) (by kernel_rfl) (by kernel_rfl) (by kernel_rfl) (fun _ _ _ h => h) hS (.inl ⟨by rfl, ?_⟩) ?_
        rotate_left 1
        · intro w' hS'; go_simp; try with_reducible rfl
        simp only [Act.put, List.setIfInBounds_toArray, List.set_cons_succ, List.set_cons_zero, List.getElem_toArray, List.getElem_cons_succ, List.getElem_cons_zero]
        clear k0 k1 k2
        refine wpAnyM_two (i := 2) (j := 5) (by kernel_rfl) rfl rfl (by rfl) (by rfl) (fun K hK => ?_) (fun K hK => ?_)
        · go_simp
          obtain ⟨Ma, hMa⟩ : ∃ X, X = (V.alloc (.cells #[.int .i64 y.2.1] 2)).drew := ⟨_, rfl⟩
          have o1 : Own 2 Ma V.heap.size (V.heap.size + 1) (.slice (some ⟨V.heap.size, 0, none⟩) 1 1) [y.2.1] := by rw [hMa]; exact (own_lit1' 2 V y.2.1).drew
          have hs1 : Ma.heap.size ≤ V.heap.size + 1 ∧ V.heap.size + 1 ≤ Ma.heap.size := by rw [hMa]; simp
          replace hS : Below V.heap.size V Ma := by rw [hMa]; exact ((Below.refl _ _).alloc (Nat.le_refl _) _).drew
          rw [← hMa]
          clear hMa
          refine hK _ _ (.inr hS) ?_
          try simp only [Act.put, List.setIfInBounds_toArray, List.set_cons_succ, List.set_cons_zero, List.getElem_toArray, List.getElem_cons_succ, List.getElem_cons_zero]
          clear hK K
          refine wpAnyM_takeC (i := 6) (v := ?_) 12 rfl (by kernel_rfl) (by kernel_rfl) (by kernel_rfl) (by kernel_rfl) (by kernel_rfl) (by kernel_rfl) (fun _ _ _ h => h) hS (.inl ⟨by rfl, ?_⟩) ?_
          rotate_left 1
          · intro w' hS'; go_simp; try with_reducible rfl
          simp only [Act.put, List.setIfInBounds_toArray, List.set_cons_succ, List.set_cons_zero, List.getElem_toArray, List.getElem_cons_succ, List.getElem_cons_zero]
          refine wpAnyM_one (i := 5) (by kernel_rfl) rfl (by rfl) (fun K hK => ?_)
          go_simp
          obtain ⟨Na, hNa⟩ : ∃ X, X = Ma.alloc (.cells #[.int .i64 y.2.2.1] 2) := ⟨_, rfl⟩
          replace o1 : Own 2 Na V.heap.size (V.heap.size + 1) (.slice (some ⟨V.heap.size, 0, none⟩) 1 1) [y.2.1] := by rw [hNa]; exact o1.alloc _
          have o2 : Own 2 Na Ma.heap.size (Ma.heap.size + 1) (.slice (some ⟨Ma.heap.size, 0, none⟩) 1 1) [y.2.2.1] := by rw [hNa]; exact own_lit1' 2 Ma y.2.2.1
          have hs2 : Na.heap.size ≤ Ma.heap.size + 1 ∧ Ma.heap.size + 1 ≤ Na.heap.size := by rw [hNa]; simp
          replace hS : Below V.heap.size V Na := by rw [hNa]; exact hS.alloc hS.size _
          rw [← hNa]
          clear hNa
          refine hK _ _ (.inr hS) ?_
          try simp only [Act.put, List.setIfInBounds_toArray, List.set_cons_succ, List.set_cons_zero, List.getElem_toArray, List.getElem_cons_succ, List.getElem_cons_zero]
          clear hK K
          refine wpAnyM_one (i := 7) (by kernel_rfl) rfl (by rfl) (fun K hK => ?_)
          go_simp
          refine hK _ _ (.inl rfl) ?_
          clear hK K
          refine wpAnyM_done (by kernel_rfl) ?_ _
          try simp only [Act.put, List.setIfInBounds_toArray, List.set_cons_succ, List.set_cons_zero, List.getElem_toArray, List.getElem_cons_succ, List.getElem_cons_zero]
          replace b0 := b0.below hS
          replace b1 := b1.below hS
          replace bR := bR.below hS
          replace hbel := hbel.trans (hS.mono (by omega))
          have e0 := bR.at_ 0 rfl
          have e1 := bR.at_ 1 rfl
          have e2 := bR.at_ 2 rfl
          clear o1 o2
          go_upto_region 9 with fail
          have k0 := kept_all (bR.at_ 0 rfl)
          have k1 := kept_all (bR.at_ 1 rfl)
          have k2 := kept_all (bR.at_ 2 rfl)
          refine wp_region_marked (fun w' => Below Na.heap.size Na w') 9 (by kernel_rfl) ?_
          have hS : Below Na.heap.size Na Na.drew := (Below.refl _ _).drew
          refine wpAnyM_takeC (i := 0) (v := ?_) 12 rfl (by kernel_rfl) (by kernel_rfl) (by kernel_rfl) (by kernel_rfl) (by kernel_rfl) (by kernel_rfl) (fun _ _ _ h => h) hS (.inl ⟨by rfl, ?_⟩) ?_
          rotate_left 1
          · intro w' hS'; go_simp; try with_reducible rfl
          simp only [Act.put, List.setIfInBounds_toArray, List.set_cons_succ, List.set_cons_zero, List.getElem_toArray, List.getElem_cons_zero]
          refine wpAnyM_takeC (i := 1) (v := ?_) 12 rfl (by kernel_rfl) (by kernel_rfl) (by kernel_rfl) (by kernel_rfl) (by kernel_rfl) (by kernel_rfl) (fun _ _ _ h => h) hS (.inl ⟨by rfl, ?_⟩) ?_
          rotate_left 1
          · intro w' hS'; go_simp; try with_reducible rfl
          simp only [Act.put, List.setIfInBounds_toArray, List.set_cons_succ, List.set_cons_zero, List.getElem_toArray, List.getElem_cons_succ, List.getElem_cons_zero]
          refine wpAnyM_takeC (i := 2) (v := ?_) 12 rfl (by kernel_rfl) (by kernel_rfl) (by kernel_rfl) (by kernel_rfl) (by kernel_rfl) (by kernel_rfl) (fun _ _ _ h => h) hS (.inl ⟨by rfl, ?_⟩) ?_
          rotate_left 1
          · intro w' hS'; go_simp; try with_reducible rfl
          simp only [Act.put, List.setIfInBounds_toArray, List.set_cons_succ, List.set_cons_zero, List.getElem_toArray, List.getElem_cons_succ, List.getElem_cons_zero]
          refine wpAnyM_takeC (i := 3) (v := ?_) 12 rfl (by kernel_rfl) (by kernel_rfl) (by kernel_rfl) (by kernel_rfl) (by kernel_rfl) (by kernel_rfl) (fun _ _ _ h => h) hS (.inl ⟨by rfl, ?_⟩) ?_
          rotate_left 1
          · intro w' hS'; go_simp; try with_reducible rfl
          simp only [Act.put, List.setIfInBounds_toArray, List.set_cons_succ, List.set_cons_zero, List.getElem_toArray, List.getElem_cons_succ, List.getElem_cons_zero]
          refine wpAnyM_takeC (i := 5) (v := ?_) 12 rfl (by kernel_rfl) (by kernel_rfl) (by kernel_rfl) (by kernel_rfl) (by kernel_rfl) (by kernel_rfl) (fun _ _ _ h => h) hS (.inl ⟨by rfl, ?_⟩) ?_
          rotate_left 1
          · intro w' hS'; go_simp; try with_reducible rfl
          simp only [Act.put, List.setIfInBounds_toArray, List.set_cons_succ, List.set_cons_zero, List.getElem_toArray, List.getElem_cons_succ, List.getElem_cons_zero]
          refine wpAnyM_takeC (i := 6) (v := ?_) 12 rfl (by kernel_rfl) (by kernel_rfl) (by kernel_rfl) (by kernel_rfl) (by kernel_rfl) (by kernel_rfl) (fun _ _ _ h => h) hS (.inl ⟨by rfl, ?_⟩) ?_
          rotate_left 1
          · intro w' hS'; go_simp; try with_reducible rfl
          simp only [Act.put, List.setIfInBounds_toArray, List.set_cons_succ, List.set_cons_zero, List.getElem_toArray, List.getElem_cons_succ, List.getElem_cons_zero]
          clear k0 k1 k2
          refine wpAnyM_two (i := 4) (j := 7) (by kernel_rfl) rfl rfl (by rfl) (by rfl) (fun K hK => ?_) (fun K hK => ?_)
          · go_simp
            obtain ⟨Mb, hMb⟩ : ∃ X, X = (Na.alloc (.cells #[.int .i64 ((m : Int) - 1), .int .i64 y.2.1] 2)).drew := ⟨_, rfl⟩
            have o1 : Own 2 Mb Na.heap.size (Na.heap.size + 1) (.slice (some ⟨Na.heap.size, 0, none⟩) 2 2) [(m : Int) - 1, y.2.1] := by rw [hMb]; exact (own_lit2 2 Na ((m : Int) - 1) y.2.1).drew
            have hs1 : Mb.heap.size ≤ Na.heap.size + 1 ∧ Na.heap.size + 1 ≤ Mb.heap.size := by rw [hMb]; simp
            replace hS : Below Na.heap.size Na Mb := by rw [hMb]; exact ((Below.refl _ _).alloc (Nat.le_refl _) _).drew
            rw [← hMb]
            clear hMb
            refine hK _ _ (.inr hS) ?_
            try simp only [Act.put, List.setIfInBounds_toArray, List.set_cons_succ, List.set_cons_zero, List.getElem_toArray, List.getElem_cons_succ, List.getElem_cons_zero]
            clear hK K
            refine wpAnyM_takeC (i := 8) (v := ?_) 12 rfl (by kernel_rfl) (by kernel_rfl) (by kernel_rfl) (by kernel_rfl) (by kernel_rfl) (by kernel_rfl) (fun _ _ _ h => h) hS (.inl ⟨by rfl, ?_⟩) ?_
            rotate_left 1
            · intro w' hS'; go_simp; try with_reducible rfl
            simp only [Act.put, List.setIfInBounds_toArray, List.set_cons_succ, List.set_cons_zero, List.getElem_toArray, List.getElem_cons_succ, List.getElem_cons_zero]
            refine wpAnyM_one (i := 7) (by kernel_rfl) rfl (by rfl) (fun K hK => ?_)
            go_simp
            obtain ⟨Nb, hNb⟩ : ∃ X, X = Mb.alloc (.cells #[.int .i64 1, .int .i64 y.2.2.1] 2) := ⟨_, rfl⟩
            replace o1 : Own 2 Nb Na.heap.size (Na.heap.size + 1) (.slice (some ⟨Na.heap.size, 0, none⟩) 2 2) [(m : Int) - 1, y.2.1] := by rw [hNb]; exact o1.alloc _
            have o2 : Own 2 Nb Mb.heap.size (Mb.heap.size + 1) (.slice (some ⟨Mb.heap.size, 0, none⟩) 2 2) [1, y.2.2.1] := by rw [hNb]; exact own_lit2 2 Mb 1 y.2.2.1
            have hs2 : Nb.heap.size ≤ Mb.heap.size + 1 ∧ Mb.heap.size + 1 ≤ Nb.heap.size := by rw [hNb]; simp
            replace hS : Below Na.heap.size Na Nb := by rw [hNb]; exact hS.alloc hS.size _
            rw [← hNb]
            clear hNb
            refine hK _ _ (.inr hS) ?_
            try simp only [Act.put, List.setIfInBounds_toArray, List.set_cons_succ, List.set_cons_zero, List.getElem_toArray, List.getElem_cons_succ, List.getElem_cons_zero]
            clear hK K
            refine wpAnyM_one (i := 9) (by kernel_rfl) rfl (by rfl) (fun K hK => ?_)
            go_simp
            refine hK _ _ (.inl rfl) ?_
            clear hK K
            refine wpAnyM_done (by kernel_rfl) ?_ _
            try simp only [Act.put, List.setIfInBounds_toArray, List.set_cons_succ, List.set_cons_zero, List.getElem_toArray, List.getElem_cons_succ, List.getElem_cons_zero]
            replace b0 := b0.below hS
            replace b1 := b1.below hS
            replace bR := bR.below hS
            replace hbel := hbel.trans (hS.mono (by omega))
            have e0 := bR.at_ 0 rfl
            have e1 := bR.at_ 1 rfl
            have e2 := bR.at_ 2 rfl
            have c0 := b0.at_ 0 rfl
            have c1 := b0.at_ 1 rfl
            have c2 := b1.at_ 0 rfl
            have c3 := b1.at_ 1 rfl
            have f0 := b0.thaw 0
            have f1 := b0.thaw 1
            have f2 := b1.thaw 0
            have f3 := b1.thaw 1
            go_wp2
            obtain ⟨V9, hV9⟩ : ∃ X, X = (((Nb.setCell ⟨r, 0, none⟩ (.int .i64 (m : Int))).setCell ⟨r, 1, none⟩ (.slice (some ⟨Na.heap.size, 0, none⟩) 2 2)).setCell ⟨r + 1, 0, none⟩ (.int .i64 (m : Int))).setCell ⟨r + 1, 1, none⟩ (.slice (some ⟨Mb.heap.size, 0, none⟩) 2 2) := ⟨_, rfl⟩
            rw [← hV9]
            have z0 : Bx V9 r 31 #[.int .i64 (m : Int), .slice (some ⟨Na.heap.size, 0, none⟩) 2 2] := by rw [hV9]; exact (((b0.set_ 0 _).set_ 1 _).far (by simp) _).far (by simp) _
            have z1 : Bx V9 (r + 1) 31 #[.int .i64 (m : Int), .slice (some ⟨Mb.heap.size, 0, none⟩) 2 2] := by rw [hV9]; exact (((b1.far (by simp) _).far (by simp) _).set_ 0 _).set_ 1 _
            have O1 : Own 2 V9 Na.heap.size (Na.heap.size + 1) (.slice (some ⟨Na.heap.size, 0, none⟩) 2 2) [(m : Int) - 1, y.2.1] := by rw [hV9]; exact (((o1.setCell (.inl (by simp; omega)) _).setCell (.inl (by simp; omega)) _).setCell (.inl (by simp; omega)) _).setCell (.inl (by simp; omega)) _
            have O2 : Own 2 V9 Mb.heap.size (Mb.heap.size + 1) (.slice (some ⟨Mb.heap.size, 0, none⟩) 2 2) [1, y.2.2.1] := by rw [hV9]; exact (((o2.setCell (.inl (by simp; omega)) _).setCell (.inl (by simp; omega)) _).setCell (.inl (by simp; omega)) _).setCell (.inl (by simp; omega)) _
            have hB9 : Below r w V9 := by rw [hV9]; exact (((hbel.setCell (by first | (simp; done) | (simp; omega)) _).setCell (by first | (simp; done) | (simp; omega)) _).setCell (by first | (simp; done) | (simp; omega)) _).setCell (by first | (simp; done) | (simp; omega)) _
            have hz9 : V9.heap.size ≤ Nb.heap.size ∧ Nb.heap.size ≤ V9.heap.size := by rw [hV9]; simp
            clear hV9
            have r0 := z0.at_ 0 rfl
            have r1 := z0.at_ 1 rfl
            have q0 := z1.at_ 0 rfl
            have q1 := z1.at_ 1 rfl
            have hr1 := HR.out
            exact bodyPost_ret (v := .tuple #[.agg #[.int .i64 (m : Int), .slice (some ⟨Na.heap.size, 0, none⟩) 2 2], .agg #[.int .i64 (m : Int), .slice (some ⟨Mb.heap.size, 0, none⟩) 2 2], .int .i64 0]) (by clear hr1; simp [results, Try.results16, go_sem, r0, r1, q0, q1]) rfl
              (twoAny_ok HT.out rfl rfl rfl O1 O2 (by omega) (by omega) (by omega) (by omega) (by omega) (by rw [← hr1]; exact hB9))
          · go_simp
            obtain ⟨Mb, hMb⟩ : ∃ X, X = (Na.alloc (.cells #[.int .i64 1, .int .i64 y.2.2.1] 2)).drew := ⟨_, rfl⟩
            have o1 : Own 2 Mb Na.heap.size (Na.heap.size + 1) (.slice (some ⟨Na.heap.size, 0, none⟩) 2 2) [1, y.2.2.1] := by rw [hMb]; exact (own_lit2 2 Na 1 y.2.2.1).drew
            have hs1 : Mb.heap.size ≤ Na.heap.size + 1 ∧ Na.heap.size + 1 ≤ Mb.heap.size := by rw [hMb]; simp
            replace hS : Below Na.heap.size Na Mb := by rw [hMb]; exact ((Below.refl _ _).alloc (Nat.le_refl _) _).drew
            rw [← hMb]
            clear hMb
            refine hK _ _ (.inr hS) ?_
            try simp only [Act.put, List.setIfInBounds_toArray, List.set_cons_succ, List.set_cons_zero, List.getElem_toArray, List.getElem_cons_succ, List.getElem_cons_zero]
            clear hK K
            refine wpAnyM_one (i := 4) (by kernel_rfl) rfl (by rfl) (fun K hK => ?_)
            go_simp
            obtain ⟨Nb, hNb⟩ : ∃ X, X = Mb.alloc (.cells #[.int .i64 ((m : Int) - 1), .int .i64 y.2.1] 2) := ⟨_, rfl⟩
            replace o1 : Own 2 Nb Na.heap.size (Na.heap.size + 1) (.slice (some ⟨Na.heap.size, 0, none⟩) 2 2) [1, y.2.2.1] := by rw [hNb]; exact o1.alloc _
            have o2 : Own 2 Nb Mb.heap.size (Mb.heap.size + 1) (.slice (some ⟨Mb.heap.size, 0, none⟩) 2 2) [(m : Int) - 1, y.2.1] := by rw [hNb]; exact own_lit2 2 Mb ((m : Int) - 1) y.2.1
            have hs2 : Nb.heap.size ≤ Mb.heap.size + 1 ∧ Mb.heap.size + 1 ≤ Nb.heap.size := by rw [hNb]; simp
            replace hS : Below Na.heap.size Na Nb := by rw [hNb]; exact hS.alloc hS.size _
            rw [← hNb]
            clear hNb
            refine hK _ _ (.inr hS) ?_
            try simp only [Act.put, List.setIfInBounds_toArray, List.set_cons_succ, List.set_cons_zero, List.getElem_toArray, List.getElem_cons_succ, List.getElem_cons_zero]
            clear hK K
            refine wpAnyM_one (i := 8) (by kernel_rfl) rfl (by rfl) (fun K hK => ?_)
            go_simp
            refine hK _ _ (.inr hS) ?_
            try simp only [Act.put, List.setIfInBounds_toArray, List.set_cons_succ, List.set_cons_zero, List.getElem_toArray, List.getElem_cons_succ, List.getElem_cons_zero]
            clear hK K
            refine wpAnyM_one (i := 9) (by kernel_rfl) rfl (by rfl) (fun K hK => ?_)
            go_simp
            refine hK _ _ (.inl rfl) ?_
            clear hK K
            refine wpAnyM_done (by kernel_rfl) ?_ _
            try simp only [Act.put, List.setIfInBounds_toArray, List.set_cons_succ, List.set_cons_zero, List.getElem_toArray, List.getElem_cons_succ, List.getElem_cons_zero]
            replace b0 := b0.below hS
            replace b1 := b1.below hS
            replace bR := bR.below hS
            replace hbel := hbel.trans (hS.mono (by omega))
            have e0 := bR.at_ 0 rfl
            have e1 := bR.at_ 1 rfl
            have e2 := bR.at_ 2 rfl
            have c0 := b0.at_ 0 rfl
            have c1 := b0.at_ 1 rfl
            have c2 := b1.at_ 0 rfl
            have c3 := b1.at_ 1 rfl
            have f0 := b0.thaw 0
            have f1 := b0.thaw 1
            have f2 := b1.thaw 0
            have f3 := b1.thaw 1
            go_wp2
            obtain ⟨V9, hV9⟩ : ∃ X, X = (((Nb.setCell ⟨r, 0, none⟩ (.int .i64 (m : Int))).setCell ⟨r, 1, none⟩ (.slice (some ⟨Mb.heap.size, 0, none⟩) 2 2)).setCell ⟨r + 1, 0, none⟩ (.int .i64 (m : Int))).setCell ⟨r + 1, 1, none⟩ (.slice (some ⟨Na.heap.size, 0, none⟩) 2 2) := ⟨_, rfl⟩
            rw [← hV9]
            have z0 : Bx V9 r 31 #[.int .i64 (m : Int), .slice (some ⟨Mb.heap.size, 0, none⟩) 2 2] := by rw [hV9]; exact (((b0.set_ 0 _).set_ 1 _).far (by simp) _).far (by simp) _
            have z1 : Bx V9 (r + 1) 31 #[.int .i64 (m : Int), .slice (some ⟨Na.heap.size, 0, none⟩) 2 2] := by rw [hV9]; exact (((b1.far (by simp) _).far (by simp) _).set_ 0 _).set_ 1 _
            have O1 : Own 2 V9 Mb.heap.size (Mb.heap.size + 1) (.slice (some ⟨Mb.heap.size, 0, none⟩) 2 2) [(m : Int) - 1, y.2.1] := by rw [hV9]; exact (((o2.setCell (.inl (by simp; omega)) _).setCell (.inl (by simp; omega)) _).setCell (.inl (by simp; omega)) _).setCell (.inl (by simp; omega)) _
            have O2 : Own 2 V9 Na.heap.size (Na.heap.size + 1) (.slice (some ⟨Na.heap.size, 0, none⟩) 2 2) [1, y.2.2.1] := by rw [hV9]; exact (((o1.setCell (.inl (by simp; omega)) _).setCell (.inl (by simp; omega)) _).setCell (.inl (by simp; omega)) _).setCell (.inl (by simp; omega)) _
            have hB9 : Below r w V9 := by rw [hV9]; exact (((hbel.setCell (by first | (simp; done) | (simp; omega)) _).setCell (by first | (simp; done) | (simp; omega)) _).setCell (by first | (simp; done) | (simp; omega)) _).setCell (by first | (simp; done) | (simp; omega)) _
            have hz9 : V9.heap.size ≤ Nb.heap.size ∧ Nb.heap.size ≤ V9.heap.size := by rw [hV9]; simp
            clear hV9
            have r0 := z0.at_ 0 rfl
            have r1 := z0.at_ 1 rfl
            have q0 := z1.at_ 0 rfl
            have q1 := z1.at_ 1 rfl
            have hr1 := HR.out
            exact bodyPost_ret (v := .tuple #[.agg #[.int .i64 (m : Int), .slice (some ⟨Mb.heap.size, 0, none⟩) 2 2], .agg #[.int .i64 (m : Int), .slice (some ⟨Na.heap.size, 0, none⟩) 2 2], .int .i64 0]) (by clear hr1; simp [results, Try.results16, go_sem, r0, r1, q0, q1]) rfl
              (twoAny_ok HT.out rfl rfl rfl O1 O2 (by omega) (by omega) (by omega) (by omega) (by omega) (by rw [← hr1]; exact hB9))
        · go_simp
          obtain ⟨Ma, hMa⟩ : ∃ X, X = (V.alloc (.cells #[.int .i64 y.2.2.1] 2)).drew := ⟨_, rfl⟩
          have o1 : Own 2 Ma V.heap.size (V.heap.size + 1) (.slice (some ⟨V.heap.size, 0, none⟩) 1 1) [y.2.2.1] := by rw [hMa]; exact (own_lit1' 2 V y.2.2.1).drew
          have hs1 : Ma.heap.size ≤ V.heap.size + 1 ∧ V.heap.size + 1 ≤ Ma.heap.size := by rw [hMa]; simp
          replace hS : Below V.heap.size V Ma := by rw [hMa]; exact ((Below.refl _ _).alloc (Nat.le_refl _) _).drew
          rw [← hMa]
          clear hMa
          refine hK _ _ (.inr hS) ?_
          try simp only [Act.put, List.setIfInBounds_toArray, List.set_cons_succ, List.set_cons_zero, List.getElem_toArray, List.getElem_cons_succ, List.getElem_cons_zero]
          clear hK K
          refine wpAnyM_one (i := 2) (by kernel_rfl) rfl (by rfl) (fun K hK => ?_)
          go_simp
          obtain ⟨Na, hNa⟩ : ∃ X, X = Ma.alloc (.cells #[.int .i64 y.2.1] 2) := ⟨_, rfl⟩
          replace o1 : Own 2 Na V.heap.size (V.heap.size + 1) (.slice (some ⟨V.heap.size, 0, none⟩) 1 1) [y.2.2.1] := by rw [hNa]; exact o1.alloc _
          have o2 : Own 2 Na Ma.heap.size (Ma.heap.size + 1) (.slice (some ⟨Ma.heap.size, 0, none⟩) 1 1) [y.2.1] := by rw [hNa]; exact own_lit1' 2 Ma y.2.1
          have hs2 : Na.heap.size ≤ Ma.heap.size + 1 ∧ Ma.heap.size + 1 ≤ Na.heap.size := by rw [hNa]; simp
          replace hS : Below V.heap.size V Na := by rw [hNa]; exact hS.alloc hS.size _
          rw [← hNa]
          clear hNa
          refine hK _ _ (.inr hS) ?_
          try simp only [Act.put, List.setIfInBounds_toArray, List.set_cons_succ, List.set_cons_zero, List.getElem_toArray, List.getElem_cons_succ, List.getElem_cons_zero]
          clear hK K
          refine wpAnyM_one (i := 6) (by kernel_rfl) rfl (by rfl) (fun K hK => ?_)
          go_simp
          refine hK _ _ (.inr hS) ?_
          try simp only [Act.put, List.setIfInBounds_toArray, List.set_cons_succ, List.set_cons_zero, List.getElem_toArray, List.getElem_cons_succ, List.getElem_cons_zero]
          clear hK K
          refine wpAnyM_one (i := 7) (by kernel_rfl) rfl (by rfl) (fun K hK => ?_)
          go_simp
          refine hK _ _ (.inl rfl) ?_
          clear hK K
          refine wpAnyM_done (by kernel_rfl) ?_ _
          try simp only [Act.put, List.setIfInBounds_toArray, List.set_cons_succ, List.set_cons_zero, List.getElem_toArray, List.getElem_cons_succ, List.getElem_cons_zero]
          replace b0 := b0.below hS
          replace b1 := b1.below hS
          replace bR := bR.below hS
          replace hbel := hbel.trans (hS.mono (by omega))
          have e0 := bR.at_ 0 rfl
          have e1 := bR.at_ 1 rfl
          have e2 := bR.at_ 2 rfl
          clear o1 o2
          go_upto_region 9 with fail
          have k0 := kept_all (bR.at_ 0 rfl)
          have k1 := kept_all (bR.at_ 1 rfl)
          have k2 := kept_all (bR.at_ 2 rfl)
          refine wp_region_marked (fun w' => Below Na.heap.size Na w') 9 (by kernel_rfl) ?_
          have hS : Below Na.heap.size Na Na.drew := (Below.refl _ _).drew
          refine wpAnyM_takeC (i := 0) (v := ?_) 12 rfl (by kernel_rfl) (by kernel_rfl) (by kernel_rfl) (by kernel_rfl) (by kernel_rfl) (by kernel_rfl) (fun _ _ _ h => h) hS (.inl ⟨by rfl, ?_⟩) ?_
          rotate_left 1
          · intro w' hS'; go_simp; try with_reducible rfl
          simp only [Act.put, List.setIfInBounds_toArray, List.set_cons_succ, List.set_cons_zero, List.getElem_toArray, List.getElem_cons_zero]
          refine wpAnyM_takeC (i := 1) (v := ?_) 12 rfl (by kernel_rfl) (by kernel_rfl) (by kernel_rfl) (by kernel_rfl) (by kernel_rfl) (by kernel_rfl) (fun _ _ _ h => h) hS (.inl ⟨by rfl, ?_⟩) ?_
          rotate_left 1
          · intro w' hS'; go_simp; try with_reducible rfl
          simp only [Act.put, List.setIfInBounds_toArray, List.set_cons_succ, List.set_cons_zero, List.getElem_toArray, List.getElem_cons_succ, List.getElem_cons_zero]
          refine wpAnyM_takeC (i := 2) (v := ?_) 12 rfl (by kernel_rfl) (by kernel_rfl) (by kernel_rfl) (by kernel_rfl) (by kernel_rfl) (by kernel_rfl) (fun _ _ _ h => h) hS (.inl ⟨by rfl, ?_⟩) ?_
          rotate_left 1
          · intro w' hS'; go_simp; try with_reducible rfl
          simp only [Act.put, List.setIfInBounds_toArray, List.set_cons_succ, List.set_cons_zero, List.getElem_toArray, List.getElem_cons_succ, List.getElem_cons_zero]
          refine wpAnyM_takeC (i := 3) (v := ?_) 12 rfl (by kernel_rfl) (by kernel_rfl) (by kernel_rfl) (by kernel_rfl) (by kernel_rfl) (by kernel_rfl) (fun _ _ _ h => h) hS (.inl ⟨by rfl, ?_⟩) ?_
          rotate_left 1
          · intro w' hS'; go_simp; try with_reducible rfl
          simp only [Act.put, List.setIfInBounds_toArray, List.set_cons_succ, List.set_cons_zero, List.getElem_toArray, List.getElem_cons_succ, List.getElem_cons_zero]
          refine wpAnyM_takeC (i := 5) (v := ?_) 12 rfl (by kernel_rfl) (by kernel_rfl) (by kernel_rfl) (by kernel_rfl) (by kernel_rfl) (by kernel_rfl) (fun _ _ _ h => h) hS (.inl ⟨by rfl, ?_⟩) ?_
          rotate_left 1
          · intro w' hS'; go_simp; try with_reducible rfl
          simp only [Act.put, List.setIfInBounds_toArray, List.set_cons_succ, List.set_cons_zero, List.getElem_toArray, List.getElem_cons_succ, List.getElem_cons_zero]
          refine wpAnyM_takeC (i := 6) (v := ?_) 12 rfl (by kernel_rfl) (by kernel_rfl) (by kernel_rfl) (by kernel_rfl) (by kernel_rfl) (by kernel_rfl) (fun _ _ _ h => h) hS (.inl ⟨by rfl, ?_⟩) ?_
          rotate_left 1
          · intro w' hS'; go_simp; try with_reducible rfl
          simp only [Act.put, List.setIfInBounds_toArray, List.set_cons_succ, List.set_cons_zero, List.getElem_toArray, List.getElem_cons_succ, List.getElem_cons_zero]
          clear k0 k1 k2
          refine wpAnyM_two (i := 4) (j := 7) (by kernel_rfl) rfl rfl (by rfl) (by rfl) (fun K hK => ?_) (fun K hK => ?_)
          · go_simp
            obtain ⟨Mb, hMb⟩ : ∃ X, X = (Na.alloc (.cells #[.int .i64 ((m : Int) - 1), .int .i64 y.2.1] 2)).drew := ⟨_, rfl⟩
            have o1 : Own 2 Mb Na.heap.size (Na.heap.size + 1) (.slice (some ⟨Na.heap.size, 0, none⟩) 2 2) [(m : Int) - 1, y.2.1] := by rw [hMb]; exact (own_lit2 2 Na ((m : Int) - 1) y.2.1).drew
            have hs1 : Mb.heap.size ≤ Na.heap.size + 1 ∧ Na.heap.size + 1 ≤ Mb.heap.size := by rw [hMb]; simp
            replace hS : Below Na.heap.size Na Mb := by rw [hMb]; exact ((Below.refl _ _).alloc (Nat.le_refl _) _).drew
            rw [← hMb]
            clear hMb
            refine hK _ _ (.inr hS) ?_
            try simp only [Act.put, List.setIfInBounds_toArray, List.set_cons_succ, List.set_cons_zero, List.getElem_toArray, List.getElem_cons_succ, List.getElem_cons_zero]
            clear hK K
            refine wpAnyM_takeC (i := 8) (v := ?_) 12 rfl (by kernel_rfl) (by kernel_rfl) (by kernel_rfl) (by kernel_rfl) (by kernel_rfl) (by kernel_rfl) (fun _ _ _ h => h) hS (.inl ⟨by rfl, ?_⟩) ?_
            rotate_left 1
            · intro w' hS'; go_simp; try with_reducible rfl
            simp only [Act.put, List.setIfInBounds_toArray, List.set_cons_succ, List.set_cons_zero, List.getElem_toArray, List.getElem_cons_succ, List.getElem_cons_zero]
            refine wpAnyM_one (i := 7) (by kernel_rfl) rfl (by rfl) (fun K hK => ?_)
            go_simp
            obtain ⟨Nb, hNb⟩ : ∃ X, X = Mb.alloc (.cells #[.int .i64 1, .int .i64 y.2.2.1] 2) := ⟨_, rfl⟩
            replace o1 : Own 2 Nb Na.heap.size (Na.heap.size + 1) (.slice (some ⟨Na.heap.size, 0, none⟩) 2 2) [(m : Int) - 1, y.2.1] := by rw [hNb]; exact o1.alloc _
            have o2 : Own 2 Nb Mb.heap.size (Mb.heap.size + 1) (.slice (some ⟨Mb.heap.size, 0, none⟩) 2 2) [1, y.2.2.1] := by rw [hNb]; exact own_lit2 2 Mb 1 y.2.2.1
            have hs2 : Nb.heap.size ≤ Mb.heap.size + 1 ∧ Mb.heap.size + 1 ≤ Nb.heap.size := by rw [hNb]; simp
            replace hS : Below Na.heap.size Na Nb := by rw [hNb]; exact hS.alloc hS.size _
            rw [← hNb]
            clear hNb
            refine hK _ _ (.inr hS) ?_
            try simp only [Act.put, List.setIfInBounds_toArray, List.set_cons_succ, List.set_cons_zero, List.getElem_toArray, List.getElem_cons_succ, List.getElem_cons_zero]
            clear hK K
            refine wpAnyM_one (i := 9) (by kernel_rfl) rfl (by rfl) (fun K hK => ?_)
            go_simp
            refine hK _ _ (.inl rfl) ?_
            clear hK K
            refine wpAnyM_done (by kernel_rfl) ?_ _
            try simp only [Act.put, List.setIfInBounds_toArray, List.set_cons_succ, List.set_cons_zero, List.getElem_toArray, List.getElem_cons_succ, List.getElem_cons_zero]
            replace b0 := b0.below hS
            replace b1 := b1.below hS
            replace bR := bR.below hS
            replace hbel := hbel.trans (hS.mono (by omega))
            have e0 := bR.at_ 0 rfl
            have e1 := bR.at_ 1 rfl
            have e2 := bR.at_ 2 rfl
            have c0 := b0.at_ 0 rfl
            have c1 := b0.at_ 1 rfl
            have c2 := b1.at_ 0 rfl
            have c3 := b1.at_ 1 rfl
            have f0 := b0.thaw 0
            have f1 := b0.thaw 1
            have f2 := b1.thaw 0
            have f3 := b1.thaw 1
            go_wp2
            obtain ⟨V9, hV9⟩ : ∃ X, X = (((Nb.setCell ⟨r, 0, none⟩ (.int .i64 (m : Int))).setCell ⟨r, 1, none⟩ (.slice (some ⟨Na.heap.size, 0, none⟩) 2 2)).setCell ⟨r + 1, 0, none⟩ (.int .i64 (m : Int))).setCell ⟨r + 1, 1, none⟩ (.slice (some ⟨Mb.heap.size, 0, none⟩) 2 2) := ⟨_, rfl⟩
            rw [← hV9]
            have z0 : Bx V9 r 31 #[.int .i64 (m : Int), .slice (some ⟨Na.heap.size, 0, none⟩) 2 2] := by rw [hV9]; exact (((b0.set_ 0 _).set_ 1 _).far (by simp) _).far (by simp) _
            have z1 : Bx V9 (r + 1) 31 #[.int .i64 (m : Int), .slice (some ⟨Mb.heap.size, 0, none⟩) 2 2] := by rw [hV9]; exact (((b1.far (by simp) _).far (by simp) _).set_ 0 _).set_ 1 _
            have O1 : Own 2 V9 Na.heap.size (Na.heap.size + 1) (.slice (some ⟨Na.heap.size, 0, none⟩) 2 2) [(m : Int) - 1, y.2.1] := by rw [hV9]; exact (((o1.setCell (.inl (by simp; omega)) _).setCell (.inl (by simp; omega)) _).setCell (.inl (by simp; omega)) _).setCell (.inl (by simp; omega)) _
            have O2 : Own 2 V9 Mb.heap.size (Mb.heap.size + 1) (.slice (some ⟨Mb.heap.size, 0, none⟩) 2 2) [1, y.2.2.1] := by rw [hV9]; exact (((o2.setCell (.inl (by simp; omega)) _).setCell (.inl (by simp; omega)) _).setCell (.inl (by simp; omega)) _).setCell (.inl (by simp; omega)) _
            have hB9 : Below r w V9 := by rw [hV9]; exact (((hbel.setCell (by first | (simp; done) | (simp; omega)) _).setCell (by first | (simp; done) | (simp; omega)) _).setCell (by first | (simp; done) | (simp; omega)) _).setCell (by first | (simp; done) | (simp; omega)) _
            have hz9 : V9.heap.size ≤ Nb.heap.size ∧ Nb.heap.size ≤ V9.heap.size := by rw [hV9]; simp
            clear hV9
            have r0 := z0.at_ 0 rfl
            have r1 := z0.at_ 1 rfl
            have q0 := z1.at_ 0 rfl
            have q1 := z1.at_ 1 rfl
            have hr1 := HR.out
            exact bodyPost_ret (v := .tuple #[.agg #[.int .i64 (m : Int), .slice (some ⟨Na.heap.size, 0, none⟩) 2 2], .agg #[.int .i64 (m : Int), .slice (some ⟨Mb.heap.size, 0, none⟩) 2 2], .int .i64 0]) (by clear hr1; simp [results, Try.results16, go_sem, r0, r1, q0, q1]) rfl
              (twoAny_ok HT.out rfl rfl rfl O1 O2 (by omega) (by omega) (by omega) (by omega) (by omega) (by rw [← hr1]; exact hB9))
          · go_simp
            obtain ⟨Mb, hMb⟩ : ∃ X, X = (Na.alloc (.cells #[.int .i64 1, .int .i64 y.2.2.1] 2)).drew := ⟨_, rfl⟩
            have o1 : Own 2 Mb Na.heap.size (Na.heap.size + 1) (.slice (some ⟨Na.heap.size, 0, none⟩) 2 2) [1, y.2.2.1] := by rw [hMb]; exact (own_lit2 2 Na 1 y.2.2.1).drew
            have hs1 : Mb.heap.size ≤ Na.heap.size + 1 ∧ Na.heap.size + 1 ≤ Mb.heap.size := by rw [hMb]; simp
            replace hS : Below Na.heap.size Na Mb := by rw [hMb]; exact ((Below.refl _ _).alloc (Nat.le_refl _) _).drew
            rw [← hMb]
            clear hMb
            refine hK _ _ (.inr hS) ?_
            try simp only [Act.put, List.setIfInBounds_toArray, List.set_cons_succ, List.set_cons_zero, List.getElem_toArray, List.getElem_cons_succ, List.getElem_cons_zero]
            clear hK K
            refine wpAnyM_one (i := 4) (by kernel_rfl) rfl (by rfl) (fun K hK => ?_)
            go_simp
            obtain ⟨Nb, hNb⟩ : ∃ X, X = Mb.alloc (.cells #[.int .i64 ((m : Int) - 1), .int .i64 y.2.1] 2) := ⟨_, rfl⟩
            replace o1 : Own 2 Nb Na.heap.size (Na.heap.size + 1) (.slice (some ⟨Na.heap.size, 0, none⟩) 2 2) [1, y.2.2.1] := by rw [hNb]; exact o1.alloc _
            have o2 : Own 2 Nb Mb.heap.size (Mb.heap.size + 1) (.slice (some ⟨Mb.heap.size, 0, none⟩) 2 2) [(m : Int) - 1, y.2.1] := by rw [hNb]; exact own_lit2 2 Mb ((m : Int) - 1) y.2.1
            have hs2 : Nb.heap.size ≤ Mb.heap.size + 1 ∧ Mb.heap.size + 1 ≤ Nb.heap.size := by rw [hNb]; simp
            replace hS : Below Na.heap.size Na Nb := by rw [hNb]; exact hS.alloc hS.size _
            rw [← hNb]
            clear hNb
            refine hK _ _ (.inr hS) ?_
            try simp only [Act.put, List.setIfInBounds_toArray, List.set_cons_succ, List.set_cons_zero, List.getElem_toArray, List.getElem_cons_succ, List.getElem_cons_zero]
            clear hK K
            refine wpAnyM_one (i := 8) (by kernel_rfl) rfl (by rfl) (fun K hK => ?_)
            go_simp
            refine hK _ _ (.inr hS) ?_
            try simp only [Act.put, List.setIfInBounds_toArray, List.set_cons_succ, List.set_cons_zero, List.getElem_toArray, List.getElem_cons_succ, List.getElem_cons_zero]
            clear hK K
            refine wpAnyM_one (i := 9) (by kernel_rfl) rfl (by rfl) (fun K hK => ?_)
            go_simp
            refine hK _ _ (.inl rfl) ?_
            clear hK K
            refine wpAnyM_done (by kernel_rfl) ?_ _
            try simp only [Act.put, List.setIfInBounds_toArray, List.set_cons_succ, List.set_cons_zero, List.getElem_toArray, List.getElem_cons_succ, List.getElem_cons_zero]
            replace b0 := b0.below hS
            replace b1 := b1.below hS
            replace bR := bR.below hS
            replace hbel := hbel.trans (hS.mono (by omega))
            have e0 := bR.at_ 0 rfl
            have e1 := bR.at_ 1 rfl
            have e2 := bR.at_ 2 rfl
            have c0 := b0.at_ 0 rfl
            have c1 := b0.at_ 1 rfl
            have c2 := b1.at_ 0 rfl
            have c3 := b1.at_ 1 rfl
            have f0 := b0.thaw 0
            have f1 := b0.thaw 1
            have f2 := b1.thaw 0
            have f3 := b1.thaw 1
            go_wp2
            obtain ⟨V9, hV9⟩ : ∃ X, X = (((Nb.setCell ⟨r, 0, none⟩ (.int .i64 (m : Int))).setCell ⟨r, 1, none⟩ (.slice (some ⟨Mb.heap.size, 0, none⟩) 2 2)).setCell ⟨r + 1, 0, none⟩ (.int .i64 (m : Int))).setCell ⟨r + 1, 1, none⟩ (.slice (some ⟨Na.heap.size, 0, none⟩) 2 2) := ⟨_, rfl⟩
            rw [← hV9]
            have z0 : Bx V9 r 31 #[.int .i64 (m : Int), .slice (some ⟨Mb.heap.size, 0, none⟩) 2 2] := by rw [hV9]; exact (((b0.set_ 0 _).set_ 1 _).far (by simp) _).far (by simp) _
            have z1 : Bx V9 (r + 1) 31 #[.int .i64 (m : Int), .slice (some ⟨Na.heap.size, 0, none⟩) 2 2] := by rw [hV9]; exact (((b1.far (by simp) _).far (by simp) _).set_ 0 _).set_ 1 _
            have O1 : Own 2 V9 Mb.heap.size (Mb.heap.size + 1) (.slice (some ⟨Mb.heap.size, 0, none⟩) 2 2) [(m : Int) - 1, y.2.1] := by rw [hV9]; exact (((o2.setCell (.inl (by simp; omega)) _).setCell (.inl (by simp; omega)) _).setCell (.inl (by simp; omega)) _).setCell (.inl (by simp; omega)) _
            have O2 : Own 2 V9 Na.heap.size (Na.heap.size + 1) (.slice (some ⟨Na.heap.size, 0, none⟩) 2 2) [1, y.2.2.1] := by rw [hV9]; exact (((o1.setCell (.inl (by simp; omega)) _).setCell (.inl (by simp; omega)) _).setCell (.inl (by simp; omega)) _).setCell (.inl (by simp; omega)) _
            have hB9 : Below r w V9 := by rw [hV9]; exact (((hbel.setCell (by first | (simp; done) | (simp; omega)) _).setCell (by first | (simp; done) | (simp; omega)) _).setCell (by first | (simp; done) | (simp; omega)) _).setCell (by first | (simp; done) | (simp; omega)) _
            have hz9 : V9.heap.size ≤ Nb.heap.size ∧ Nb.heap.size ≤ V9.heap.size := by rw [hV9]; simp
            clear hV9
            have r0 := z0.at_ 0 rfl
            have r1 := z0.at_ 1 rfl
            have q0 := z1.at_ 0 rfl
            have q1 := z1.at_ 1 rfl
            have hr1 := HR.out
            exact bodyPost_ret (v := .tuple #[.agg #[.int .i64 (m : Int), .slice (some ⟨Mb.heap.size, 0, none⟩) 2 2], .agg #[.int .i64 (m : Int), .slice (some ⟨Na.heap.size, 0, none⟩) 2 2], .int .i64 0]) (by clear hr1; simp [results, Try.results16, go_sem, r0, r1, q0, q1]) rfl
              (twoAny_ok HT.out rfl rfl rfl O1 O2 (by omega) (by omega) (by omega) (by omega) (by omega) (by rw [← hr1]; exact hB9))
      · have t1 : (y.1 == 1) = false := by simp [h1]
        have HT := Lib.hid (HTo.out h1)
        clear HTi HTo h1
        go_enter Try.func16, Try.ntmps16
        go_wp2_with fail
        rw [← HU.out, ← HR.out]
        refine HC.out.mono ?_
        rintro e w2 ⟨rfl, hb12⟩
        replace b0 := b0.below hb12
        replace b1 := b1.below hb12
        replace hbel := hbel.trans (hb12.mono (by omega))
        have hs2 := hb12.size
        have p0 := kept hb12 p0
        have p1 := kept hb12 p1
        have p2 := kept hb12 p2
        have p3 := kept hb12 p3
        have p4 := kept hb12 p4
        clear hb12
        go_upto_region 7 with fail
        obtain ⟨V, hV⟩ : ∃ V, V = w2.alloc (.cells #[.int .i64 y.1, .int .i64 y.2.1, .int .i64 y.2.2.1, .int .i64 y.2.2.2.1, .int .i64 y.2.2.2.2] 88) := ⟨_, rfl⟩
        have bR : Bx V w2.heap.size 88 #[.int .i64 y.1, .int .i64 y.2.1, .int .i64 y.2.2.1, .int .i64 y.2.2.2.1, .int .i64 y.2.2.2.2] := by rw [hV]; exact Bx.new _ _ _
        have hbv : Below w2.heap.size w2 V := by rw [hV]; exact (Below.refl _ _).alloc (Nat.le_refl _) _
        have hsv : V.heap.size ≤ w2.heap.size + 1 ∧ w2.heap.size + 1 ≤ V.heap.size := by rw [hV]; simp
        replace b0 := b0.below hbv
        replace b1 := b1.below hbv
        replace hbel := hbel.trans (hbv.mono (by omega))
        rw [← hV]
        clear hV hbv p0 p1 p2 p3 p4
        have k0 := kept_all (bR.at_ 0 rfl)
        have k1 := kept_all (bR.at_ 1 rfl)
        have k2 := kept_all (bR.at_ 2 rfl)
        refine wp_region_marked (fun w' => Below V.heap.size V w') 7 (by kernel_rfl) ?_
        have hS : Below V.heap.size V V.drew := (Below.refl _ _).drew
        refine wpAnyM_takeC (i := 0) (v := ?_) 12 rfl (by kernel_rfl) (by kernel_rfl) (by kernel_rfl) (by kernel_rfl) (by kernel_rfl) (by kernel_rfl) (fun _ _ _ h => h) hS (.inl ⟨by rfl, ?_⟩) ?_
        rotate_left 1
        · intro w' hS'; go_simp; try with_reducible rfl
        simp only [Act.put, List.setIfInBounds_toArray, List.set_cons_succ, List.set_cons_zero, List.getElem_toArray, List.getElem_cons_zero]
        refine wpAnyM_takeC (i := 1) (v := ?_) 12 rfl (by kernel_rfl) (by kernel_rfl) (by kernel_rfl) (by kernel_rfl) (by kernel_rfl) (by kernel_rfl) (fun _ _ _ h => h) hS (.inl ⟨by rfl, ?_⟩) ?_
        rotate_left 1
        · intro w' hS'; go_simp; try with_reducible rfl
        simp only [Act.put, List.setIfInBounds_toArray, List.set_cons_succ, List.set_cons_zero, List.getElem_toArray, List.getElem_cons_succ, List.getElem_cons_zero]
        refine wpAnyM_takeC (i := 3) (v := ?_) 12 rfl (by kernel_rfl) (by kernel_rfl) (by kernel_rfl) (by kernel_rfl) (by kernel_rfl) (by kernel_rfl) (fun _ _ _ h => h) hS (.inl ⟨by rfl, ?_⟩) ?_
        rotate_left 1
        · intro w' hS'; go_simp; try with_reducible rfl
        simp only [Act.put, List.setIfInBounds_toArray, List.set_cons_succ, List.set_cons_zero, List.getElem_toArray, List.getElem_cons_succ, List.getElem_cons_zero]
        refine wpAnyM_takeC (i := 4) (v := ?_) 12 rfl (by kernel_rfl) (by kernel_rfl) (by kernel_rfl) (by kernel_rfl) (by kernel_rfl) (by kernel_rfl) (fun _ _ _ h => h) hS (.inl ⟨by rfl, ?_⟩) ?_
        rotate_left 1
        · intro w' hS'; go_simp; try with_reducible rfl
        simp only [Act.put, List.setIfInBounds_toArray, List.set_cons_succ, List.set_cons_zero, List.getElem_toArray, List.getElem_cons_succ, List.getElem_cons_zero]
        clear k0 k1 k2
        refine wpAnyM_two (i := 2) (j := 5) (by kernel_rfl) rfl rfl (by rfl) (by rfl) (fun K hK => ?_) (fun K hK => ?_)
        · go_simp
          obtain ⟨Ma, hMa⟩ : ∃ X, X = (V.alloc (.cells #[.int .i64 y.2.1] 2)).drew := ⟨_, rfl⟩
          have o1 : Own 2 Ma V.heap.size (V.heap.size + 1) (.slice (some ⟨V.heap.size, 0, none⟩) 1 1) [y.2.1] := by rw [hMa]; exact (own_lit1' 2 V y.2.1).drew
          have hs1 : Ma.heap.size ≤ V.heap.size + 1 ∧ V.heap.size + 1 ≤ Ma.heap.size := by rw [hMa]; simp
          replace hS : Below V.heap.size V Ma := by rw [hMa]; exact ((Below.refl _ _).alloc (Nat.le_refl _) _).drew
          rw [← hMa]
          clear hMa
          refine hK _ _ (.inr hS) ?_
          try simp only [Act.put, List.setIfInBounds_toArray, List.set_cons_succ, List.set_cons_zero, List.getElem_toArray, List.getElem_cons_succ, List.getElem_cons_zero]
          clear hK K
          refine wpAnyM_takeC (i := 6) (v := ?_) 12 rfl (by kernel_rfl) (by kernel_rfl) (by kernel_rfl) (by kernel_rfl) (by kernel_rfl) (by kernel_rfl) (fun _ _ _ h => h) hS (.inl ⟨by rfl, ?_⟩) ?_
          rotate_left 1
          · intro w' hS'; go_simp; try with_reducible rfl
          simp only [Act.put, List.setIfInBounds_toArray, List.set_cons_succ, List.set_cons_zero, List.getElem_toArray, List.getElem_cons_succ, List.getElem_cons_zero]
          refine wpAnyM_one (i := 5) (by kernel_rfl) rfl (by rfl) (fun K hK => ?_)
          go_simp
          obtain ⟨Na, hNa⟩ : ∃ X, X = Ma.alloc (.cells #[.int .i64 y.2.2.1] 2) := ⟨_, rfl⟩
          replace o1 : Own 2 Na V.heap.size (V.heap.size + 1) (.slice (some ⟨V.heap.size, 0, none⟩) 1 1) [y.2.1] := by rw [hNa]; exact o1.alloc _
          have o2 : Own 2 Na Ma.heap.size (Ma.heap.size + 1) (.slice (some ⟨Ma.heap.size, 0, none⟩) 1 1) [y.2.2.1] := by rw [hNa]; exact own_lit1' 2 Ma y.2.2.1
          have hs2 : Na.heap.size ≤ Ma.heap.size + 1 ∧ Ma.heap.size + 1 ≤ Na.heap.size := by rw [hNa]; simp
          replace hS : Below V.heap.size V Na := by rw [hNa]; exact hS.alloc hS.size _
          rw [← hNa]
          clear hNa
          refine hK _ _ (.inr hS) ?_
          try simp only [Act.put, List.setIfInBounds_toArray, List.set_cons_succ, List.set_cons_zero, List.getElem_toArray, List.getElem_cons_succ, List.getElem_cons_zero]
          clear hK K
          refine wpAnyM_one (i := 7) (by kernel_rfl) rfl (by rfl) (fun K hK => ?_)
          go_simp
          refine hK _ _ (.inl rfl) ?_
          clear hK K
          refine wpAnyM_done (by kernel_rfl) ?_ _
          try simp only [Act.put, List.setIfInBounds_toArray, List.set_cons_succ, List.set_cons_zero, List.getElem_toArray, List.getElem_cons_succ, List.getElem_cons_zero]
          replace b0 := b0.below hS
          replace b1 := b1.below hS
          replace bR := bR.below hS
          replace hbel := hbel.trans (hS.mono (by omega))
          have e0 := bR.at_ 0 rfl
          have e1 := bR.at_ 1 rfl
          have e2 := bR.at_ 2 rfl
          have c0 := b0.at_ 0 rfl
          have c1 := b0.at_ 1 rfl
          have c2 := b1.at_ 0 rfl
          have c3 := b1.at_ 1 rfl
          have f0 := b0.thaw 0
          have f1 := b0.thaw 1
          have f2 := b1.thaw 0
          have f3 := b1.thaw 1
          go_wp2
          obtain ⟨V9, hV9⟩ : ∃ X, X = (((Na.setCell ⟨r, 0, none⟩ (.int .i64 (m : Int))).setCell ⟨r, 1, none⟩ (.slice (some ⟨V.heap.size, 0, none⟩) 1 1)).setCell ⟨r + 1, 0, none⟩ (.int .i64 (m : Int))).setCell ⟨r + 1, 1, none⟩ (.slice (some ⟨Ma.heap.size, 0, none⟩) 1 1) := ⟨_, rfl⟩
          rw [← hV9]
          have z0 : Bx V9 r 31 #[.int .i64 (m : Int), .slice (some ⟨V.heap.size, 0, none⟩) 1 1] := by rw [hV9]; exact (((b0.set_ 0 _).set_ 1 _).far (by simp) _).far (by simp) _
          have z1 : Bx V9 (r + 1) 31 #[.int .i64 (m : Int), .slice (some ⟨Ma.heap.size, 0, none⟩) 1 1] := by rw [hV9]; exact (((b1.far (by simp) _).far (by simp) _).set_ 0 _).set_ 1 _
          have O1 : Own 2 V9 V.heap.size (V.heap.size + 1) (.slice (some ⟨V.heap.size, 0, none⟩) 1 1) [y.2.1] := by rw [hV9]; exact (((o1.setCell (.inl (by simp; omega)) _).setCell (.inl (by simp; omega)) _).setCell (.inl (by simp; omega)) _).setCell (.inl (by simp; omega)) _
          have O2 : Own 2 V9 Ma.heap.size (Ma.heap.size + 1) (.slice (some ⟨Ma.heap.size, 0, none⟩) 1 1) [y.2.2.1] := by rw [hV9]; exact (((o2.setCell (.inl (by simp; omega)) _).setCell (.inl (by simp; omega)) _).setCell (.inl (by simp; omega)) _).setCell (.inl (by simp; omega)) _
          have hB9 : Below r w V9 := by rw [hV9]; exact (((hbel.setCell (by first | (simp; done) | (simp; omega)) _).setCell (by first | (simp; done) | (simp; omega)) _).setCell (by first | (simp; done) | (simp; omega)) _).setCell (by first | (simp; done) | (simp; omega)) _
          have hz9 : V9.heap.size ≤ Na.heap.size ∧ Na.heap.size ≤ V9.heap.size := by rw [hV9]; simp
          clear hV9
          have r0 := z0.at_ 0 rfl
          have r1 := z0.at_ 1 rfl
          have q0 := z1.at_ 0 rfl
          have q1 := z1.at_ 1 rfl
          have hr1 := HR.out
          exact bodyPost_ret (v := .tuple #[.agg #[.int .i64 (m : Int), .slice (some ⟨V.heap.size, 0, none⟩) 1 1], .agg #[.int .i64 (m : Int), .slice (some ⟨Ma.heap.size, 0, none⟩) 1 1], .int .i64 0]) (by clear hr1; simp [results, Try.results16, go_sem, r0, r1, q0, q1]) rfl
            (twoAny_ok HT.out rfl rfl rfl O1 O2 (by omega) (by omega) (by omega) (by omega) (by omega) (by rw [← hr1]; exact hB9))
        · go_simp
          obtain ⟨Ma, hMa⟩ : ∃ X, X = (V.alloc (.cells #[.int .i64 y.2.2.1] 2)).drew := ⟨_, rfl⟩
          have o1 : Own 2 Ma V.heap.size (V.heap.size + 1) (.slice (some ⟨V.heap.size, 0, none⟩) 1 1) [y.2.2.1] := by rw [hMa]; exact (own_lit1' 2 V y.2.2.1).drew
          have hs1 : Ma.heap.size ≤ V.heap.size + 1 ∧ V.heap.size + 1 ≤ Ma.heap.size := by rw [hMa]; simp
          replace hS : Below V.heap.size V Ma := by rw [hMa]; exact ((Below.refl _ _).alloc (Nat.le_refl _) _).drew
          rw [← hMa]
          clear hMa
          refine hK _ _ (.inr hS) ?_
          try simp only [Act.put, List.setIfInBounds_toArray, List.set_cons_succ, List.set_cons_zero, List.getElem_toArray, List.getElem_cons_succ, List.getElem_cons_zero]
          clear hK K
          refine wpAnyM_one (i := 2) (by kernel_rfl) rfl (by rfl) (fun K hK => ?_)
          go_simp
          obtain ⟨Na, hNa⟩ : ∃ X, X = Ma.alloc (.cells #[.int .i64 y.2.1] 2) := ⟨_, rfl⟩
          replace o1 : Own 2 Na V.heap.size (V.heap.size + 1) (.slice (some ⟨V.heap.size, 0, none⟩) 1 1) [y.2.2.1] := by rw [hNa]; exact o1.alloc _
          have o2 : Own 2 Na Ma.heap.size (Ma.heap.size + 1) (.slice (some ⟨Ma.heap.size, 0, none⟩) 1 1) [y.2.1] := by rw [hNa]; exact own_lit1' 2 Ma y.2.1
          have hs2 : Na.heap.size ≤ Ma.heap.size + 1 ∧ Ma.heap.size + 1 ≤ Na.heap.size := by rw [hNa]; simp
          replace hS : Below V.heap.size V Na := by rw [hNa]; exact hS.alloc hS.size _
          rw [← hNa]
          clear hNa
          refine hK _ _ (.inr hS) ?_
          try simp only [Act.put, List.setIfInBounds_toArray, List.set_cons_succ, List.set_cons_zero, List.getElem_toArray, List.getElem_cons_succ, List.getElem_cons_zero]
          clear hK K
          refine wpAnyM_one (i := 6) (by kernel_rfl) rfl (by rfl) (fun K hK => ?_)
          go_simp
          refine hK _ _ (.inr hS) ?_
          try simp only [Act.put, List.setIfInBounds_toArray, List.set_cons_succ, List.set_cons_zero, List.getElem_toArray, List.getElem_cons_succ, List.getElem_cons_zero]
          clear hK K
          refine wpAnyM_one (i := 7) (by kernel_rfl) rfl (by rfl) (fun K hK => ?_)
          go_simp
          refine hK _ _ (.inl rfl) ?_
          clear hK K
          refine wpAnyM_done (by kernel_rfl) ?_ _
          try simp only [Act.put, List.setIfInBounds_toArray, List.set_cons_succ, List.set_cons_zero, List.getElem_toArray, List.getElem_cons_succ, List.getElem_cons_zero]
          replace b0 := b0.below hS
          replace b1 := b1.below hS
          replace bR := bR.below hS
          replace hbel := hbel.trans (hS.mono (by omega))
          have e0 := bR.at_ 0 rfl
          have e1 := bR.at_ 1 rfl
          have e2 := bR.at_ 2 rfl
          have c0 := b0.at_ 0 rfl
          have c1 := b0.at_ 1 rfl
          have c2 := b1.at_ 0 rfl
          have c3 := b1.at_ 1 rfl
          have f0 := b0.thaw 0
          have f1 := b0.thaw 1
          have f2 := b1.thaw 0
          have f3 := b1.thaw 1
          go_wp2
          obtain ⟨V9, hV9⟩ : ∃ X, X = (((Na.setCell ⟨r, 0, none⟩ (.int .i64 (m : Int))).setCell ⟨r, 1, none⟩ (.slice (some ⟨Ma.heap.size, 0, none⟩) 1 1)).setCell ⟨r + 1, 0, none⟩ (.int .i64 (m : Int))).setCell ⟨r + 1, 1, none⟩ (.slice (some ⟨V.heap.size, 0, none⟩) 1 1) := ⟨_, rfl⟩
          rw [← hV9]
          have z0 : Bx V9 r 31 #[.int .i64 (m : Int), .slice (some ⟨Ma.heap.size, 0, none⟩) 1 1] := by rw [hV9]; exact (((b0.set_ 0 _).set_ 1 _).far (by simp) _).far (by simp) _
          have z1 : Bx V9 (r + 1) 31 #[.int .i64 (m : Int), .slice (some ⟨V.heap.size, 0, none⟩) 1 1] := by rw [hV9]; exact (((b1.far (by simp) _).far (by simp) _).set_ 0 _).set_ 1 _
          have O1 : Own 2 V9 Ma.heap.size (Ma.heap.size + 1) (.slice (some ⟨Ma.heap.size, 0, none⟩) 1 1) [y.2.1] := by rw [hV9]; exact (((o2.setCell (.inl (by simp; omega)) _).setCell (.inl (by simp; omega)) _).setCell (.inl (by simp; omega)) _).setCell (.inl (by simp; omega)) _
          have O2 : Own 2 V9 V.heap.size (V.heap.size + 1) (.slice (some ⟨V.heap.size, 0, none⟩) 1 1) [y.2.2.1] := by rw [hV9]; exact (((o1.setCell (.inl (by simp; omega)) _).setCell (.inl (by simp; omega)) _).setCell (.inl (by simp; omega)) _).setCell (.inl (by simp; omega)) _
          have hB9 : Below r w V9 := by rw [hV9]; exact (((hbel.setCell (by first | (simp; done) | (simp; omega)) _).setCell (by first | (simp; done) | (simp; omega)) _).setCell (by first | (simp; done) | (simp; omega)) _).setCell (by first | (simp; done) | (simp; omega)) _
          have hz9 : V9.heap.size ≤ Na.heap.size ∧ Na.heap.size ≤ V9.heap.size := by rw [hV9]; simp
          clear hV9
          have r0 := z0.at_ 0 rfl
          have r1 := z0.at_ 1 rfl
          have q0 := z1.at_ 0 rfl
          have q1 := z1.at_ 1 rfl
          have hr1 := HR.out
          exact bodyPost_ret (v := .tuple #[.agg #[.int .i64 (m : Int), .slice (some ⟨Ma.heap.size, 0, none⟩) 1 1], .agg #[.int .i64 (m : Int), .slice (some ⟨V.heap.size, 0, none⟩) 1 1], .int .i64 0]) (by clear hr1; simp [results, Try.results16, go_sem, r0, r1, q0, q1]) rfl
            (twoAny_ok HT.out rfl rfl rfl O1 O2 (by omega) (by omega) (by omega) (by omega) (by omega) (by rw [← hr1]; exact hB9))
  · have ht : ((tfR b rs).2 != 0) = true := by simp [h0]
    have HT := Lib.hid (twR_code h0)
    clear h0
    go_enter Try.func16, Try.ntmps16
    go_wp2_with fail
    rw [← HU.out, ← HR.out]
    refine HC.out.mono ?_
    rintro e w2 ⟨rfl, hb12⟩
    replace b0 := b0.below hb12
    replace b1 := b1.below hb12
    replace hbel := hbel.trans (hb12.mono (by omega))
    have hs2 := hb12.size
    clear hb12
    have r0 := b0.at_ 0 rfl
    have r1 := b0.at_ 1 rfl
    have r2 := b1.at_ 0 rfl
    have r3 := b1.at_ 1 rfl
    have f0 := b0.thaw 0
    have f1 := b0.thaw 1
    have f2 := b1.thaw 0
    have f3 := b1.thaw 1
    go_wp2
    exact bodyPost_ret (v := .tuple #[.agg #[.int .i64 0, .slice none 0 0], .agg #[.int .i64 0, .slice none 0 0], .int .i64 (tfR b rs).2]) (by simp [results, Try.results16, go_sem, r0, r1, r2, r3]) rfl
      (twoAny_err HT.out rfl (by rw [← HR.out]; exact (by repeat (first | exact hbel | refine Below.setCell ?_ (by first | omega | (simp <;> omega)) _ | refine Below.alloc ?_ (by first | omega | (simp <;> omega)) _ | refine Below.drew ?_))))
end Go.Proofs.Ytmdngcoccekdgaa
