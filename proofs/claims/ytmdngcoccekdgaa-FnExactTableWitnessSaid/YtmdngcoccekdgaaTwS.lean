/-
  spec.TableWitness.
-/
import Derived.Test.YtmdngcoccekdgaaTwM
import Derived.Test.YtmdngcoccekdgaaTfS
import Derived.Test.YtmdngcoccekdgaaOrd
namespace Go.Proofs.Ytmdngcoccekdgaa
open Go.RowKit

set_option maxRecDepth 100000 in
set_option maxHeartbeats 4000000 in
theorem specTableWitness (b : Int) (a : Option Addr) (c : Nat) (rs : List Row5) (w : World) (bb : I64 b) (ha : RdF quinF w a rs) (_ : All5 rs) :
    Calls Try.prog 49 #[.int .i64 b, .slice a rs.length c] w (TwoAny (twR b rs) w) := by
  obtain ⟨r, hr⟩ : ∃ r, r = w.heap.size := ⟨_, rfl⟩
  obtain ⟨u, hu⟩ : ∃ u, u = (w.alloc (.cells #[.int .i64 0, .slice none 0 0] 31)).alloc (.cells #[.int .i64 0, .slice none 0 0] 31) := ⟨_, rfl⟩
  have b0 : Bx u r 31 #[.int .i64 0, .slice none 0 0] := by rw [hu, hr]; exact (Bx.new _ _ _).alloc _
  have b1 : Bx u (r + 1) 31 #[.int .i64 0, .slice none 0 0] := by rw [hu, hr]; simpa using Bx.new (w.alloc (.cells #[.int .i64 0, .slice none 0 0] 31)) #[.int .i64 0, .slice none 0 0] 31
  have hbel : Below r w u := by rw [hu, hr]; exact (by repeat (first | exact Below.refl _ _ | refine Below.setCell ?_ (by first | omega | (simp <;> omega)) _ | refine Below.alloc ?_ (by first | omega | (simp <;> omega)) _ | refine Below.drew ?_))
  have hsu : u.heap.size = r + 2 := by rw [hu, hr]; simp
  have hau := ha.below (by rw [← hr]; exact hbel)
  have HU := Lib.hid hu
  have HR := Lib.hid hr
  clear hu hr
  have HC := Lib.hid (l08Code_any b a c rs u hau)
  by_cases h0 : (tfR b rs).2 = 0
  · have ht : ((tfR b rs).2 != 0) = false := by simp [h0]
    have hbs : baseB b = true := by
      cases h : baseB b with
      | true => rfl
      | false => rw [tf_base h] at h0; cases h0
    have hb := baseB_true hbs
    obtain ⟨m, rfl⟩ : ∃ m : Nat, b = m := ⟨b.toNat, by omega⟩
    have hf : formB m rs = true := by
      cases h : formB m rs with
      | true => rfl
      | false => rw [tf_form hbs h] at h0; cases h0
    have htf := tf_ok hbs hf
    have H0 := Lib.hid h0
    have HW := Lib.hid fun v (hv : Below u.heap.size u v) => l08Wrong_any m a c rs v (hau.below hv) (by omega) (by omega) hf
    have hm1 : 2 ≤ m := by omega
    have hm2 : m ≤ 16 := by omega
    obtain ⟨W, hW⟩ : ∃ W, W = wrongTo m rs rs.length := ⟨_, rfl⟩
    rw [← hW] at HW htf
    have HF := Lib.hid htf
    have hbd := (wrongTo_bd m rs rs.length).2
    rw [← hW] at hbd
    have hbd1 := (wrongTo_bd m rs rs.length).1
    rw [← hW] at hbd1
    clear hbs hb hf hW htf
    by_cases hn : W < 0
    · have HT := Lib.hid (twR_none H0.out (by rw [HF.out]; exact hn))
      clear h0 hbd hbd1
      go_enter Try.func49, Try.ntmps49
      go_wp2_with fail
      rw [← HU.out, ← HR.out]
      refine HC.out.mono ?_
      rintro e w1 ⟨rfl, hb1⟩
      rw [H0.out]
      go_wp2_with fail
      refine (HW.out w1 hb1).mono ?_
      rintro e w2 ⟨rfl, hb2⟩
      have hb12 := hb1.trans (hb2.mono hb1.size)
      replace b0 := b0.below hb12
      replace b1 := b1.below hb12
      replace hbel := hbel.trans (hb12.mono (by omega))
      clear hb1 hb2 hb12
      have r0 := b0.at_ 0 rfl
      have r1 := b0.at_ 1 rfl
      have r2 := b1.at_ 0 rfl
      have r3 := b1.at_ 1 rfl
      have f0 := b0.thaw 0
      have f1 := b0.thaw 1
      have f2 := b1.thaw 0
      have f3 := b1.thaw 1
      go_wp2
      exact bodyPost_ret (v := .tuple #[.agg #[.int .i64 0, .slice none 0 0], .agg #[.int .i64 0, .slice none 0 0], .int .i64 3]) (by simp [results, Try.results49, go_sem, r0, r1, r2, r3]) rfl
        (twoAny_err HT.out rfl (by rw [← HR.out]; exact (by repeat (first | exact hbel | refine Below.setCell ?_ (by first | omega | (simp <;> omega)) _ | refine Below.alloc ?_ (by first | omega | (simp <;> omega)) _ | refine Below.drew ?_))))
    · obtain ⟨j, rfl⟩ : ∃ j : Nat, W = j := ⟨W.toNat, by omega⟩
      have hj : j < rs.length := by omega
      have hjl : (j : Int) < (rs.length : Int) := by omega
      have hv1 : IntKind.i64.wrap ((m : Int) - 1) = (m : Int) - 1 := fits_int _ (by omega) (by omega)
      obtain ⟨b', off, rfl, p0, p1, p2, p3, p4⟩ := hau.at5 hj
      have HTi := Lib.hid (fun h => twR_in (j := j) H0.out (by rw [HF.out]) h)
      have HTo := Lib.hid (fun h => twR_out (j := j) H0.out (by rw [HF.out]) h)
      obtain ⟨y, hy⟩ : ∃ y, y = elt quinF rs j := ⟨_, rfl⟩
      rw [← hy] at p0 p1 p2 p3 p4 HTi HTo
      clear hy h0 hbd hbd1 hn hau
      by_cases h1 : y.1 = 1
      · have t1 : (y.1 == 1) = true := by simp [h1]
        have HT := Lib.hid (HTi.out h1)
        clear HTi HTo h1
        go_enter Try.func49, Try.ntmps49
        go_wp2_with fail
        rw [← HU.out, ← HR.out]
        refine HC.out.mono ?_
        rintro e w1 ⟨rfl, hb1⟩
        rw [H0.out]
        go_wp2_with fail
        refine (HW.out w1 hb1).mono ?_
        rintro e w2 ⟨rfl, hb2⟩
        have hb12 := hb1.trans (hb2.mono hb1.size)
        replace b0 := b0.below hb12
        replace b1 := b1.below hb12
        replace hbel := hbel.trans (hb12.mono (by omega))
        have hs2 := hb12.size
        have p0 := kept hb12 p0
        have p1 := kept hb12 p1
        have p2 := kept hb12 p2
        have p3 := kept hb12 p3
        have p4 := kept hb12 p4
        clear hb1 hb2 hb12
        go_upto_region 13 with fail
        obtain ⟨V4, hV4⟩ : ∃ V, V = (((((((w2.alloc (.cells #[.int .i64 y.1, .int .i64 y.2.1, .int .i64 y.2.2.1, .int .i64 y.2.2.2.1, .int .i64 y.2.2.2.2] 88)).alloc (.cells #[.int .i64 y.2.1] 2)).alloc (.cells #[.int .i64 (m : Int), .slice (some ⟨w2.heap.size + 1 + 1 + 1 + 1 + 1, 0, none⟩) 2 2] 31)).alloc (.cells #[.int .i64 y.2.2.1] 2)).alloc (.cells #[.int .i64 (m : Int), .slice (some ⟨w2.heap.size + 1 + 1 + 1 + 1 + 1 + 1, 0, none⟩) 2 2] 31)).alloc (.cells #[.int .i64 ((m : Int) - 1), .int .i64 y.2.1] 2)).alloc (.cells #[.int .i64 1, .int .i64 y.2.2.1] 2)) := ⟨_, rfl⟩
        have bX : Bx V4 (w2.heap.size + 1 + 1) 31 #[.int .i64 (m : Int), .slice (some ⟨w2.heap.size + 1 + 1 + 1 + 1 + 1, 0, none⟩) 2 2] := by rw [hV4]; simpa using ((((Bx.new ((w2.alloc (.cells #[.int .i64 y.1, .int .i64 y.2.1, .int .i64 y.2.2.1, .int .i64 y.2.2.2.1, .int .i64 y.2.2.2.2] 88)).alloc (.cells #[.int .i64 y.2.1] 2)) #[.int .i64 (m : Int), .slice (some ⟨w2.heap.size + 1 + 1 + 1 + 1 + 1, 0, none⟩) 2 2] 31).alloc _).alloc _).alloc _).alloc _
        have bY : Bx V4 (w2.heap.size + 1 + 1 + 1 + 1) 31 #[.int .i64 (m : Int), .slice (some ⟨w2.heap.size + 1 + 1 + 1 + 1 + 1 + 1, 0, none⟩) 2 2] := by rw [hV4]; simpa using ((Bx.new ((((w2.alloc (.cells #[.int .i64 y.1, .int .i64 y.2.1, .int .i64 y.2.2.1, .int .i64 y.2.2.2.1, .int .i64 y.2.2.2.2] 88)).alloc (.cells #[.int .i64 y.2.1] 2)).alloc (.cells #[.int .i64 (m : Int), .slice (some ⟨w2.heap.size + 1 + 1 + 1 + 1 + 1, 0, none⟩) 2 2] 31)).alloc (.cells #[.int .i64 y.2.2.1] 2)) #[.int .i64 (m : Int), .slice (some ⟨w2.heap.size + 1 + 1 + 1 + 1 + 1 + 1, 0, none⟩) 2 2] 31).alloc _).alloc _
        have o1 : Own 2 V4 (w2.heap.size + 1 + 1 + 1 + 1 + 1) (w2.heap.size + 1 + 1 + 1 + 1 + 1 + 1) (.slice (some ⟨w2.heap.size + 1 + 1 + 1 + 1 + 1, 0, none⟩) 2 2) [(m : Int) - 1, y.2.1] := by rw [hV4]; simpa using (own_lit2 2 (((((w2.alloc (.cells #[.int .i64 y.1, .int .i64 y.2.1, .int .i64 y.2.2.1, .int .i64 y.2.2.2.1, .int .i64 y.2.2.2.2] 88)).alloc (.cells #[.int .i64 y.2.1] 2)).alloc (.cells #[.int .i64 (m : Int), .slice (some ⟨w2.heap.size + 1 + 1 + 1 + 1 + 1, 0, none⟩) 2 2] 31)).alloc (.cells #[.int .i64 y.2.2.1] 2)).alloc (.cells #[.int .i64 (m : Int), .slice (some ⟨w2.heap.size + 1 + 1 + 1 + 1 + 1 + 1, 0, none⟩) 2 2] 31)) ((m : Int) - 1) y.2.1).alloc _
        have o2 : Own 2 V4 (w2.heap.size + 1 + 1 + 1 + 1 + 1 + 1) (w2.heap.size + 1 + 1 + 1 + 1 + 1 + 1 + 1) (.slice (some ⟨w2.heap.size + 1 + 1 + 1 + 1 + 1 + 1, 0, none⟩) 2 2) [1, y.2.2.1] := by rw [hV4]; simpa using own_lit2 2 ((((((w2.alloc (.cells #[.int .i64 y.1, .int .i64 y.2.1, .int .i64 y.2.2.1, .int .i64 y.2.2.2.1, .int .i64 y.2.2.2.2] 88)).alloc (.cells #[.int .i64 y.2.1] 2)).alloc (.cells #[.int .i64 (m : Int), .slice (some ⟨w2.heap.size + 1 + 1 + 1 + 1 + 1, 0, none⟩) 2 2] 31)).alloc (.cells #[.int .i64 y.2.2.1] 2)).alloc (.cells #[.int .i64 (m : Int), .slice (some ⟨w2.heap.size + 1 + 1 + 1 + 1 + 1 + 1, 0, none⟩) 2 2] 31)).alloc (.cells #[.int .i64 ((m : Int) - 1), .int .i64 y.2.1] 2)) 1 y.2.2.1
        have hbv : Below w2.heap.size w2 V4 := by rw [hV4]; exact (by repeat (first | exact Below.refl _ _ | refine Below.setCell ?_ (by first | omega | (simp <;> omega)) _ | refine Below.alloc ?_ (by first | omega | (simp <;> omega)) _ | refine Below.drew ?_))
        have hsv : V4.heap.size = w2.heap.size + 7 := by rw [hV4]; simp
        replace b0 := b0.below hbv
        replace b1 := b1.below hbv
        replace hbel := hbel.trans (hbv.mono (by omega))
        rw [← hV4]
        clear hV4 hbv
        obtain ⟨X1, hX1⟩ : ∃ X, X = w2.heap.size + 1 + 1 := ⟨_, rfl⟩
        obtain ⟨Y1, hY1⟩ : ∃ X, X = w2.heap.size + 1 + 1 + 1 + 1 := ⟨_, rfl⟩
        obtain ⟨S1, hS1⟩ : ∃ X, X = w2.heap.size + 1 + 1 + 1 + 1 + 1 := ⟨_, rfl⟩
        obtain ⟨S2, hS2⟩ : ∃ X, X = w2.heap.size + 1 + 1 + 1 + 1 + 1 + 1 := ⟨_, rfl⟩
        rw [← hS2, ← hS1, ← hY1, ← hX1]
        rw [← hS1] at o1
        rw [← hS2] at o2
        rw [← hS1, ← hX1] at bX
        rw [← hS2, ← hY1] at bY
        have e1 : w2.heap.size ≤ X1 ∧ w2.heap.size ≤ Y1 ∧ w2.heap.size ≤ S1 ∧ S1 < S2 ∧ S2 < V4.heap.size := by omega
        obtain ⟨e1, e2, e3, e4, e5⟩ := e1
        clear hX1 hY1 hS1 hS2 hsv
        have k0 : ∀ w', Touch r (r + 1) V4 w' → w'.cell? ⟨X1, 0, none⟩ = some (.int .i64 (m : Int)) := fun _ h => keptT h (bX.at_ 0 rfl) (by omega)
        have k1 : ∀ w', Touch r (r + 1) V4 w' → w'.cell? ⟨X1, 1, none⟩ = some (.slice (some ⟨S1, 0, none⟩) 2 2) := fun _ h => keptT h (bX.at_ 1 rfl) (by omega)
        have k2 : ∀ w', Touch r (r + 1) V4 w' → w'.cell? ⟨Y1, 0, none⟩ = some (.int .i64 (m : Int)) := fun _ h => keptT h (bY.at_ 0 rfl) (by omega)
        have k3 : ∀ w', Touch r (r + 1) V4 w' → w'.cell? ⟨Y1, 1, none⟩ = some (.slice (some ⟨S2, 0, none⟩) 2 2) := fun _ h => keptT h (bY.at_ 1 rfl) (by omega)
        refine wp_region_marked (fun w' => Touch r (r + 1) V4 w') 3 (by kernel_rfl) ?_
        have hS : Touch r (r + 1) V4 V4.drew := ⟨rfl, rfl, rfl, Nat.le_refl _, fun _ _ _ => rfl⟩
        refine wpAnyM_take (i := 0) (v := ?_) rfl (by kernel_rfl) (by kernel_rfl) (by kernel_rfl) (by kernel_rfl) (by kernel_rfl) (fun _ _ _ h => h) hS (.inl ⟨by rfl, ?_⟩) ?_
        rotate_left 1
        · intro w' hS'; go_simp; try with_reducible rfl
        simp only [Act.put, List.setIfInBounds_toArray]
        refine wpAnyM_take (i := 1) (v := ?_) rfl (by kernel_rfl) (by kernel_rfl) (by kernel_rfl) (by kernel_rfl) (by kernel_rfl) (fun _ _ _ h => h) hS (.inl ⟨by rfl, ?_⟩) ?_
        rotate_left 1
        · intro w' hS'; go_simp; try with_reducible rfl
        simp only [Act.put]
        clear k0 k1 k2 k3
        have c0 := b0.at_ 0 rfl
        have c1 := b0.at_ 1 rfl
        have f0 := b0.thaw 0
        have f1 := b0.thaw 1
        refine wpAnyM_one (i := 2) (by kernel_rfl) rfl (by rfl) (fun K hK => ?_)
        go_simp
        obtain ⟨w7, hw7⟩ : ∃ v, v = World.drew ((V4.setCell ⟨r, 0, none⟩ (.int .i64 (m : Int))).setCell ⟨r, 1, none⟩ (.slice (some ⟨S1, 0, none⟩) 2 2)) := ⟨_, rfl⟩
        rw [← hw7]
        have tt : Touch r (r + 1) V4 w7 := by rw [hw7]; exact (((Touch.refl _ _ _).setCell (by simp) (by simp) _).setCell (by simp) (by simp) _).trans ⟨rfl, rfl, rfl, Nat.le_refl _, fun _ _ _ => rfl⟩
        have br7 : Bx w7 r 31 #[.int .i64 (m : Int), .slice (some ⟨S1, 0, none⟩) 2 2] := by rw [hw7]; exact ((b0.set_ 0 _).set_ 1 _).drew
        have hs7 := tt.size
        have bq7 := b1.touch tt (by omega)
        have own7 := o1.touch tt (.inr (by omega))
        have ow27 := o2.touch tt (.inr (by omega))
        have hb7 := hbel.trans (tt.below (Nat.le_refl _) (by omega))
        clear hw7 c0 c1 f0 f1
        refine hK _ _ (.inr tt) ?_
        try simp only [Act.put, List.setIfInBounds_toArray]
        clear hK K
        have c0 := bq7.at_ 0 rfl
        have c1 := bq7.at_ 1 rfl
        have f0 := bq7.thaw 0
        have f1 := bq7.thaw 1
        refine wpAnyM_one (i := 3) (by kernel_rfl) rfl (by rfl) (fun K hK => ?_)
        go_simp
        obtain ⟨w8, hw8⟩ : ∃ v, v = (w7.setCell ⟨r + 1, 0, none⟩ (.int .i64 (m : Int))).setCell ⟨r + 1, 1, none⟩ (.slice (some ⟨S2, 0, none⟩) 2 2) := ⟨_, rfl⟩
        rw [← hw8]
        have t8 : Touch (r + 1) (r + 1 + 1) w7 w8 := by rw [hw8]; exact ((Touch.refl _ _ _).setCell (by simp) (by simp) _).setCell (by simp) (by simp) _
        have bq8 : Bx w8 (r + 1) 31 #[.int .i64 (m : Int), .slice (some ⟨S2, 0, none⟩) 2 2] := by rw [hw8]; exact (bq7.set_ 0 _).set_ 1 _
        have hs8 := t8.size
        have br8 := br7.touch t8 (by omega)
        have own8 := own7.touch t8 (.inr (by omega))
        have ow28 := ow27.touch t8 (.inr (by omega))
        have hb8 := hb7.trans (t8.below (by omega) (by omega))
        clear hw8 c0 c1 f0 f1
        refine hK _ _ (.inl rfl) ?_
        try simp only [Act.put, List.setIfInBounds_toArray]
        clear hK K
        refine wpAnyM_one (i := 4) (by kernel_rfl) rfl (by rfl) (fun K hK => ?_)
        go_simp
        refine hK _ _ (.inl rfl) ?_
        clear hK K
        refine wpAnyM_done (by kernel_rfl) ?_ _
        have r0 := br8.at_ 0 rfl
        have r1 := br8.at_ 1 rfl
        have q0 := bq8.at_ 0 rfl
        have q1 := bq8.at_ 1 rfl
        go_wp2_with fail
        exact bodyPost_ret (v := .tuple #[.agg #[.int .i64 (m : Int), .slice (some ⟨S1, 0, none⟩) 2 2], .agg #[.int .i64 (m : Int), .slice (some ⟨S2, 0, none⟩) 2 2], .int .i64 0]) (by simp [results, Try.results49, go_sem, r0, r1, q0, q1]) rfl
          (twoAny_ok HT.out rfl rfl rfl own8 ow28 (by have := HR.out; omega) (by have := HR.out; omega) (by omega) (by omega) (by omega) (by rw [← HR.out]; exact hb8))
      · have t1 : (y.1 == 1) = false := by simp [h1]
        have HT := Lib.hid (HTo.out h1)
        clear HTi HTo h1
        go_enter Try.func49, Try.ntmps49
        go_wp2_with fail
        rw [← HU.out, ← HR.out]
        refine HC.out.mono ?_
        rintro e w1 ⟨rfl, hb1⟩
        rw [H0.out]
        go_wp2_with fail
        refine (HW.out w1 hb1).mono ?_
        rintro e w2 ⟨rfl, hb2⟩
        have hb12 := hb1.trans (hb2.mono hb1.size)
        replace b0 := b0.below hb12
        replace b1 := b1.below hb12
        replace hbel := hbel.trans (hb12.mono (by omega))
        have hs2 := hb12.size
        have p0 := kept hb12 p0
        have p1 := kept hb12 p1
        have p2 := kept hb12 p2
        have p3 := kept hb12 p3
        have p4 := kept hb12 p4
        clear hb1 hb2 hb12
        go_upto_region 13 with fail
        obtain ⟨V4, hV4⟩ : ∃ V, V = (((((w2.alloc (.cells #[.int .i64 y.1, .int .i64 y.2.1, .int .i64 y.2.2.1, .int .i64 y.2.2.2.1, .int .i64 y.2.2.2.2] 88)).alloc (.cells #[.int .i64 y.2.1] 2)).alloc (.cells #[.int .i64 (m : Int), .slice (some ⟨w2.heap.size + 1, 0, none⟩) 1 1] 31)).alloc (.cells #[.int .i64 y.2.2.1] 2)).alloc (.cells #[.int .i64 (m : Int), .slice (some ⟨w2.heap.size + 1 + 1 + 1, 0, none⟩) 1 1] 31)) := ⟨_, rfl⟩
        have bX : Bx V4 (w2.heap.size + 1 + 1) 31 #[.int .i64 (m : Int), .slice (some ⟨w2.heap.size + 1, 0, none⟩) 1 1] := by rw [hV4]; simpa using ((Bx.new ((w2.alloc (.cells #[.int .i64 y.1, .int .i64 y.2.1, .int .i64 y.2.2.1, .int .i64 y.2.2.2.1, .int .i64 y.2.2.2.2] 88)).alloc (.cells #[.int .i64 y.2.1] 2)) #[.int .i64 (m : Int), .slice (some ⟨w2.heap.size + 1, 0, none⟩) 1 1] 31).alloc _).alloc _
        have bY : Bx V4 (w2.heap.size + 1 + 1 + 1 + 1) 31 #[.int .i64 (m : Int), .slice (some ⟨w2.heap.size + 1 + 1 + 1, 0, none⟩) 1 1] := by rw [hV4]; simpa using Bx.new ((((w2.alloc (.cells #[.int .i64 y.1, .int .i64 y.2.1, .int .i64 y.2.2.1, .int .i64 y.2.2.2.1, .int .i64 y.2.2.2.2] 88)).alloc (.cells #[.int .i64 y.2.1] 2)).alloc (.cells #[.int .i64 (m : Int), .slice (some ⟨w2.heap.size + 1, 0, none⟩) 1 1] 31)).alloc (.cells #[.int .i64 y.2.2.1] 2)) #[.int .i64 (m : Int), .slice (some ⟨w2.heap.size + 1 + 1 + 1, 0, none⟩) 1 1] 31
        have o1 : Own 2 V4 (w2.heap.size + 1) (w2.heap.size + 1 + 1) (.slice (some ⟨w2.heap.size + 1, 0, none⟩) 1 1) [y.2.1] := by rw [hV4]; simpa using (((own_lit1' 2 (w2.alloc (.cells #[.int .i64 y.1, .int .i64 y.2.1, .int .i64 y.2.2.1, .int .i64 y.2.2.2.1, .int .i64 y.2.2.2.2] 88)) y.2.1).alloc _).alloc _).alloc _
        have o2 : Own 2 V4 (w2.heap.size + 1 + 1 + 1) (w2.heap.size + 1 + 1 + 1 + 1) (.slice (some ⟨w2.heap.size + 1 + 1 + 1, 0, none⟩) 1 1) [y.2.2.1] := by rw [hV4]; simpa using (own_lit1' 2 (((w2.alloc (.cells #[.int .i64 y.1, .int .i64 y.2.1, .int .i64 y.2.2.1, .int .i64 y.2.2.2.1, .int .i64 y.2.2.2.2] 88)).alloc (.cells #[.int .i64 y.2.1] 2)).alloc (.cells #[.int .i64 (m : Int), .slice (some ⟨w2.heap.size + 1, 0, none⟩) 1 1] 31)) y.2.2.1).alloc _
        have hbv : Below w2.heap.size w2 V4 := by rw [hV4]; exact (by repeat (first | exact Below.refl _ _ | refine Below.setCell ?_ (by first | omega | (simp <;> omega)) _ | refine Below.alloc ?_ (by first | omega | (simp <;> omega)) _ | refine Below.drew ?_))
        have hsv : V4.heap.size = w2.heap.size + 5 := by rw [hV4]; simp
        replace b0 := b0.below hbv
        replace b1 := b1.below hbv
        replace hbel := hbel.trans (hbv.mono (by omega))
        rw [← hV4]
        clear hV4 hbv
        obtain ⟨X1, hX1⟩ : ∃ X, X = w2.heap.size + 1 + 1 := ⟨_, rfl⟩
        obtain ⟨Y1, hY1⟩ : ∃ X, X = w2.heap.size + 1 + 1 + 1 + 1 := ⟨_, rfl⟩
        obtain ⟨S1, hS1⟩ : ∃ X, X = w2.heap.size + 1 := ⟨_, rfl⟩
        obtain ⟨S2, hS2⟩ : ∃ X, X = w2.heap.size + 1 + 1 + 1 := ⟨_, rfl⟩
        rw [← hY1, ← hS2, ← hX1, ← hS1]
        rw [← hS1] at o1
        rw [← hS2] at o2
        rw [← hX1, ← hS1] at bX
        rw [← hY1, ← hS2] at bY
        have e1 : w2.heap.size ≤ X1 ∧ w2.heap.size ≤ Y1 ∧ w2.heap.size ≤ S1 ∧ S1 < S2 ∧ S2 < V4.heap.size := by omega
        obtain ⟨e1, e2, e3, e4, e5⟩ := e1
        clear hX1 hY1 hS1 hS2 hsv
        have k0 : ∀ w', Touch r (r + 1) V4 w' → w'.cell? ⟨X1, 0, none⟩ = some (.int .i64 (m : Int)) := fun _ h => keptT h (bX.at_ 0 rfl) (by omega)
        have k1 : ∀ w', Touch r (r + 1) V4 w' → w'.cell? ⟨X1, 1, none⟩ = some (.slice (some ⟨S1, 0, none⟩) 1 1) := fun _ h => keptT h (bX.at_ 1 rfl) (by omega)
        have k2 : ∀ w', Touch r (r + 1) V4 w' → w'.cell? ⟨Y1, 0, none⟩ = some (.int .i64 (m : Int)) := fun _ h => keptT h (bY.at_ 0 rfl) (by omega)
        have k3 : ∀ w', Touch r (r + 1) V4 w' → w'.cell? ⟨Y1, 1, none⟩ = some (.slice (some ⟨S2, 0, none⟩) 1 1) := fun _ h => keptT h (bY.at_ 1 rfl) (by omega)
        refine wp_region_marked (fun w' => Touch r (r + 1) V4 w') 3 (by kernel_rfl) ?_
        have hS : Touch r (r + 1) V4 V4.drew := ⟨rfl, rfl, rfl, Nat.le_refl _, fun _ _ _ => rfl⟩
        refine wpAnyM_take (i := 0) (v := ?_) rfl (by kernel_rfl) (by kernel_rfl) (by kernel_rfl) (by kernel_rfl) (by kernel_rfl) (fun _ _ _ h => h) hS (.inl ⟨by rfl, ?_⟩) ?_
        rotate_left 1
        · intro w' hS'; go_simp; try with_reducible rfl
        simp only [Act.put, List.setIfInBounds_toArray]
        refine wpAnyM_take (i := 1) (v := ?_) rfl (by kernel_rfl) (by kernel_rfl) (by kernel_rfl) (by kernel_rfl) (by kernel_rfl) (fun _ _ _ h => h) hS (.inl ⟨by rfl, ?_⟩) ?_
        rotate_left 1
        · intro w' hS'; go_simp; try with_reducible rfl
        simp only [Act.put]
        clear k0 k1 k2 k3
        have c0 := b0.at_ 0 rfl
        have c1 := b0.at_ 1 rfl
        have f0 := b0.thaw 0
        have f1 := b0.thaw 1
        refine wpAnyM_one (i := 2) (by kernel_rfl) rfl (by rfl) (fun K hK => ?_)
        go_simp
        obtain ⟨w7, hw7⟩ : ∃ v, v = World.drew ((V4.setCell ⟨r, 0, none⟩ (.int .i64 (m : Int))).setCell ⟨r, 1, none⟩ (.slice (some ⟨S1, 0, none⟩) 1 1)) := ⟨_, rfl⟩
        rw [← hw7]
        have tt : Touch r (r + 1) V4 w7 := by rw [hw7]; exact (((Touch.refl _ _ _).setCell (by simp) (by simp) _).setCell (by simp) (by simp) _).trans ⟨rfl, rfl, rfl, Nat.le_refl _, fun _ _ _ => rfl⟩
        have br7 : Bx w7 r 31 #[.int .i64 (m : Int), .slice (some ⟨S1, 0, none⟩) 1 1] := by rw [hw7]; exact ((b0.set_ 0 _).set_ 1 _).drew
        have hs7 := tt.size
        have bq7 := b1.touch tt (by omega)
        have own7 := o1.touch tt (.inr (by omega))
        have ow27 := o2.touch tt (.inr (by omega))
        have hb7 := hbel.trans (tt.below (Nat.le_refl _) (by omega))
        clear hw7 c0 c1 f0 f1
        refine hK _ _ (.inr tt) ?_
        try simp only [Act.put, List.setIfInBounds_toArray]
        clear hK K
        have c0 := bq7.at_ 0 rfl
        have c1 := bq7.at_ 1 rfl
        have f0 := bq7.thaw 0
        have f1 := bq7.thaw 1
        refine wpAnyM_one (i := 3) (by kernel_rfl) rfl (by rfl) (fun K hK => ?_)
        go_simp
        obtain ⟨w8, hw8⟩ : ∃ v, v = (w7.setCell ⟨r + 1, 0, none⟩ (.int .i64 (m : Int))).setCell ⟨r + 1, 1, none⟩ (.slice (some ⟨S2, 0, none⟩) 1 1) := ⟨_, rfl⟩
        rw [← hw8]
        have t8 : Touch (r + 1) (r + 1 + 1) w7 w8 := by rw [hw8]; exact ((Touch.refl _ _ _).setCell (by simp) (by simp) _).setCell (by simp) (by simp) _
        have bq8 : Bx w8 (r + 1) 31 #[.int .i64 (m : Int), .slice (some ⟨S2, 0, none⟩) 1 1] := by rw [hw8]; exact (bq7.set_ 0 _).set_ 1 _
        have hs8 := t8.size
        have br8 := br7.touch t8 (by omega)
        have own8 := own7.touch t8 (.inr (by omega))
        have ow28 := ow27.touch t8 (.inr (by omega))
        have hb8 := hb7.trans (t8.below (by omega) (by omega))
        clear hw8 c0 c1 f0 f1
        refine hK _ _ (.inl rfl) ?_
        try simp only [Act.put, List.setIfInBounds_toArray]
        clear hK K
        refine wpAnyM_one (i := 4) (by kernel_rfl) rfl (by rfl) (fun K hK => ?_)
        go_simp
        refine hK _ _ (.inl rfl) ?_
        clear hK K
        refine wpAnyM_done (by kernel_rfl) ?_ _
        have r0 := br8.at_ 0 rfl
        have r1 := br8.at_ 1 rfl
        have q0 := bq8.at_ 0 rfl
        have q1 := bq8.at_ 1 rfl
        go_wp2_with fail
        exact bodyPost_ret (v := .tuple #[.agg #[.int .i64 (m : Int), .slice (some ⟨S1, 0, none⟩) 1 1], .agg #[.int .i64 (m : Int), .slice (some ⟨S2, 0, none⟩) 1 1], .int .i64 0]) (by simp [results, Try.results49, go_sem, r0, r1, q0, q1]) rfl
          (twoAny_ok HT.out rfl rfl rfl own8 ow28 (by have := HR.out; omega) (by have := HR.out; omega) (by omega) (by omega) (by omega) (by rw [← HR.out]; exact hb8))
  · have ht : ((tfR b rs).2 != 0) = true := by simp [h0]
    have HT := Lib.hid (twR_code h0)
    clear h0
    go_enter Try.func49, Try.ntmps49
    go_wp2_with fail
    rw [← HU.out, ← HR.out]
    refine HC.out.mono ?_
    rintro e w1 ⟨rfl, hb1⟩
    replace b0 := b0.below hb1
    replace b1 := b1.below hb1
    replace hbel := hbel.trans (hb1.mono (by omega))
    clear hb1
    have r0 := b0.at_ 0 rfl
    have r1 := b0.at_ 1 rfl
    have r2 := b1.at_ 0 rfl
    have r3 := b1.at_ 1 rfl
    have f0 := b0.thaw 0
    have f1 := b0.thaw 1
    have f2 := b1.thaw 0
    have f3 := b1.thaw 1
    go_wp2
    exact bodyPost_ret (v := .tuple #[.agg #[.int .i64 0, .slice none 0 0], .agg #[.int .i64 0, .slice none 0 0], .int .i64 (tfR b rs).2]) (by simp [results, Try.results49, go_sem, r0, r1, r2, r3]) rfl
      (twoAny_err HT.out rfl (by rw [← HR.out]; exact (by repeat (first | exact hbel | refine Below.setCell ?_ (by first | omega | (simp <;> omega)) _ | refine Below.alloc ?_ (by first | omega | (simp <;> omega)) _ | refine Below.drew ?_))))
end Go.Proofs.Ytmdngcoccekdgaa
