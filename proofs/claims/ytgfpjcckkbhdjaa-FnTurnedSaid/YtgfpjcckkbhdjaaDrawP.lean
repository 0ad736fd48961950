/-
  What the turned drums' law draws: DrawTurnDrums.
-/
import Derived.Test.YtgfpjcckkbhdjaaDrawN
import Derived.Test.YtgfpjcckkbhdjaaDrawD
namespace Go.Proofs.Ytgfpjcckkbhdjaa
open Go.RowKit

set_option maxRecDepth 100000 in
set_option maxHeartbeats 16000000 in
theorem drawTurn_any (a : Option Addr) (zs : List Int) (c : Nat) (w : World) (h : RdU w a zs) :
    Calls Try.prog 67 #[.slice a zs.length c] w fun e w' => ∃ (K B T F b : Int) (ds : List Int) (A : Option Addr) (C : Nat) (b2 : Int) (es : List Int) (A2 : Option Addr) (C2 : Nat) (t : Int) (m : Nat), e = .returned (.tuple #[.agg #[.int .i64 K, .int .i64 B, .int .i64 T, .int .i64 F], .agg #[.int .i64 b, .slice A (List.length ds) C], .agg #[.int .i64 b2, .slice A2 (List.length es) C2], .int .i64 t]) ∧ BentK K B T F ∧ BentR b ds ∧ BentR b2 es ∧ I64 t ∧
      Own 2 w' w.heap.size m (.slice A ds.length C) ds ∧ Own 2 w' m w'.heap.size (.slice A2 es.length C2) es ∧ (w.heap.size ≤ m ∧ m ≤ w'.heap.size) ∧ Below w.heap.size w w' := by
  obtain ⟨r, hr⟩ : ∃ r, r = w.heap.size := ⟨_, rfl⟩
  obtain ⟨u, hu⟩ : ∃ u, u = ((w.alloc (.cells #[.int .i64 0, .int .i64 0, .int .i64 0, .int .i64 0] 86)).alloc (.cells #[.int .i64 0, .slice none 0 0] 26)).alloc (.cells #[.int .i64 0, .slice none 0 0] 26) := ⟨_, rfl⟩
  have br : Bx u r 86 #[.int .i64 0, .int .i64 0, .int .i64 0, .int .i64 0] := by rw [hu, hr]; exact ((Bx.new _ _ _).alloc _).alloc _
  have bq : Bx u (r + 1) 26 #[.int .i64 0, .slice none 0 0] := by rw [hu, hr]; have := (Bx.new (w.alloc (.cells #[.int .i64 0, .int .i64 0, .int .i64 0, .int .i64 0] 86)) #[.int .i64 0, .slice none 0 0] 26).alloc (.cells #[.int .i64 0, .slice none 0 0] 26); simpa using this
  have bp : Bx u (r + 2) 26 #[.int .i64 0, .slice none 0 0] := by rw [hu, hr]; have := Bx.new ((w.alloc (.cells #[.int .i64 0, .int .i64 0, .int .i64 0, .int .i64 0] 86)).alloc (.cells #[.int .i64 0, .slice none 0 0] 26)) #[.int .i64 0, .slice none 0 0] 26; simpa using this
  have hbu : Below w.heap.size w u := by rw [hu]; exact (by repeat (first | exact Below.refl _ _ | refine Below.setCell ?_ (by first | omega | (simp <;> omega)) _ | refine Below.alloc ?_ (by first | omega | (simp <;> omega)) _ | refine Below.drew ?_))
  have hru := h.below hbu
  have HU := Lib.hid hu
  have HR := Lib.hid hr
  clear hu h
  go_enter Try.func67, Try.ntmps67
  go_wp2_with fail
  rw [← HU.out, ← hr]
  clear hr
  refine (from_any a zs c u hru).mono ?_
  rintro e w1 ⟨s, rfl, hg, hs1, hb1⟩
  have hl := hb1.size
  have hrl := bp.lt
  replace br := br.below hb1
  replace bq := bq.below hb1
  replace bp := bp.below hb1
  replace hbu := hbu.trans (hb1.mono hbu.size)
  have hul := hbu.size
  have hrs : r + 2 < s := by omega
  clear hb1 hru
  go_wp2_with fail
  refine (bentDrum_any s _ w1 hs1 (by omega)).mono ?_
  rintro e w2 ⟨ki, b, T, F, rfl, hdd, ht2, hs2⟩
  have HD := Lib.hid hdd
  have hl2 := ht2.size
  replace br := br.touch ht2 (by omega)
  replace bq := bq.touch ht2 (by omega)
  replace bp := bp.touch ht2 (by omega)
  replace hbu := hbu.trans (ht2.below (by have := HR.out; omega) (by omega))
  clear ht2 hs1 hdd hul hl
  go_wp2_with fail
  obtain ⟨B, hB⟩ : ∃ B, B = w2.heap.size := ⟨_, rfl⟩
  obtain ⟨v, hv⟩ : ∃ v, v = w2.alloc (.cells #[.int .i64 ki, .int .i64 b, .int .i64 T, .int .i64 F] 86) := ⟨_, rfl⟩
  rw [← hv, ← hB]
  have hbv : Below w2.heap.size w2 v := by rw [hv]; exact (Below.refl _ _).alloc (Nat.le_refl _) _
  have bB : Bx v B 86 #[.int .i64 ki, .int .i64 b, .int .i64 T, .int .i64 F] := by rw [hv, hB]; exact Bx.new _ _ _
  have hsB : s < B := by have := hs2.lt; omega
  have hbz := hbu.size
  replace br := br.below hbv
  replace bq := bq.below hbv
  replace bp := bp.below hbv
  replace hbu := hbu.trans (hbv.mono hbz)
  have hsx := hs2.lo hbv (by omega)
  clear hv hbv hs2 hB hbz
  have hBv := bB.lt
  refine (bentReg_any s _ v hsx (by omega)).mono ?_
  rintro e w3 ⟨ma, da, A, C, rfl, hra, oa, ht3, hs3⟩
  have HRA := Lib.hid hra
  have hl3 := ht3.size
  replace bB := bB.touch ht3 (by omega)
  replace br := br.touch ht3 (by omega)
  replace bq := bq.touch ht3 (by omega)
  replace bp := bp.touch ht3 (by omega)
  replace hbu := hbu.trans (ht3.below (by have := HR.out; omega) (by have := HR.out; omega))
  clear ht3 hsx hra
  go_wp2_with fail
  obtain ⟨G, hG⟩ : ∃ G, G = w3.heap.size := ⟨_, rfl⟩
  obtain ⟨x1, hv⟩ : ∃ v', v' = w3.alloc (.cells #[.int .i64 ma, .slice A da.length C] 26) := ⟨_, rfl⟩
  rw [← hv, ← hG]
  have hbv : Below w3.heap.size w3 x1 := by rw [hv]; exact (Below.refl _ _).alloc (Nat.le_refl _) _
  have gG : Bx x1 G 26 #[.int .i64 ma, .slice A da.length C] := by rw [hv, hG]; exact Bx.new _ _ _
  have hBG : B < G := by omega
  have hbz := hbu.size
  replace oa := ((oa.below hbv).wide (lo' := s + 1) (hi' := G) (by omega) (by omega))
  replace br := br.below hbv
  replace bq := bq.below hbv
  replace bp := bp.below hbv
  replace bB := bB.below hbv
  replace hbu := hbu.trans (hbv.mono hbz)
  have hsx := hs3.lo hbv (by omega)
  have hGv := gG.lt
  clear hv hbv hs3 hG hbz
  refine (bentReg_any s _ x1 hsx (by omega)).mono ?_
  rintro e w4 ⟨mb, db, A2, C2, rfl, hrb, ob, ht4, hs4⟩
  have HRB := Lib.hid hrb
  have hl4 := ht4.size
  replace bB := bB.touch ht4 (by omega)
  replace gG := gG.touch ht4 (by omega)
  replace oa := oa.touch ht4 (.inr (by omega))
  replace br := br.touch ht4 (by omega)
  replace bq := bq.touch ht4 (by omega)
  replace bp := bp.touch ht4 (by omega)
  replace hbu := hbu.trans (ht4.below (by have := HR.out; omega) (by have := HR.out; omega))
  clear ht4 hsx hrb
  go_wp2_with fail
  obtain ⟨H, hH⟩ : ∃ G, G = w4.heap.size := ⟨_, rfl⟩
  obtain ⟨x2, hv⟩ : ∃ v', v' = w4.alloc (.cells #[.int .i64 mb, .slice A2 db.length C2] 26) := ⟨_, rfl⟩
  rw [← hv, ← hH]
  have hbv : Below w4.heap.size w4 x2 := by rw [hv]; exact (Below.refl _ _).alloc (Nat.le_refl _) _
  have gH : Bx x2 H 26 #[.int .i64 mb, .slice A2 db.length C2] := by rw [hv, hH]; exact Bx.new _ _ _
  have hGH : G < H := by omega
  have hbz := hbu.size
  replace oa := oa.below hbv
  replace ob := (ob.below hbv).wide (lo' := G) (hi' := x2.heap.size) (by omega) hbv.size
  replace br := br.below hbv
  replace bq := bq.below hbv
  replace bp := bp.below hbv
  replace bB := bB.below hbv
  replace gG := gG.below hbv
  replace hbu := hbu.trans (hbv.mono hbz)
  have hsy := hs4.lo hbv (by omega)
  have hHv := gH.lt
  clear hv hbv hs4 hH hbz
  refine (l05Ok_any B ki b T F x2 ⟨bB.at_ 0 rfl, bB.at_ 1 rfl, bB.at_ 2 rfl, bB.at_ 3 rfl⟩).mono ?_
  rintro e w4 ⟨rfl, k4, rfl⟩
  obtain ⟨w5, hw5⟩ : ∃ w5, w5 = x2.drewN k4 := ⟨_, rfl⟩
  have hz5 : w5.heap.size = x2.heap.size := by rw [hw5]; rfl
  have t45 : Touch s (s + 1) x2 w5 := by rw [hw5]; exact (Touch.refl _ _ _).drewN k4
  have b45 : Below x2.heap.size x2 w5 := by rw [hw5]; exact bel_drewN (Below.refl _ _) k4
  rw [← hw5]
  clear hw5
  replace bB := bB.touch t45 (by omega)
  replace gG := gG.touch t45 (by omega)
  replace gH := gH.touch t45 (by omega)
  replace br := br.touch t45 (by omega)
  replace bq := bq.touch t45 (by omega)
  replace bp := bp.touch t45 (by omega)
  replace oa := oa.touch t45 (.inr (by omega))
  replace ob := ob.touch t45 (.inr (by omega))
  have hwv : w.heap.size ≤ x2.heap.size := hbu.size
  replace hbu := hbu.trans (t45.below (by have := HR.out; omega) hwv)
  replace hsy := hsy.lo b45 (by omega)
  clear t45 b45 k4
  cases hok : drumB ki b T F with
  | false =>
    clear hok
    obtain ⟨m, hm⟩ : ∃ m, m = G := ⟨_, rfl⟩
    rw [← hm] at oa ob
    go_wp2_with fail
    go_upto_region 9 with fail
    refine wp_region_marked (fun w' => (Bx w' B 86 #[.int .i64 ki, .int .i64 b, .int .i64 T, .int .i64 F] ∧ Bx w' G 26 #[.int .i64 ma, .slice A da.length C] ∧ Bx w' H 26 #[.int .i64 mb, .slice A2 db.length C2])) 7 (by kernel_rfl) ?_
    have hS : Bx w5.drew B 86 #[.int .i64 ki, .int .i64 b, .int .i64 T, .int .i64 F] ∧ Bx w5.drew G 26 #[.int .i64 ma, .slice A da.length C] ∧ Bx w5.drew H 26 #[.int .i64 mb, .slice A2 db.length C2] := ⟨bB.drew, gG.drew, gH.drew⟩
    have g0 : ∀ w', (Bx w' B 86 #[.int .i64 ki, .int .i64 b, .int .i64 T, .int .i64 F] ∧ Bx w' G 26 #[.int .i64 ma, .slice A da.length C] ∧ Bx w' H 26 #[.int .i64 mb, .slice A2 db.length C2]) → w'.cell? ⟨B, 0, none⟩ = some (.int .i64 ki) := fun w' h => h.1.at_ 0 rfl
    have g1 : ∀ w', (Bx w' B 86 #[.int .i64 ki, .int .i64 b, .int .i64 T, .int .i64 F] ∧ Bx w' G 26 #[.int .i64 ma, .slice A da.length C] ∧ Bx w' H 26 #[.int .i64 mb, .slice A2 db.length C2]) → w'.cell? ⟨B, 1, none⟩ = some (.int .i64 b) := fun w' h => h.1.at_ 1 rfl
    have g2 : ∀ w', (Bx w' B 86 #[.int .i64 ki, .int .i64 b, .int .i64 T, .int .i64 F] ∧ Bx w' G 26 #[.int .i64 ma, .slice A da.length C] ∧ Bx w' H 26 #[.int .i64 mb, .slice A2 db.length C2]) → w'.cell? ⟨B, 2, none⟩ = some (.int .i64 T) := fun w' h => h.1.at_ 2 rfl
    have g3 : ∀ w', (Bx w' B 86 #[.int .i64 ki, .int .i64 b, .int .i64 T, .int .i64 F] ∧ Bx w' G 26 #[.int .i64 ma, .slice A da.length C] ∧ Bx w' H 26 #[.int .i64 mb, .slice A2 db.length C2]) → w'.cell? ⟨B, 3, none⟩ = some (.int .i64 F) := fun w' h => h.1.at_ 3 rfl
    have g4 : ∀ w', (Bx w' B 86 #[.int .i64 ki, .int .i64 b, .int .i64 T, .int .i64 F] ∧ Bx w' G 26 #[.int .i64 ma, .slice A da.length C] ∧ Bx w' H 26 #[.int .i64 mb, .slice A2 db.length C2]) → w'.cell? ⟨G, 0, none⟩ = some (.int .i64 ma) := fun w' h => h.2.1.at_ 0 rfl
    have g5 : ∀ w', (Bx w' B 86 #[.int .i64 ki, .int .i64 b, .int .i64 T, .int .i64 F] ∧ Bx w' G 26 #[.int .i64 ma, .slice A da.length C] ∧ Bx w' H 26 #[.int .i64 mb, .slice A2 db.length C2]) → w'.cell? ⟨G, 1, none⟩ = some (.slice A da.length C) := fun w' h => h.2.1.at_ 1 rfl
    have g6 : ∀ w', (Bx w' B 86 #[.int .i64 ki, .int .i64 b, .int .i64 T, .int .i64 F] ∧ Bx w' G 26 #[.int .i64 ma, .slice A da.length C] ∧ Bx w' H 26 #[.int .i64 mb, .slice A2 db.length C2]) → w'.cell? ⟨H, 0, none⟩ = some (.int .i64 mb) := fun w' h => h.2.2.at_ 0 rfl
    have g7 : ∀ w', (Bx w' B 86 #[.int .i64 ki, .int .i64 b, .int .i64 T, .int .i64 F] ∧ Bx w' G 26 #[.int .i64 ma, .slice A da.length C] ∧ Bx w' H 26 #[.int .i64 mb, .slice A2 db.length C2]) → w'.cell? ⟨H, 1, none⟩ = some (.slice A2 db.length C2) := fun w' h => h.2.2.at_ 1 rfl
    refine wpAnyM_take (i := 0) (v := ?_) rfl (by kernel_rfl) (by kernel_rfl) (by kernel_rfl) (by kernel_rfl) (by kernel_rfl) (fun _ _ _ h => h) hS (.inl ⟨by rfl, ?_⟩) ?_
    rotate_left 1
    · intro w' hS'; go_simp; try with_reducible rfl
    simp only [Act.put, List.setIfInBounds_toArray]
    refine wpAnyM_take (i := 1) (v := ?_) rfl (by kernel_rfl) (by kernel_rfl) (by kernel_rfl) (by kernel_rfl) (by kernel_rfl) (fun _ _ _ h => h) hS (.inl ⟨by rfl, ?_⟩) ?_
    rotate_left 1
    · intro w' hS'; go_simp; try with_reducible rfl
    simp only [Act.put]
    refine wpAnyM_take (i := 2) (v := ?_) rfl (by kernel_rfl) (by kernel_rfl) (by kernel_rfl) (by kernel_rfl) (by kernel_rfl) (fun _ _ _ h => h) hS (.inl ⟨by rfl, ?_⟩) ?_
    rotate_left 1
    · intro w' hS'; go_simp; try with_reducible rfl
    simp only [Act.put]
    clear g0 g1 g2 g3 g4 g5 g6 g7
    refine wpAnyM_one (i := 3) (by kernel_rfl) rfl (by rfl) (fun K hK => ?_)
    go_simp
    refine hK _ _ (.inr hS) ?_
    try simp only [Act.put, List.setIfInBounds_toArray]
    clear hK K
    refine wpAnyM_one (i := 4) (by kernel_rfl) rfl (by rfl) (fun K hK => ?_)
    go_simp
    refine (clock_any s _ w5.drew (hsy.lo (L := w5.heap.size) ((Below.refl _ _).drew) (by omega)) (by omega)).mono ?_
    rintro e wv ⟨t, rfl, hti, htv, hsv⟩
    have HTI := Lib.hid (show I64 t from mid64 (by omega) (by omega))
    have twv : Touch s (s + 1) w5 wv := ((Touch.refl _ _ _).drewN 1).trans htv
    have hlv := twv.size
    replace hS := And.intro (hS.1.touch htv (by omega)) (And.intro (hS.2.1.touch htv (by omega)) (hS.2.2.touch htv (by omega)))
    refine hK _ _ (.inr hS) ?_
    try simp only [Act.put, List.setIfInBounds_toArray]
    clear hK K htv hsv hti
    have hHw := gH.lt
    replace br := br.touch twv (by omega)
    replace bq := bq.touch twv (by omega)
    replace bp := bp.touch twv (by omega)
    replace oa := oa.touch twv (.inr (by omega))
    replace ob := ob.touch twv (.inr (by omega))
    have hwb := hbu.size
    replace hbu := hbu.trans (twv.below (by have := HR.out; omega) hwb)
    have c0 := br.at_ 0 rfl
    have c1 := br.at_ 1 rfl
    have c2 := br.at_ 2 rfl
    have c3 := br.at_ 3 rfl
    have fc0 := br.thaw 0
    have fc1 := br.thaw 1
    have fc2 := br.thaw 2
    have fc3 := br.thaw 3
    have t1 : Touch r (r + 1) wv ((((wv.setCell ⟨r, 0, none⟩ (.int .i64 ki)).setCell ⟨r, 1, none⟩ (.int .i64 b)).setCell ⟨r, 2, none⟩ (.int .i64 T)).setCell ⟨r, 3, none⟩ (.int .i64 F)) := (((((Touch.refl _ _ _).setCell (by simp) (by simp) _).setCell (by simp) (by simp) _).setCell (by simp) (by simp) _).setCell (by simp) (by simp) _)
    have q1 := bq.touch t1 (by omega)
    have k0 := q1.at_ 0 rfl
    have k1 := q1.at_ 1 rfl
    have fk0 := q1.thaw 0
    have fk1 := q1.thaw 1
    have t2 : Touch (r + 1) (r + 2) ((((wv.setCell ⟨r, 0, none⟩ (.int .i64 ki)).setCell ⟨r, 1, none⟩ (.int .i64 b)).setCell ⟨r, 2, none⟩ (.int .i64 T)).setCell ⟨r, 3, none⟩ (.int .i64 F)) ((((((wv.setCell ⟨r, 0, none⟩ (.int .i64 ki)).setCell ⟨r, 1, none⟩ (.int .i64 b)).setCell ⟨r, 2, none⟩ (.int .i64 T)).setCell ⟨r, 3, none⟩ (.int .i64 F)).setCell ⟨r + 1, 0, none⟩ (.int .i64 ma)).setCell ⟨r + 1, 1, none⟩ (.slice A da.length C)) := ((Touch.refl _ _ _).setCell (by simp) (by simp) _).setCell (by simp) (by simp) _
    have q2 := (bp.touch t1 (by omega)).touch t2 (by omega)
    have j0 := q2.at_ 0 rfl
    have j1 := q2.at_ 1 rfl
    have fj0 := q2.thaw 0
    have fj1 := q2.thaw 1
    have t3 : Touch (r + 2) (r + 3) ((((((wv.setCell ⟨r, 0, none⟩ (.int .i64 ki)).setCell ⟨r, 1, none⟩ (.int .i64 b)).setCell ⟨r, 2, none⟩ (.int .i64 T)).setCell ⟨r, 3, none⟩ (.int .i64 F)).setCell ⟨r + 1, 0, none⟩ (.int .i64 ma)).setCell ⟨r + 1, 1, none⟩ (.slice A da.length C)) ((((((((wv.setCell ⟨r, 0, none⟩ (.int .i64 ki)).setCell ⟨r, 1, none⟩ (.int .i64 b)).setCell ⟨r, 2, none⟩ (.int .i64 T)).setCell ⟨r, 3, none⟩ (.int .i64 F)).setCell ⟨r + 1, 0, none⟩ (.int .i64 ma)).setCell ⟨r + 1, 1, none⟩ (.slice A da.length C)).setCell ⟨r + 2, 0, none⟩ (.int .i64 mb)).setCell ⟨r + 2, 1, none⟩ (.slice A2 db.length C2)) := ((Touch.refl _ _ _).setCell (by simp) (by simp) _).setCell (by simp) (by simp) _
    have b0r := ((((br.set_ 0 (.int .i64 ki)).set_ 1 (.int .i64 b)).set_ 2 (.int .i64 T)).set_ 3 (.int .i64 F))
    have r9 := Lib.hid ((b0r.touch t2 (by omega)).touch t3 (by omega))
    have q9 := Lib.hid (((q1.set_ 0 (.int .i64 ma)).set_ 1 (.slice A da.length C)).touch t3 (by omega))
    have p9 := Lib.hid ((q2.set_ 0 (.int .i64 mb)).set_ 1 (.slice A2 db.length C2))
    have HS1 := Lib.hid (show Bx ((((wv.setCell ⟨r, 0, none⟩ (.int .i64 ki)).setCell ⟨r, 1, none⟩ (.int .i64 b)).setCell ⟨r, 2, none⟩ (.int .i64 T)).setCell ⟨r, 3, none⟩ (.int .i64 F)) B 86 #[.int .i64 ki, .int .i64 b, .int .i64 T, .int .i64 F] ∧ Bx ((((wv.setCell ⟨r, 0, none⟩ (.int .i64 ki)).setCell ⟨r, 1, none⟩ (.int .i64 b)).setCell ⟨r, 2, none⟩ (.int .i64 T)).setCell ⟨r, 3, none⟩ (.int .i64 F)) G 26 #[.int .i64 ma, .slice A da.length C] ∧ Bx ((((wv.setCell ⟨r, 0, none⟩ (.int .i64 ki)).setCell ⟨r, 1, none⟩ (.int .i64 b)).setCell ⟨r, 2, none⟩ (.int .i64 T)).setCell ⟨r, 3, none⟩ (.int .i64 F)) H 26 #[.int .i64 mb, .slice A2 db.length C2] from ⟨hS.1.touch t1 (by omega), hS.2.1.touch t1 (by omega), hS.2.2.touch t1 (by omega)⟩)
    have HS2 := Lib.hid (show Bx ((((((wv.setCell ⟨r, 0, none⟩ (.int .i64 ki)).setCell ⟨r, 1, none⟩ (.int .i64 b)).setCell ⟨r, 2, none⟩ (.int .i64 T)).setCell ⟨r, 3, none⟩ (.int .i64 F)).setCell ⟨r + 1, 0, none⟩ (.int .i64 ma)).setCell ⟨r + 1, 1, none⟩ (.slice A da.length C)) B 86 #[.int .i64 ki, .int .i64 b, .int .i64 T, .int .i64 F] ∧ Bx ((((((wv.setCell ⟨r, 0, none⟩ (.int .i64 ki)).setCell ⟨r, 1, none⟩ (.int .i64 b)).setCell ⟨r, 2, none⟩ (.int .i64 T)).setCell ⟨r, 3, none⟩ (.int .i64 F)).setCell ⟨r + 1, 0, none⟩ (.int .i64 ma)).setCell ⟨r + 1, 1, none⟩ (.slice A da.length C)) G 26 #[.int .i64 ma, .slice A da.length C] ∧ Bx ((((((wv.setCell ⟨r, 0, none⟩ (.int .i64 ki)).setCell ⟨r, 1, none⟩ (.int .i64 b)).setCell ⟨r, 2, none⟩ (.int .i64 T)).setCell ⟨r, 3, none⟩ (.int .i64 F)).setCell ⟨r + 1, 0, none⟩ (.int .i64 ma)).setCell ⟨r + 1, 1, none⟩ (.slice A da.length C)) H 26 #[.int .i64 mb, .slice A2 db.length C2] from ⟨HS1.out.1.touch t2 (by omega), HS1.out.2.1.touch t2 (by omega), HS1.out.2.2.touch t2 (by omega)⟩)
    have z1 : ((((wv.setCell ⟨r, 0, none⟩ (.int .i64 ki)).setCell ⟨r, 1, none⟩ (.int .i64 b)).setCell ⟨r, 2, none⟩ (.int .i64 T)).setCell ⟨r, 3, none⟩ (.int .i64 F)).heap.size = wv.heap.size := by simp
    have z2 : ((((((wv.setCell ⟨r, 0, none⟩ (.int .i64 ki)).setCell ⟨r, 1, none⟩ (.int .i64 b)).setCell ⟨r, 2, none⟩ (.int .i64 T)).setCell ⟨r, 3, none⟩ (.int .i64 F)).setCell ⟨r + 1, 0, none⟩ (.int .i64 ma)).setCell ⟨r + 1, 1, none⟩ (.slice A da.length C)).heap.size = wv.heap.size := by simp
    have z3 : ((((((((wv.setCell ⟨r, 0, none⟩ (.int .i64 ki)).setCell ⟨r, 1, none⟩ (.int .i64 b)).setCell ⟨r, 2, none⟩ (.int .i64 T)).setCell ⟨r, 3, none⟩ (.int .i64 F)).setCell ⟨r + 1, 0, none⟩ (.int .i64 ma)).setCell ⟨r + 1, 1, none⟩ (.slice A da.length C)).setCell ⟨r + 2, 0, none⟩ (.int .i64 mb)).setCell ⟨r + 2, 1, none⟩ (.slice A2 db.length C2)).heap.size = wv.heap.size := by simp
    have hwv := hbu.size
    have HB := Lib.hid (((hbu.trans (t1.below (by have := HR.out; omega) (by omega))).trans (t2.below (by have := HR.out; omega) (by omega))).trans (t3.below (by have := HR.out; omega) (by omega)))
    have HO1 := Lib.hid (((((oa.touch t1 (.inr (by omega))).touch t2 (.inr (by omega))).touch t3 (.inr (by omega)))).wide (lo' := w.heap.size) (hi' := m) (by have := HR.out; omega) (by omega))
    have HO2 := Lib.hid (((((ob.touch t1 (.inr (by omega))).touch t2 (.inr (by omega))).touch t3 (.inr (by omega)))).wide (lo' := m) (hi' := ((((((((wv.setCell ⟨r, 0, none⟩ (.int .i64 ki)).setCell ⟨r, 1, none⟩ (.int .i64 b)).setCell ⟨r, 2, none⟩ (.int .i64 T)).setCell ⟨r, 3, none⟩ (.int .i64 F)).setCell ⟨r + 1, 0, none⟩ (.int .i64 ma)).setCell ⟨r + 1, 1, none⟩ (.slice A da.length C)).setCell ⟨r + 2, 0, none⟩ (.int .i64 mb)).setCell ⟨r + 2, 1, none⟩ (.slice A2 db.length C2)).heap.size) (by omega) (by omega))
    have HM := Lib.hid (show w.heap.size ≤ m ∧ m ≤ ((((((((wv.setCell ⟨r, 0, none⟩ (.int .i64 ki)).setCell ⟨r, 1, none⟩ (.int .i64 b)).setCell ⟨r, 2, none⟩ (.int .i64 T)).setCell ⟨r, 3, none⟩ (.int .i64 F)).setCell ⟨r + 1, 0, none⟩ (.int .i64 ma)).setCell ⟨r + 1, 1, none⟩ (.slice A da.length C)).setCell ⟨r + 2, 0, none⟩ (.int .i64 mb)).setCell ⟨r + 2, 1, none⟩ (.slice A2 db.length C2)).heap.size from ⟨by have := HR.out; omega, by omega⟩)
    clear t1 t2 t3 z1 z2 z3 q1 q2 hS bB gG gH br bq bp oa ob hbu b0r twv hsy
    refine wpAnyM_one (i := 5) (by kernel_rfl) rfl (by rfl) (fun K hK => ?_)
    go_simp
    refine hK _ _ (.inr HS1.out) ?_
    try simp only [Act.put, List.setIfInBounds_toArray]
    clear hK K HS1 c0 c1 c2 c3 fc0 fc1 fc2 fc3
    refine wpAnyM_one (i := 6) (by kernel_rfl) rfl (by rfl) (fun K hK => ?_)
    go_simp
    refine hK _ _ (.inr HS2.out) ?_
    try simp only [Act.put, List.setIfInBounds_toArray]
    clear hK K HS2 k0 k1 fk0 fk1
    refine wpAnyM_one (i := 7) (by kernel_rfl) rfl (by rfl) (fun K hK => ?_)
    go_simp
    refine hK _ _ (.inl rfl) ?_
    try simp only [Act.put, List.setIfInBounds_toArray]
    clear hK K j0 j1 fj0 fj1
    refine wpAnyM_one (i := 8) (by kernel_rfl) rfl (by rfl) (fun K hK => ?_)
    go_simp
    refine hK _ _ (.inl rfl) ?_
    clear hK K
    refine wpAnyM_done (by kernel_rfl) ?_ _
    have p0 := r9.out.at_ 0 rfl
    have p1 := r9.out.at_ 1 rfl
    have p2 := r9.out.at_ 2 rfl
    have p3 := r9.out.at_ 3 rfl
    have p4 := q9.out.at_ 0 rfl
    have p5 := q9.out.at_ 1 rfl
    have p6 := p9.out.at_ 0 rfl
    have p7 := p9.out.at_ 1 rfl
    obtain ⟨wz, hwz⟩ : ∃ wz, wz = ((((((((wv.setCell ⟨r, 0, none⟩ (.int .i64 ki)).setCell ⟨r, 1, none⟩ (.int .i64 b)).setCell ⟨r, 2, none⟩ (.int .i64 T)).setCell ⟨r, 3, none⟩ (.int .i64 F)).setCell ⟨r + 1, 0, none⟩ (.int .i64 ma)).setCell ⟨r + 1, 1, none⟩ (.slice A da.length C)).setCell ⟨r + 2, 0, none⟩ (.int .i64 mb)).setCell ⟨r + 2, 1, none⟩ (.slice A2 db.length C2)) := ⟨_, rfl⟩
    rw [← hwz] at p0 p1 p2 p3 p4 p5 p6 p7 HB HO1 HO2 HM ⊢
    clear hwz r9 q9 p9
    go_wp2
    refine bodyPost_ret (v := .tuple #[.agg #[.int .i64 ki, .int .i64 b, .int .i64 T, .int .i64 F], .agg #[.int .i64 ma, .slice A da.length C], .agg #[.int .i64 mb, .slice A2 db.length C2], .int .i64 t]) (by simp [results, Try.results67, go_sem, p0, p1, p2, p3, p4, p5, p6, p7]) rfl ?_
    exact ⟨ki, b, T, F, ma, da, A, C, mb, db, A2, C2, t, m, rfl, HD.out, HRA.out, HRB.out, HTI.out, HO1.out, HO2.out, HM.out, HB.out⟩
  | true =>
    go_wp2_with fail
    refine (one_any s _ 8 w5 hsy (by omega) (by omega)).mono ?_
    rintro e w6 ⟨x, rfl, hs6, ht6⟩
    have hl6 := ht6.size
    replace bB := bB.touch ht6 (by omega)
    replace gG := gG.touch ht6 (by omega)
    replace gH := gH.touch ht6 (by omega)
    replace br := br.touch ht6 (by omega)
    replace bq := bq.touch ht6 (by omega)
    replace bp := bp.touch ht6 (by omega)
    replace oa := oa.touch ht6 (.inr (by omega))
    replace ob := ob.touch ht6 (.inr (by omega))
    replace hbu := hbu.trans (ht6.below (by have := HR.out; omega) (by omega))
    clear ht6 hsy
    have hsy := hs6
    clear hs6
    cases x with
    | true =>
      clear hok
      obtain ⟨m, hm⟩ : ∃ m, m = G := ⟨_, rfl⟩
      rw [← hm] at oa ob
      go_wp2_with fail
      go_upto_region 9 with fail
      refine wp_region_marked (fun w' => (Bx w' B 86 #[.int .i64 ki, .int .i64 b, .int .i64 T, .int .i64 F] ∧ Bx w' G 26 #[.int .i64 ma, .slice A da.length C] ∧ Bx w' H 26 #[.int .i64 mb, .slice A2 db.length C2])) 7 (by kernel_rfl) ?_
      have hS : Bx w6.drew B 86 #[.int .i64 ki, .int .i64 b, .int .i64 T, .int .i64 F] ∧ Bx w6.drew G 26 #[.int .i64 ma, .slice A da.length C] ∧ Bx w6.drew H 26 #[.int .i64 mb, .slice A2 db.length C2] := ⟨bB.drew, gG.drew, gH.drew⟩
      have g0 : ∀ w', (Bx w' B 86 #[.int .i64 ki, .int .i64 b, .int .i64 T, .int .i64 F] ∧ Bx w' G 26 #[.int .i64 ma, .slice A da.length C] ∧ Bx w' H 26 #[.int .i64 mb, .slice A2 db.length C2]) → w'.cell? ⟨B, 0, none⟩ = some (.int .i64 ki) := fun w' h => h.1.at_ 0 rfl
      have g1 : ∀ w', (Bx w' B 86 #[.int .i64 ki, .int .i64 b, .int .i64 T, .int .i64 F] ∧ Bx w' G 26 #[.int .i64 ma, .slice A da.length C] ∧ Bx w' H 26 #[.int .i64 mb, .slice A2 db.length C2]) → w'.cell? ⟨B, 1, none⟩ = some (.int .i64 b) := fun w' h => h.1.at_ 1 rfl
      have g2 : ∀ w', (Bx w' B 86 #[.int .i64 ki, .int .i64 b, .int .i64 T, .int .i64 F] ∧ Bx w' G 26 #[.int .i64 ma, .slice A da.length C] ∧ Bx w' H 26 #[.int .i64 mb, .slice A2 db.length C2]) → w'.cell? ⟨B, 2, none⟩ = some (.int .i64 T) := fun w' h => h.1.at_ 2 rfl
      have g3 : ∀ w', (Bx w' B 86 #[.int .i64 ki, .int .i64 b, .int .i64 T, .int .i64 F] ∧ Bx w' G 26 #[.int .i64 ma, .slice A da.length C] ∧ Bx w' H 26 #[.int .i64 mb, .slice A2 db.length C2]) → w'.cell? ⟨B, 3, none⟩ = some (.int .i64 F) := fun w' h => h.1.at_ 3 rfl
      have g4 : ∀ w', (Bx w' B 86 #[.int .i64 ki, .int .i64 b, .int .i64 T, .int .i64 F] ∧ Bx w' G 26 #[.int .i64 ma, .slice A da.length C] ∧ Bx w' H 26 #[.int .i64 mb, .slice A2 db.length C2]) → w'.cell? ⟨G, 0, none⟩ = some (.int .i64 ma) := fun w' h => h.2.1.at_ 0 rfl
      have g5 : ∀ w', (Bx w' B 86 #[.int .i64 ki, .int .i64 b, .int .i64 T, .int .i64 F] ∧ Bx w' G 26 #[.int .i64 ma, .slice A da.length C] ∧ Bx w' H 26 #[.int .i64 mb, .slice A2 db.length C2]) → w'.cell? ⟨G, 1, none⟩ = some (.slice A da.length C) := fun w' h => h.2.1.at_ 1 rfl
      have g6 : ∀ w', (Bx w' B 86 #[.int .i64 ki, .int .i64 b, .int .i64 T, .int .i64 F] ∧ Bx w' G 26 #[.int .i64 ma, .slice A da.length C] ∧ Bx w' H 26 #[.int .i64 mb, .slice A2 db.length C2]) → w'.cell? ⟨H, 0, none⟩ = some (.int .i64 mb) := fun w' h => h.2.2.at_ 0 rfl
      have g7 : ∀ w', (Bx w' B 86 #[.int .i64 ki, .int .i64 b, .int .i64 T, .int .i64 F] ∧ Bx w' G 26 #[.int .i64 ma, .slice A da.length C] ∧ Bx w' H 26 #[.int .i64 mb, .slice A2 db.length C2]) → w'.cell? ⟨H, 1, none⟩ = some (.slice A2 db.length C2) := fun w' h => h.2.2.at_ 1 rfl
      refine wpAnyM_take (i := 0) (v := ?_) rfl (by kernel_rfl) (by kernel_rfl) (by kernel_rfl) (by kernel_rfl) (by kernel_rfl) (fun _ _ _ h => h) hS (.inl ⟨by rfl, ?_⟩) ?_
      rotate_left 1
      · intro w' hS'; go_simp; try with_reducible rfl
      simp only [Act.put, List.setIfInBounds_toArray]
      refine wpAnyM_take (i := 1) (v := ?_) rfl (by kernel_rfl) (by kernel_rfl) (by kernel_rfl) (by kernel_rfl) (by kernel_rfl) (fun _ _ _ h => h) hS (.inl ⟨by rfl, ?_⟩) ?_
      rotate_left 1
      · intro w' hS'; go_simp; try with_reducible rfl
      simp only [Act.put]
      refine wpAnyM_take (i := 2) (v := ?_) rfl (by kernel_rfl) (by kernel_rfl) (by kernel_rfl) (by kernel_rfl) (by kernel_rfl) (fun _ _ _ h => h) hS (.inl ⟨by rfl, ?_⟩) ?_
      rotate_left 1
      · intro w' hS'; go_simp; try with_reducible rfl
      simp only [Act.put]
      clear g0 g1 g2 g3 g4 g5 g6 g7
      refine wpAnyM_one (i := 3) (by kernel_rfl) rfl (by rfl) (fun K hK => ?_)
      go_simp
      refine hK _ _ (.inr hS) ?_
      try simp only [Act.put, List.setIfInBounds_toArray]
      clear hK K
      refine wpAnyM_one (i := 4) (by kernel_rfl) rfl (by rfl) (fun K hK => ?_)
      go_simp
      refine (clock_any s _ w6.drew (hsy.lo (L := w6.heap.size) ((Below.refl _ _).drew) (by omega)) (by omega)).mono ?_
      rintro e wv ⟨t, rfl, hti, htv, hsv⟩
      have HTI := Lib.hid (show I64 t from mid64 (by omega) (by omega))
      have twv : Touch s (s + 1) w6 wv := ((Touch.refl _ _ _).drewN 1).trans htv
      have hlv := twv.size
      replace hS := And.intro (hS.1.touch htv (by omega)) (And.intro (hS.2.1.touch htv (by omega)) (hS.2.2.touch htv (by omega)))
      refine hK _ _ (.inr hS) ?_
      try simp only [Act.put, List.setIfInBounds_toArray]
      clear hK K htv hsv hti
      have hHw := gH.lt
      replace br := br.touch twv (by omega)
      replace bq := bq.touch twv (by omega)
      replace bp := bp.touch twv (by omega)
      replace oa := oa.touch twv (.inr (by omega))
      replace ob := ob.touch twv (.inr (by omega))
      have hwb := hbu.size
      replace hbu := hbu.trans (twv.below (by have := HR.out; omega) hwb)
      have c0 := br.at_ 0 rfl
      have c1 := br.at_ 1 rfl
      have c2 := br.at_ 2 rfl
      have c3 := br.at_ 3 rfl
      have fc0 := br.thaw 0
      have fc1 := br.thaw 1
      have fc2 := br.thaw 2
      have fc3 := br.thaw 3
      have t1 : Touch r (r + 1) wv ((((wv.setCell ⟨r, 0, none⟩ (.int .i64 ki)).setCell ⟨r, 1, none⟩ (.int .i64 b)).setCell ⟨r, 2, none⟩ (.int .i64 T)).setCell ⟨r, 3, none⟩ (.int .i64 F)) := (((((Touch.refl _ _ _).setCell (by simp) (by simp) _).setCell (by simp) (by simp) _).setCell (by simp) (by simp) _).setCell (by simp) (by simp) _)
      have q1 := bq.touch t1 (by omega)
      have k0 := q1.at_ 0 rfl
      have k1 := q1.at_ 1 rfl
      have fk0 := q1.thaw 0
      have fk1 := q1.thaw 1
      have t2 : Touch (r + 1) (r + 2) ((((wv.setCell ⟨r, 0, none⟩ (.int .i64 ki)).setCell ⟨r, 1, none⟩ (.int .i64 b)).setCell ⟨r, 2, none⟩ (.int .i64 T)).setCell ⟨r, 3, none⟩ (.int .i64 F)) ((((((wv.setCell ⟨r, 0, none⟩ (.int .i64 ki)).setCell ⟨r, 1, none⟩ (.int .i64 b)).setCell ⟨r, 2, none⟩ (.int .i64 T)).setCell ⟨r, 3, none⟩ (.int .i64 F)).setCell ⟨r + 1, 0, none⟩ (.int .i64 ma)).setCell ⟨r + 1, 1, none⟩ (.slice A da.length C)) := ((Touch.refl _ _ _).setCell (by simp) (by simp) _).setCell (by simp) (by simp) _
      have q2 := (bp.touch t1 (by omega)).touch t2 (by omega)
      have j0 := q2.at_ 0 rfl
      have j1 := q2.at_ 1 rfl
      have fj0 := q2.thaw 0
      have fj1 := q2.thaw 1
      have t3 : Touch (r + 2) (r + 3) ((((((wv.setCell ⟨r, 0, none⟩ (.int .i64 ki)).setCell ⟨r, 1, none⟩ (.int .i64 b)).setCell ⟨r, 2, none⟩ (.int .i64 T)).setCell ⟨r, 3, none⟩ (.int .i64 F)).setCell ⟨r + 1, 0, none⟩ (.int .i64 ma)).setCell ⟨r + 1, 1, none⟩ (.slice A da.length C)) ((((((((wv.setCell ⟨r, 0, none⟩ (.int .i64 ki)).setCell ⟨r, 1, none⟩ (.int .i64 b)).setCell ⟨r, 2, none⟩ (.int .i64 T)).setCell ⟨r, 3, none⟩ (.int .i64 F)).setCell ⟨r + 1, 0, none⟩ (.int .i64 ma)).setCell ⟨r + 1, 1, none⟩ (.slice A da.length C)).setCell ⟨r + 2, 0, none⟩ (.int .i64 mb)).setCell ⟨r + 2, 1, none⟩ (.slice A2 db.length C2)) := ((Touch.refl _ _ _).setCell (by simp) (by simp) _).setCell (by simp) (by simp) _
      have b0r := ((((br.set_ 0 (.int .i64 ki)).set_ 1 (.int .i64 b)).set_ 2 (.int .i64 T)).set_ 3 (.int .i64 F))
      have r9 := Lib.hid ((b0r.touch t2 (by omega)).touch t3 (by omega))
      have q9 := Lib.hid (((q1.set_ 0 (.int .i64 ma)).set_ 1 (.slice A da.length C)).touch t3 (by omega))
      have p9 := Lib.hid ((q2.set_ 0 (.int .i64 mb)).set_ 1 (.slice A2 db.length C2))
      have HS1 := Lib.hid (show Bx ((((wv.setCell ⟨r, 0, none⟩ (.int .i64 ki)).setCell ⟨r, 1, none⟩ (.int .i64 b)).setCell ⟨r, 2, none⟩ (.int .i64 T)).setCell ⟨r, 3, none⟩ (.int .i64 F)) B 86 #[.int .i64 ki, .int .i64 b, .int .i64 T, .int .i64 F] ∧ Bx ((((wv.setCell ⟨r, 0, none⟩ (.int .i64 ki)).setCell ⟨r, 1, none⟩ (.int .i64 b)).setCell ⟨r, 2, none⟩ (.int .i64 T)).setCell ⟨r, 3, none⟩ (.int .i64 F)) G 26 #[.int .i64 ma, .slice A da.length C] ∧ Bx ((((wv.setCell ⟨r, 0, none⟩ (.int .i64 ki)).setCell ⟨r, 1, none⟩ (.int .i64 b)).setCell ⟨r, 2, none⟩ (.int .i64 T)).setCell ⟨r, 3, none⟩ (.int .i64 F)) H 26 #[.int .i64 mb, .slice A2 db.length C2] from ⟨hS.1.touch t1 (by omega), hS.2.1.touch t1 (by omega), hS.2.2.touch t1 (by omega)⟩)
      have HS2 := Lib.hid (show Bx ((((((wv.setCell ⟨r, 0, none⟩ (.int .i64 ki)).setCell ⟨r, 1, none⟩ (.int .i64 b)).setCell ⟨r, 2, none⟩ (.int .i64 T)).setCell ⟨r, 3, none⟩ (.int .i64 F)).setCell ⟨r + 1, 0, none⟩ (.int .i64 ma)).setCell ⟨r + 1, 1, none⟩ (.slice A da.length C)) B 86 #[.int .i64 ki, .int .i64 b, .int .i64 T, .int .i64 F] ∧ Bx ((((((wv.setCell ⟨r, 0, none⟩ (.int .i64 ki)).setCell ⟨r, 1, none⟩ (.int .i64 b)).setCell ⟨r, 2, none⟩ (.int .i64 T)).setCell ⟨r, 3, none⟩ (.int .i64 F)).setCell ⟨r + 1, 0, none⟩ (.int .i64 ma)).setCell ⟨r + 1, 1, none⟩ (.slice A da.length C)) G 26 #[.int .i64 ma, .slice A da.length C] ∧ Bx ((((((wv.setCell ⟨r, 0, none⟩ (.int .i64 ki)).setCell ⟨r, 1, none⟩ (.int .i64 b)).setCell ⟨r, 2, none⟩ (.int .i64 T)).setCell ⟨r, 3, none⟩ (.int .i64 F)).setCell ⟨r + 1, 0, none⟩ (.int .i64 ma)).setCell ⟨r + 1, 1, none⟩ (.slice A da.length C)) H 26 #[.int .i64 mb, .slice A2 db.length C2] from ⟨HS1.out.1.touch t2 (by omega), HS1.out.2.1.touch t2 (by omega), HS1.out.2.2.touch t2 (by omega)⟩)
      have z1 : ((((wv.setCell ⟨r, 0, none⟩ (.int .i64 ki)).setCell ⟨r, 1, none⟩ (.int .i64 b)).setCell ⟨r, 2, none⟩ (.int .i64 T)).setCell ⟨r, 3, none⟩ (.int .i64 F)).heap.size = wv.heap.size := by simp
      have z2 : ((((((wv.setCell ⟨r, 0, none⟩ (.int .i64 ki)).setCell ⟨r, 1, none⟩ (.int .i64 b)).setCell ⟨r, 2, none⟩ (.int .i64 T)).setCell ⟨r, 3, none⟩ (.int .i64 F)).setCell ⟨r + 1, 0, none⟩ (.int .i64 ma)).setCell ⟨r + 1, 1, none⟩ (.slice A da.length C)).heap.size = wv.heap.size := by simp
      have z3 : ((((((((wv.setCell ⟨r, 0, none⟩ (.int .i64 ki)).setCell ⟨r, 1, none⟩ (.int .i64 b)).setCell ⟨r, 2, none⟩ (.int .i64 T)).setCell ⟨r, 3, none⟩ (.int .i64 F)).setCell ⟨r + 1, 0, none⟩ (.int .i64 ma)).setCell ⟨r + 1, 1, none⟩ (.slice A da.length C)).setCell ⟨r + 2, 0, none⟩ (.int .i64 mb)).setCell ⟨r + 2, 1, none⟩ (.slice A2 db.length C2)).heap.size = wv.heap.size := by simp
      have hwv := hbu.size
      have HB := Lib.hid (((hbu.trans (t1.below (by have := HR.out; omega) (by omega))).trans (t2.below (by have := HR.out; omega) (by omega))).trans (t3.below (by have := HR.out; omega) (by omega)))
      have HO1 := Lib.hid (((((oa.touch t1 (.inr (by omega))).touch t2 (.inr (by omega))).touch t3 (.inr (by omega)))).wide (lo' := w.heap.size) (hi' := m) (by have := HR.out; omega) (by omega))
      have HO2 := Lib.hid (((((ob.touch t1 (.inr (by omega))).touch t2 (.inr (by omega))).touch t3 (.inr (by omega)))).wide (lo' := m) (hi' := ((((((((wv.setCell ⟨r, 0, none⟩ (.int .i64 ki)).setCell ⟨r, 1, none⟩ (.int .i64 b)).setCell ⟨r, 2, none⟩ (.int .i64 T)).setCell ⟨r, 3, none⟩ (.int .i64 F)).setCell ⟨r + 1, 0, none⟩ (.int .i64 ma)).setCell ⟨r + 1, 1, none⟩ (.slice A da.length C)).setCell ⟨r + 2, 0, none⟩ (.int .i64 mb)).setCell ⟨r + 2, 1, none⟩ (.slice A2 db.length C2)).heap.size) (by omega) (by omega))
      have HM := Lib.hid (show w.heap.size ≤ m ∧ m ≤ ((((((((wv.setCell ⟨r, 0, none⟩ (.int .i64 ki)).setCell ⟨r, 1, none⟩ (.int .i64 b)).setCell ⟨r, 2, none⟩ (.int .i64 T)).setCell ⟨r, 3, none⟩ (.int .i64 F)).setCell ⟨r + 1, 0, none⟩ (.int .i64 ma)).setCell ⟨r + 1, 1, none⟩ (.slice A da.length C)).setCell ⟨r + 2, 0, none⟩ (.int .i64 mb)).setCell ⟨r + 2, 1, none⟩ (.slice A2 db.length C2)).heap.size from ⟨by have := HR.out; omega, by omega⟩)
      clear t1 t2 t3 z1 z2 z3 q1 q2 hS bB gG gH br bq bp oa ob hbu b0r twv hsy
      refine wpAnyM_one (i := 5) (by kernel_rfl) rfl (by rfl) (fun K hK => ?_)
      go_simp
      refine hK _ _ (.inr HS1.out) ?_
      try simp only [Act.put, List.setIfInBounds_toArray]
      clear hK K HS1 c0 c1 c2 c3 fc0 fc1 fc2 fc3
      refine wpAnyM_one (i := 6) (by kernel_rfl) rfl (by rfl) (fun K hK => ?_)
      go_simp
      refine hK _ _ (.inr HS2.out) ?_
      try simp only [Act.put, List.setIfInBounds_toArray]
      clear hK K HS2 k0 k1 fk0 fk1
      refine wpAnyM_one (i := 7) (by kernel_rfl) rfl (by rfl) (fun K hK => ?_)
      go_simp
      refine hK _ _ (.inl rfl) ?_
      try simp only [Act.put, List.setIfInBounds_toArray]
      clear hK K j0 j1 fj0 fj1
      refine wpAnyM_one (i := 8) (by kernel_rfl) rfl (by rfl) (fun K hK => ?_)
      go_simp
      refine hK _ _ (.inl rfl) ?_
      clear hK K
      refine wpAnyM_done (by kernel_rfl) ?_ _
      have p0 := r9.out.at_ 0 rfl
      have p1 := r9.out.at_ 1 rfl
      have p2 := r9.out.at_ 2 rfl
      have p3 := r9.out.at_ 3 rfl
      have p4 := q9.out.at_ 0 rfl
      have p5 := q9.out.at_ 1 rfl
      have p6 := p9.out.at_ 0 rfl
      have p7 := p9.out.at_ 1 rfl
      obtain ⟨wz, hwz⟩ : ∃ wz, wz = ((((((((wv.setCell ⟨r, 0, none⟩ (.int .i64 ki)).setCell ⟨r, 1, none⟩ (.int .i64 b)).setCell ⟨r, 2, none⟩ (.int .i64 T)).setCell ⟨r, 3, none⟩ (.int .i64 F)).setCell ⟨r + 1, 0, none⟩ (.int .i64 ma)).setCell ⟨r + 1, 1, none⟩ (.slice A da.length C)).setCell ⟨r + 2, 0, none⟩ (.int .i64 mb)).setCell ⟨r + 2, 1, none⟩ (.slice A2 db.length C2)) := ⟨_, rfl⟩
      rw [← hwz] at p0 p1 p2 p3 p4 p5 p6 p7 HB HO1 HO2 HM ⊢
      clear hwz r9 q9 p9
      go_wp2
      refine bodyPost_ret (v := .tuple #[.agg #[.int .i64 ki, .int .i64 b, .int .i64 T, .int .i64 F], .agg #[.int .i64 ma, .slice A da.length C], .agg #[.int .i64 mb, .slice A2 db.length C2], .int .i64 t]) (by simp [results, Try.results67, go_sem, p0, p1, p2, p3, p4, p5, p6, p7]) rfl ?_
      exact ⟨ki, b, T, F, ma, da, A, C, mb, db, A2, C2, t, m, rfl, HD.out, HRA.out, HRB.out, HTI.out, HO1.out, HO2.out, HM.out, HB.out⟩
    | false =>
      have hDm := drm_of hok
      have hb1 := hDm.b1
      have hb2 := hDm.b2
      clear hok hDm oa ob HRA HRB
      go_wp2_with fail
      refine (pick_any s _ 6 w6 hsy (by omega) (by omega)).mono ?_
      rintro e w7 ⟨y, rfl, y0, y1, hs7, ht7⟩
      have hl7 := ht7.size
      replace bB := bB.touch ht7 (by omega)
      replace gG := gG.touch ht7 (by omega)
      replace gH := gH.touch ht7 (by omega)
      replace br := br.touch ht7 (by omega)
      replace bq := bq.touch ht7 (by omega)
      replace bp := bp.touch ht7 (by omega)
      replace hbu := hbu.trans (ht7.below (by have := HR.out; omega) (by omega))
      clear ht7 hsy
      have hsy := hs7
      clear hs7
      obtain ⟨n, hn⟩ : ∃ n : Nat, 1 + y = (n : Int) := ⟨(1 + y).toNat, by omega⟩
      have hn6 : n ≤ 6 := by omega
      have hwn : IntKind.i64.wrap (n : Int) = (n : Int) := fits_int _ (by omega) (by omega)
      go_upto_region 7 with fail
      refine wp_region_marked (fun w' => Bx w' B 86 #[.int .i64 ki, .int .i64 b, .int .i64 T, .int .i64 F]) 8 (by kernel_rfl) ?_
      have hS : Bx w7.drew B 86 #[.int .i64 ki, .int .i64 b, .int .i64 T, .int .i64 F] := bB.drew
      have g1 : ∀ w', Bx w' B 86 #[.int .i64 ki, .int .i64 b, .int .i64 T, .int .i64 F] → w'.cell? ⟨B, 1, none⟩ = some (.int .i64 b) := fun w' h => h.at_ 1 rfl
      refine wpAnyM_take (i := 0) (v := ?_) rfl (by kernel_rfl) (by kernel_rfl) (by kernel_rfl) (by kernel_rfl) (by kernel_rfl) (fun _ _ _ h => h) hS (.inl ⟨by rfl, ?_⟩) ?_
      rotate_left 1
      · intro w' hS'; go_simp; try with_reducible rfl
      simp only [Act.put, List.setIfInBounds_toArray]
      refine wpAnyM_take (i := 1) (v := ?_) rfl (by kernel_rfl) (by kernel_rfl) (by kernel_rfl) (by kernel_rfl) (by kernel_rfl) (fun _ _ _ h => h) hS (.inl ⟨by rfl, ?_⟩) ?_
      rotate_left 1
      · intro w' hS'; go_simp; try with_reducible rfl
      simp only [Act.put]
      refine wpAnyM_take (i := 2) (v := ?_) rfl (by kernel_rfl) (by kernel_rfl) (by kernel_rfl) (by kernel_rfl) (by kernel_rfl) (fun _ _ _ h => h) hS (.inl ⟨by rfl, ?_⟩) ?_
      rotate_left 1
      · intro w' hS'; go_simp; try with_reducible rfl
      simp only [Act.put]
      refine wpAnyM_take (i := 3) (v := ?_) rfl (by kernel_rfl) (by kernel_rfl) (by kernel_rfl) (by kernel_rfl) (by kernel_rfl) (fun _ _ _ h => h) hS (.inl ⟨by rfl, ?_⟩) ?_
      rotate_left 1
      · intro w' hS'; go_simp; try with_reducible rfl
      simp only [Act.put]
      refine wpAnyM_take (i := 4) (v := ?_) rfl (by kernel_rfl) (by kernel_rfl) (by kernel_rfl) (by kernel_rfl) (by kernel_rfl) (fun _ _ _ h => h) hS (.inl ⟨by rfl, ?_⟩) ?_
      rotate_left 1
      · intro w' hS'; go_simp; try with_reducible rfl
      simp only [Act.put]
      refine wpAnyM_take (i := 5) (v := ?_) rfl (by kernel_rfl) (by kernel_rfl) (by kernel_rfl) (by kernel_rfl) (by kernel_rfl) (fun _ _ _ h => h) hS (.inl ⟨by rfl, ?_⟩) ?_
      rotate_left 1
      · intro w' hS'; go_simp; try with_reducible rfl
      simp only [Act.put]
      refine wpAnyM_one (i := 6) (by kernel_rfl) rfl (by rfl) (fun K hK => ?_)
      go_simp
      refine (drawDigits_any s _ b n w7.drew (hsy.lo (L := w7.heap.size) ((Below.refl _ _).drew) (by omega)) (by omega) hb1 hb2 (by omega)).mono ?_
      rintro e w8 ⟨dx, A4, C4, rfl, hlendx, hdig, oa, ht8, hs8⟩
      have t8 : Touch s (s + 1) w7 w8 := ((Touch.refl _ _ _).drewN 1).trans ht8
      have hl8 := t8.size
      replace hS := hS.touch ht8 (by omega)
      have HRdx := Lib.hid (bentOfDigs hdig hb1 hb2 (by omega))
      refine hK _ _ (.inr hS) ?_
      try simp only [Act.put, List.setIfInBounds_toArray]
      clear hK K ht8 hsy hdig
      refine wpAnyM_one (i := 7) (by kernel_rfl) rfl (by rfl) (fun K hK => ?_)
      go_simp
      refine hK _ _ (.inr hS) ?_
      try simp only [Act.put, List.setIfInBounds_toArray]
      clear hK K
      have hHw := gH.lt
      replace bB := bB.touch t8 (by omega)
      replace gG := gG.touch t8 (by omega)
      replace gH := gH.touch t8 (by omega)
      replace br := br.touch t8 (by omega)
      replace bq := bq.touch t8 (by omega)
      replace bp := bp.touch t8 (by omega)
      have hwz := hbu.size
      replace hbu := hbu.trans (t8.below (by have := HR.out; omega) hwz)
      have hlo : w7.drew.heap.size = w7.heap.size := rfl
      replace oa := oa.wide (lo' := H + 1) (hi' := w8.heap.size) (by omega) (Nat.le_refl _)
      have c0 := gG.at_ 0 rfl
      have c1 := gG.at_ 1 rfl
      have fc0 := gG.thaw 0
      have fc1 := gG.thaw 1
      have tg : Touch G (G + 1) w8 ((w8.setCell ⟨G, 0, none⟩ (.int .i64 b)).setCell ⟨G, 1, none⟩ (.slice A4 n C4)) := ((Touch.refl _ _ _).setCell (by simp) (by simp) _).setCell (by simp) (by simp) _
      have hzz : ((w8.setCell ⟨G, 0, none⟩ (.int .i64 b)).setCell ⟨G, 1, none⟩ (.slice A4 n C4)).heap.size = w8.heap.size := by simp
      replace gG := (gG.set_ 0 (.int .i64 b)).set_ 1 (.slice A4 n C4)
      replace bB := bB.touch tg (by omega)
      replace gH := gH.touch tg (by omega)
      replace br := br.touch tg (by omega)
      replace bq := bq.touch tg (by omega)
      replace bp := bp.touch tg (by omega)
      replace oa := oa.touch tg (.inr (by omega))
      replace hs8 := hs8.touch tg (by omega)
      have hwy := hbu.size
      replace hbu := hbu.trans (tg.below (by have := HR.out; omega) hwy)
      have B9 := Lib.hid bB
      have G9 := Lib.hid gG
      have H9 := Lib.hid gH
      have R9 := Lib.hid br
      have Q9 := Lib.hid bq
      have P9 := Lib.hid bp
      have O9 := Lib.hid oa
      have U9 := Lib.hid hbu
      have S9 := Lib.hid hs8
      have Z9 := Lib.hid hzz
      clear bB gG gH br bq bp oa hbu hs8 tg t8 hS hzz g1 hwz hwy hlo
      refine wpAnyM_one (i := 8) (by kernel_rfl) rfl (by rfl) (fun K hK => ?_)
      go_simp
      refine hK _ _ (.inl rfl) ?_
      clear hK K c0 c1 fc0 fc1
      refine wpAnyM_done (by kernel_rfl) ?_ _
      obtain ⟨wA, hw9⟩ : ∃ v, v = ((w8.setCell ⟨G, 0, none⟩ (.int .i64 b)).setCell ⟨G, 1, none⟩ (.slice A4 n C4)) := ⟨_, rfl⟩
      rw [← hw9] at B9 G9 H9 R9 Q9 P9 O9 U9 S9 Z9 ⊢
      clear hw9
      have bB := B9.out
      have gG : Bx wA G 26 #[.int .i64 b, .slice A4 n C4] := G9.out
      have gH : Bx wA H 26 #[.int .i64 mb, .slice A2 db.length C2] := H9.out
      have br := R9.out
      have bq := Q9.out
      have bp := P9.out
      have oa := O9.out
      have hbu := U9.out
      have hsy := S9.out
      have hzwA := Z9.out
      clear B9 G9 H9 R9 Q9 P9 O9 U9 S9 Z9
      obtain ⟨m, hm⟩ : ∃ m, m = wA.heap.size := ⟨_, rfl⟩
      have hHA := gH.lt
      replace oa := oa.wide (lo' := H + 1) (hi' := m) (Nat.le_refl _) (by omega)
      go_upto_region 8 with fail
      refine wp_region_marked (fun w' => Bx w' B 86 #[.int .i64 ki, .int .i64 b, .int .i64 T, .int .i64 F]) 8 (by kernel_rfl) ?_
      have hS : Bx wA.drew B 86 #[.int .i64 ki, .int .i64 b, .int .i64 T, .int .i64 F] := bB.drew
      have g1 : ∀ w', Bx w' B 86 #[.int .i64 ki, .int .i64 b, .int .i64 T, .int .i64 F] → w'.cell? ⟨B, 1, none⟩ = some (.int .i64 b) := fun w' h => h.at_ 1 rfl
      refine wpAnyM_take (i := 0) (v := ?_) rfl (by kernel_rfl) (by kernel_rfl) (by kernel_rfl) (by kernel_rfl) (by kernel_rfl) (fun _ _ _ h => h) hS (.inl ⟨by rfl, ?_⟩) ?_
      rotate_left 1
      · intro w' hS'; go_simp; try with_reducible rfl
      simp only [Act.put, List.setIfInBounds_toArray]
      refine wpAnyM_take (i := 1) (v := ?_) rfl (by kernel_rfl) (by kernel_rfl) (by kernel_rfl) (by kernel_rfl) (by kernel_rfl) (fun _ _ _ h => h) hS (.inl ⟨by rfl, ?_⟩) ?_
      rotate_left 1
      · intro w' hS'; go_simp; try with_reducible rfl
      simp only [Act.put]
      refine wpAnyM_take (i := 2) (v := ?_) rfl (by kernel_rfl) (by kernel_rfl) (by kernel_rfl) (by kernel_rfl) (by kernel_rfl) (fun _ _ _ h => h) hS (.inl ⟨by rfl, ?_⟩) ?_
      rotate_left 1
      · intro w' hS'; go_simp; try with_reducible rfl
      simp only [Act.put]
      refine wpAnyM_take (i := 3) (v := ?_) rfl (by kernel_rfl) (by kernel_rfl) (by kernel_rfl) (by kernel_rfl) (by kernel_rfl) (fun _ _ _ h => h) hS (.inl ⟨by rfl, ?_⟩) ?_
      rotate_left 1
      · intro w' hS'; go_simp; try with_reducible rfl
      simp only [Act.put]
      refine wpAnyM_take (i := 4) (v := ?_) rfl (by kernel_rfl) (by kernel_rfl) (by kernel_rfl) (by kernel_rfl) (by kernel_rfl) (fun _ _ _ h => h) hS (.inl ⟨by rfl, ?_⟩) ?_
      rotate_left 1
      · intro w' hS'; go_simp; try with_reducible rfl
      simp only [Act.put]
      refine wpAnyM_take (i := 5) (v := ?_) rfl (by kernel_rfl) (by kernel_rfl) (by kernel_rfl) (by kernel_rfl) (by kernel_rfl) (fun _ _ _ h => h) hS (.inl ⟨by rfl, ?_⟩) ?_
      rotate_left 1
      · intro w' hS'; go_simp; try with_reducible rfl
      simp only [Act.put]
      refine wpAnyM_one (i := 6) (by kernel_rfl) rfl (by rfl) (fun K hK => ?_)
      go_simp
      refine (drawDigits_any s _ b n wA.drew (hsy.lo (L := wA.heap.size) ((Below.refl _ _).drew) (by omega)) (by omega) hb1 hb2 (by omega)).mono ?_
      rintro e w9 ⟨dy, A5, C5, rfl, hlendy, hdig, ob, ht8, hs8⟩
      have t8 : Touch s (s + 1) wA w9 := ((Touch.refl _ _ _).drewN 1).trans ht8
      have hl8 := t8.size
      replace hS := hS.touch ht8 (by omega)
      have HRdy := Lib.hid (bentOfDigs hdig hb1 hb2 (by omega))
      refine hK _ _ (.inr hS) ?_
      try simp only [Act.put, List.setIfInBounds_toArray]
      clear hK K ht8 hsy hdig
      refine wpAnyM_one (i := 7) (by kernel_rfl) rfl (by rfl) (fun K hK => ?_)
      go_simp
      refine hK _ _ (.inr hS) ?_
      try simp only [Act.put, List.setIfInBounds_toArray]
      clear hK K
      have hHw := gH.lt
      replace bB := bB.touch t8 (by omega)
      replace gG := gG.touch t8 (by omega)
      replace gH := gH.touch t8 (by omega)
      replace br := br.touch t8 (by omega)
      replace bq := bq.touch t8 (by omega)
      replace bp := bp.touch t8 (by omega)
      replace oa := oa.touch t8 (.inr (by omega))
      have hwz := hbu.size
      replace hbu := hbu.trans (t8.below (by have := HR.out; omega) hwz)
      have hlo : wA.drew.heap.size = wA.heap.size := rfl
      replace ob := ob.wide (lo' := m) (hi' := w9.heap.size) (by omega) (Nat.le_refl _)
      have c0 := gH.at_ 0 rfl
      have c1 := gH.at_ 1 rfl
      have fc0 := gH.thaw 0
      have fc1 := gH.thaw 1
      have tg : Touch H (H + 1) w9 ((w9.setCell ⟨H, 0, none⟩ (.int .i64 b)).setCell ⟨H, 1, none⟩ (.slice A5 n C5)) := ((Touch.refl _ _ _).setCell (by simp) (by simp) _).setCell (by simp) (by simp) _
      have hzz : ((w9.setCell ⟨H, 0, none⟩ (.int .i64 b)).setCell ⟨H, 1, none⟩ (.slice A5 n C5)).heap.size = w9.heap.size := by simp
      replace gH := (gH.set_ 0 (.int .i64 b)).set_ 1 (.slice A5 n C5)
      replace bB := bB.touch tg (by omega)
      replace gG := gG.touch tg (by omega)
      replace br := br.touch tg (by omega)
      replace bq := bq.touch tg (by omega)
      replace bp := bp.touch tg (by omega)
      replace ob := ob.touch tg (.inr (by omega))
      replace oa := oa.touch tg (.inr (by omega))
      replace hs8 := hs8.touch tg (by omega)
      have hwy := hbu.size
      replace hbu := hbu.trans (tg.below (by have := HR.out; omega) hwy)
      have B9 := Lib.hid bB
      have G9 := Lib.hid gG
      have H9 := Lib.hid gH
      have R9 := Lib.hid br
      have Q9 := Lib.hid bq
      have P9 := Lib.hid bp
      have O9 := Lib.hid ob
      have V9 := Lib.hid oa
      clear oa
      have U9 := Lib.hid hbu
      have S9 := Lib.hid hs8
      have Z9 := Lib.hid hzz
      clear bB gG gH br bq bp ob hbu hs8 tg t8 hS hzz g1 hwz hwy hlo
      refine wpAnyM_one (i := 8) (by kernel_rfl) rfl (by rfl) (fun K hK => ?_)
      go_simp
      refine hK _ _ (.inl rfl) ?_
      clear hK K c0 c1 fc0 fc1
      refine wpAnyM_done (by kernel_rfl) ?_ _
      obtain ⟨wC, hw9⟩ : ∃ v, v = ((w9.setCell ⟨H, 0, none⟩ (.int .i64 b)).setCell ⟨H, 1, none⟩ (.slice A5 n C5)) := ⟨_, rfl⟩
      rw [← hw9] at B9 G9 H9 R9 Q9 P9 O9 U9 S9 Z9 V9 ⊢
      clear hw9
      have bB := B9.out
      have gG : Bx wC G 26 #[.int .i64 b, .slice A4 n C4] := G9.out
      have gH : Bx wC H 26 #[.int .i64 b, .slice A5 n C5] := H9.out
      have br := R9.out
      have bq := Q9.out
      have bp := P9.out
      have ob := O9.out
      have oa := V9.out
      clear V9
      have hbu := U9.out
      have hsy := S9.out
      have hzwC := Z9.out
      clear B9 G9 H9 R9 Q9 P9 O9 U9 S9 Z9
      go_upto_region 9 with fail
      refine wp_region_marked (fun w' => (Bx w' B 86 #[.int .i64 ki, .int .i64 b, .int .i64 T, .int .i64 F] ∧ Bx w' G 26 #[.int .i64 b, .slice A4 n C4] ∧ Bx w' H 26 #[.int .i64 b, .slice A5 n C5])) 7 (by kernel_rfl) ?_
      have hS : Bx wC.drew B 86 #[.int .i64 ki, .int .i64 b, .int .i64 T, .int .i64 F] ∧ Bx wC.drew G 26 #[.int .i64 b, .slice A4 n C4] ∧ Bx wC.drew H 26 #[.int .i64 b, .slice A5 n C5] := ⟨bB.drew, gG.drew, gH.drew⟩
      have g0 : ∀ w', (Bx w' B 86 #[.int .i64 ki, .int .i64 b, .int .i64 T, .int .i64 F] ∧ Bx w' G 26 #[.int .i64 b, .slice A4 n C4] ∧ Bx w' H 26 #[.int .i64 b, .slice A5 n C5]) → w'.cell? ⟨B, 0, none⟩ = some (.int .i64 ki) := fun w' h => h.1.at_ 0 rfl
      have g1 : ∀ w', (Bx w' B 86 #[.int .i64 ki, .int .i64 b, .int .i64 T, .int .i64 F] ∧ Bx w' G 26 #[.int .i64 b, .slice A4 n C4] ∧ Bx w' H 26 #[.int .i64 b, .slice A5 n C5]) → w'.cell? ⟨B, 1, none⟩ = some (.int .i64 b) := fun w' h => h.1.at_ 1 rfl
      have g2 : ∀ w', (Bx w' B 86 #[.int .i64 ki, .int .i64 b, .int .i64 T, .int .i64 F] ∧ Bx w' G 26 #[.int .i64 b, .slice A4 n C4] ∧ Bx w' H 26 #[.int .i64 b, .slice A5 n C5]) → w'.cell? ⟨B, 2, none⟩ = some (.int .i64 T) := fun w' h => h.1.at_ 2 rfl
      have g3 : ∀ w', (Bx w' B 86 #[.int .i64 ki, .int .i64 b, .int .i64 T, .int .i64 F] ∧ Bx w' G 26 #[.int .i64 b, .slice A4 n C4] ∧ Bx w' H 26 #[.int .i64 b, .slice A5 n C5]) → w'.cell? ⟨B, 3, none⟩ = some (.int .i64 F) := fun w' h => h.1.at_ 3 rfl
      have g4 : ∀ w', (Bx w' B 86 #[.int .i64 ki, .int .i64 b, .int .i64 T, .int .i64 F] ∧ Bx w' G 26 #[.int .i64 b, .slice A4 n C4] ∧ Bx w' H 26 #[.int .i64 b, .slice A5 n C5]) → w'.cell? ⟨G, 0, none⟩ = some (.int .i64 b) := fun w' h => h.2.1.at_ 0 rfl
      have g5 : ∀ w', (Bx w' B 86 #[.int .i64 ki, .int .i64 b, .int .i64 T, .int .i64 F] ∧ Bx w' G 26 #[.int .i64 b, .slice A4 n C4] ∧ Bx w' H 26 #[.int .i64 b, .slice A5 n C5]) → w'.cell? ⟨G, 1, none⟩ = some (.slice A4 n C4) := fun w' h => h.2.1.at_ 1 rfl
      have g6 : ∀ w', (Bx w' B 86 #[.int .i64 ki, .int .i64 b, .int .i64 T, .int .i64 F] ∧ Bx w' G 26 #[.int .i64 b, .slice A4 n C4] ∧ Bx w' H 26 #[.int .i64 b, .slice A5 n C5]) → w'.cell? ⟨H, 0, none⟩ = some (.int .i64 b) := fun w' h => h.2.2.at_ 0 rfl
      have g7 : ∀ w', (Bx w' B 86 #[.int .i64 ki, .int .i64 b, .int .i64 T, .int .i64 F] ∧ Bx w' G 26 #[.int .i64 b, .slice A4 n C4] ∧ Bx w' H 26 #[.int .i64 b, .slice A5 n C5]) → w'.cell? ⟨H, 1, none⟩ = some (.slice A5 n C5) := fun w' h => h.2.2.at_ 1 rfl
      refine wpAnyM_take (i := 0) (v := ?_) rfl (by kernel_rfl) (by kernel_rfl) (by kernel_rfl) (by kernel_rfl) (by kernel_rfl) (fun _ _ _ h => h) hS (.inl ⟨by rfl, ?_⟩) ?_
      rotate_left 1
      · intro w' hS'; go_simp; try with_reducible rfl
      simp only [Act.put, List.setIfInBounds_toArray]
      refine wpAnyM_take (i := 1) (v := ?_) rfl (by kernel_rfl) (by kernel_rfl) (by kernel_rfl) (by kernel_rfl) (by kernel_rfl) (fun _ _ _ h => h) hS (.inl ⟨by rfl, ?_⟩) ?_
      rotate_left 1
      · intro w' hS'; go_simp; try with_reducible rfl
      simp only [Act.put]
      refine wpAnyM_take (i := 2) (v := ?_) rfl (by kernel_rfl) (by kernel_rfl) (by kernel_rfl) (by kernel_rfl) (by kernel_rfl) (fun _ _ _ h => h) hS (.inl ⟨by rfl, ?_⟩) ?_
      rotate_left 1
      · intro w' hS'; go_simp; try with_reducible rfl
      simp only [Act.put]
      clear g0 g1 g2 g3 g4 g5 g6 g7
      refine wpAnyM_one (i := 3) (by kernel_rfl) rfl (by rfl) (fun K hK => ?_)
      go_simp
      refine hK _ _ (.inr hS) ?_
      try simp only [Act.put, List.setIfInBounds_toArray]
      clear hK K
      refine wpAnyM_one (i := 4) (by kernel_rfl) rfl (by rfl) (fun K hK => ?_)
      go_simp
      refine (clock_any s _ wC.drew (hsy.lo (L := wC.heap.size) ((Below.refl _ _).drew) (by omega)) (by omega)).mono ?_
      rintro e wv ⟨t, rfl, hti, htv, hsv⟩
      have HTI := Lib.hid (show I64 t from mid64 (by omega) (by omega))
      have twv : Touch s (s + 1) wC wv := ((Touch.refl _ _ _).drewN 1).trans htv
      have hlv := twv.size
      replace hS := And.intro (hS.1.touch htv (by omega)) (And.intro (hS.2.1.touch htv (by omega)) (hS.2.2.touch htv (by omega)))
      refine hK _ _ (.inr hS) ?_
      try simp only [Act.put, List.setIfInBounds_toArray]
      clear hK K htv hsv hti
      have hHw := gH.lt
      replace br := br.touch twv (by omega)
      replace bq := bq.touch twv (by omega)
      replace bp := bp.touch twv (by omega)
      replace oa := oa.touch twv (.inr (by omega))
      replace ob := ob.touch twv (.inr (by omega))
      have hwb := hbu.size
      replace hbu := hbu.trans (twv.below (by have := HR.out; omega) hwb)
      have c0 := br.at_ 0 rfl
      have c1 := br.at_ 1 rfl
      have c2 := br.at_ 2 rfl
      have c3 := br.at_ 3 rfl
      have fc0 := br.thaw 0
      have fc1 := br.thaw 1
      have fc2 := br.thaw 2
      have fc3 := br.thaw 3
      have t1 : Touch r (r + 1) wv ((((wv.setCell ⟨r, 0, none⟩ (.int .i64 ki)).setCell ⟨r, 1, none⟩ (.int .i64 b)).setCell ⟨r, 2, none⟩ (.int .i64 T)).setCell ⟨r, 3, none⟩ (.int .i64 F)) := (((((Touch.refl _ _ _).setCell (by simp) (by simp) _).setCell (by simp) (by simp) _).setCell (by simp) (by simp) _).setCell (by simp) (by simp) _)
      have q1 := bq.touch t1 (by omega)
      have k0 := q1.at_ 0 rfl
      have k1 := q1.at_ 1 rfl
      have fk0 := q1.thaw 0
      have fk1 := q1.thaw 1
      have t2 : Touch (r + 1) (r + 2) ((((wv.setCell ⟨r, 0, none⟩ (.int .i64 ki)).setCell ⟨r, 1, none⟩ (.int .i64 b)).setCell ⟨r, 2, none⟩ (.int .i64 T)).setCell ⟨r, 3, none⟩ (.int .i64 F)) ((((((wv.setCell ⟨r, 0, none⟩ (.int .i64 ki)).setCell ⟨r, 1, none⟩ (.int .i64 b)).setCell ⟨r, 2, none⟩ (.int .i64 T)).setCell ⟨r, 3, none⟩ (.int .i64 F)).setCell ⟨r + 1, 0, none⟩ (.int .i64 b)).setCell ⟨r + 1, 1, none⟩ (.slice A4 n C4)) := ((Touch.refl _ _ _).setCell (by simp) (by simp) _).setCell (by simp) (by simp) _
      have q2 := (bp.touch t1 (by omega)).touch t2 (by omega)
      have j0 := q2.at_ 0 rfl
      have j1 := q2.at_ 1 rfl
      have fj0 := q2.thaw 0
      have fj1 := q2.thaw 1
      have t3 : Touch (r + 2) (r + 3) ((((((wv.setCell ⟨r, 0, none⟩ (.int .i64 ki)).setCell ⟨r, 1, none⟩ (.int .i64 b)).setCell ⟨r, 2, none⟩ (.int .i64 T)).setCell ⟨r, 3, none⟩ (.int .i64 F)).setCell ⟨r + 1, 0, none⟩ (.int .i64 b)).setCell ⟨r + 1, 1, none⟩ (.slice A4 n C4)) ((((((((wv.setCell ⟨r, 0, none⟩ (.int .i64 ki)).setCell ⟨r, 1, none⟩ (.int .i64 b)).setCell ⟨r, 2, none⟩ (.int .i64 T)).setCell ⟨r, 3, none⟩ (.int .i64 F)).setCell ⟨r + 1, 0, none⟩ (.int .i64 b)).setCell ⟨r + 1, 1, none⟩ (.slice A4 n C4)).setCell ⟨r + 2, 0, none⟩ (.int .i64 b)).setCell ⟨r + 2, 1, none⟩ (.slice A5 n C5)) := ((Touch.refl _ _ _).setCell (by simp) (by simp) _).setCell (by simp) (by simp) _
      have b0r := ((((br.set_ 0 (.int .i64 ki)).set_ 1 (.int .i64 b)).set_ 2 (.int .i64 T)).set_ 3 (.int .i64 F))
      have r9 := Lib.hid ((b0r.touch t2 (by omega)).touch t3 (by omega))
      have q9 := Lib.hid (((q1.set_ 0 (.int .i64 b)).set_ 1 (.slice A4 n C4)).touch t3 (by omega))
      have p9 := Lib.hid ((q2.set_ 0 (.int .i64 b)).set_ 1 (.slice A5 n C5))
      have HS1 := Lib.hid (show Bx ((((wv.setCell ⟨r, 0, none⟩ (.int .i64 ki)).setCell ⟨r, 1, none⟩ (.int .i64 b)).setCell ⟨r, 2, none⟩ (.int .i64 T)).setCell ⟨r, 3, none⟩ (.int .i64 F)) B 86 #[.int .i64 ki, .int .i64 b, .int .i64 T, .int .i64 F] ∧ Bx ((((wv.setCell ⟨r, 0, none⟩ (.int .i64 ki)).setCell ⟨r, 1, none⟩ (.int .i64 b)).setCell ⟨r, 2, none⟩ (.int .i64 T)).setCell ⟨r, 3, none⟩ (.int .i64 F)) G 26 #[.int .i64 b, .slice A4 n C4] ∧ Bx ((((wv.setCell ⟨r, 0, none⟩ (.int .i64 ki)).setCell ⟨r, 1, none⟩ (.int .i64 b)).setCell ⟨r, 2, none⟩ (.int .i64 T)).setCell ⟨r, 3, none⟩ (.int .i64 F)) H 26 #[.int .i64 b, .slice A5 n C5] from ⟨hS.1.touch t1 (by omega), hS.2.1.touch t1 (by omega), hS.2.2.touch t1 (by omega)⟩)
      have HS2 := Lib.hid (show Bx ((((((wv.setCell ⟨r, 0, none⟩ (.int .i64 ki)).setCell ⟨r, 1, none⟩ (.int .i64 b)).setCell ⟨r, 2, none⟩ (.int .i64 T)).setCell ⟨r, 3, none⟩ (.int .i64 F)).setCell ⟨r + 1, 0, none⟩ (.int .i64 b)).setCell ⟨r + 1, 1, none⟩ (.slice A4 n C4)) B 86 #[.int .i64 ki, .int .i64 b, .int .i64 T, .int .i64 F] ∧ Bx ((((((wv.setCell ⟨r, 0, none⟩ (.int .i64 ki)).setCell ⟨r, 1, none⟩ (.int .i64 b)).setCell ⟨r, 2, none⟩ (.int .i64 T)).setCell ⟨r, 3, none⟩ (.int .i64 F)).setCell ⟨r + 1, 0, none⟩ (.int .i64 b)).setCell ⟨r + 1, 1, none⟩ (.slice A4 n C4)) G 26 #[.int .i64 b, .slice A4 n C4] ∧ Bx ((((((wv.setCell ⟨r, 0, none⟩ (.int .i64 ki)).setCell ⟨r, 1, none⟩ (.int .i64 b)).setCell ⟨r, 2, none⟩ (.int .i64 T)).setCell ⟨r, 3, none⟩ (.int .i64 F)).setCell ⟨r + 1, 0, none⟩ (.int .i64 b)).setCell ⟨r + 1, 1, none⟩ (.slice A4 n C4)) H 26 #[.int .i64 b, .slice A5 n C5] from ⟨HS1.out.1.touch t2 (by omega), HS1.out.2.1.touch t2 (by omega), HS1.out.2.2.touch t2 (by omega)⟩)
      have z1 : ((((wv.setCell ⟨r, 0, none⟩ (.int .i64 ki)).setCell ⟨r, 1, none⟩ (.int .i64 b)).setCell ⟨r, 2, none⟩ (.int .i64 T)).setCell ⟨r, 3, none⟩ (.int .i64 F)).heap.size = wv.heap.size := by simp
      have z2 : ((((((wv.setCell ⟨r, 0, none⟩ (.int .i64 ki)).setCell ⟨r, 1, none⟩ (.int .i64 b)).setCell ⟨r, 2, none⟩ (.int .i64 T)).setCell ⟨r, 3, none⟩ (.int .i64 F)).setCell ⟨r + 1, 0, none⟩ (.int .i64 b)).setCell ⟨r + 1, 1, none⟩ (.slice A4 n C4)).heap.size = wv.heap.size := by simp
      have z3 : ((((((((wv.setCell ⟨r, 0, none⟩ (.int .i64 ki)).setCell ⟨r, 1, none⟩ (.int .i64 b)).setCell ⟨r, 2, none⟩ (.int .i64 T)).setCell ⟨r, 3, none⟩ (.int .i64 F)).setCell ⟨r + 1, 0, none⟩ (.int .i64 b)).setCell ⟨r + 1, 1, none⟩ (.slice A4 n C4)).setCell ⟨r + 2, 0, none⟩ (.int .i64 b)).setCell ⟨r + 2, 1, none⟩ (.slice A5 n C5)).heap.size = wv.heap.size := by simp
      have hwv := hbu.size
      have HB := Lib.hid (((hbu.trans (t1.below (by have := HR.out; omega) (by omega))).trans (t2.below (by have := HR.out; omega) (by omega))).trans (t3.below (by have := HR.out; omega) (by omega)))
      have HO1 := Lib.hid (((((oa.touch t1 (.inr (by omega))).touch t2 (.inr (by omega))).touch t3 (.inr (by omega)))).wide (lo' := w.heap.size) (hi' := m) (by have := HR.out; omega) (by omega))
      have HO2 := Lib.hid (((((ob.touch t1 (.inr (by omega))).touch t2 (.inr (by omega))).touch t3 (.inr (by omega)))).wide (lo' := m) (hi' := ((((((((wv.setCell ⟨r, 0, none⟩ (.int .i64 ki)).setCell ⟨r, 1, none⟩ (.int .i64 b)).setCell ⟨r, 2, none⟩ (.int .i64 T)).setCell ⟨r, 3, none⟩ (.int .i64 F)).setCell ⟨r + 1, 0, none⟩ (.int .i64 b)).setCell ⟨r + 1, 1, none⟩ (.slice A4 n C4)).setCell ⟨r + 2, 0, none⟩ (.int .i64 b)).setCell ⟨r + 2, 1, none⟩ (.slice A5 n C5)).heap.size) (by omega) (by omega))
      have HM := Lib.hid (show w.heap.size ≤ m ∧ m ≤ ((((((((wv.setCell ⟨r, 0, none⟩ (.int .i64 ki)).setCell ⟨r, 1, none⟩ (.int .i64 b)).setCell ⟨r, 2, none⟩ (.int .i64 T)).setCell ⟨r, 3, none⟩ (.int .i64 F)).setCell ⟨r + 1, 0, none⟩ (.int .i64 b)).setCell ⟨r + 1, 1, none⟩ (.slice A4 n C4)).setCell ⟨r + 2, 0, none⟩ (.int .i64 b)).setCell ⟨r + 2, 1, none⟩ (.slice A5 n C5)).heap.size from ⟨by have := HR.out; omega, by omega⟩)
      clear t1 t2 t3 z1 z2 z3 q1 q2 hS bB gG gH br bq bp oa ob hbu b0r twv hsy
      refine wpAnyM_one (i := 5) (by kernel_rfl) rfl (by rfl) (fun K hK => ?_)
      go_simp
      refine hK _ _ (.inr HS1.out) ?_
      try simp only [Act.put, List.setIfInBounds_toArray]
      clear hK K HS1 c0 c1 c2 c3 fc0 fc1 fc2 fc3
      refine wpAnyM_one (i := 6) (by kernel_rfl) rfl (by rfl) (fun K hK => ?_)
      go_simp
      refine hK _ _ (.inr HS2.out) ?_
      try simp only [Act.put, List.setIfInBounds_toArray]
      clear hK K HS2 k0 k1 fk0 fk1
      refine wpAnyM_one (i := 7) (by kernel_rfl) rfl (by rfl) (fun K hK => ?_)
      go_simp
      refine hK _ _ (.inl rfl) ?_
      try simp only [Act.put, List.setIfInBounds_toArray]
      clear hK K j0 j1 fj0 fj1
      refine wpAnyM_one (i := 8) (by kernel_rfl) rfl (by rfl) (fun K hK => ?_)
      go_simp
      refine hK _ _ (.inl rfl) ?_
      clear hK K
      refine wpAnyM_done (by kernel_rfl) ?_ _
      have p0 := r9.out.at_ 0 rfl
      have p1 := r9.out.at_ 1 rfl
      have p2 := r9.out.at_ 2 rfl
      have p3 := r9.out.at_ 3 rfl
      have p4 := q9.out.at_ 0 rfl
      have p5 := q9.out.at_ 1 rfl
      have p6 := p9.out.at_ 0 rfl
      have p7 := p9.out.at_ 1 rfl
      obtain ⟨wz, hwz⟩ : ∃ wz, wz = ((((((((wv.setCell ⟨r, 0, none⟩ (.int .i64 ki)).setCell ⟨r, 1, none⟩ (.int .i64 b)).setCell ⟨r, 2, none⟩ (.int .i64 T)).setCell ⟨r, 3, none⟩ (.int .i64 F)).setCell ⟨r + 1, 0, none⟩ (.int .i64 b)).setCell ⟨r + 1, 1, none⟩ (.slice A4 n C4)).setCell ⟨r + 2, 0, none⟩ (.int .i64 b)).setCell ⟨r + 2, 1, none⟩ (.slice A5 n C5)) := ⟨_, rfl⟩
      rw [← hwz] at p0 p1 p2 p3 p4 p5 p6 p7 HB HO1 HO2 HM ⊢
      clear hwz r9 q9 p9
      go_wp2
      refine bodyPost_ret (v := .tuple #[.agg #[.int .i64 ki, .int .i64 b, .int .i64 T, .int .i64 F], .agg #[.int .i64 b, .slice A4 n C4], .agg #[.int .i64 b, .slice A5 n C5], .int .i64 t]) (by simp [results, Try.results67, go_sem, p0, p1, p2, p3, p4, p5, p6, p7]) rfl ?_
      exact ⟨ki, b, T, F, b, dx, A4, C4, b, dy, A5, C5, t, m, by rw [hlendx, hlendy], HD.out, HRdx.out, HRdy.out, HTI.out, by rw [hlendx]; exact HO1.out, by rw [hlendy]; exact HO2.out, HM.out, HB.out⟩
end Go.Proofs.Ytgfpjcckkbhdjaa
