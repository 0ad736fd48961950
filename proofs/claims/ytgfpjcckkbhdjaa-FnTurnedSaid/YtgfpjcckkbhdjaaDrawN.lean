/-
  What the busiest time's law draws: DrawBusiestTime.
-/
import Derived.Test.YtgfpjcckkbhdjaaDrawG
import Derived.Test.YtgfpjcckkbhdjaaDrawJ
import Derived.Test.YtgfpjcckkbhdjaaDrumI
namespace Go.Proofs.Ytgfpjcckkbhdjaa
open Go.RowKit

theorem bentOfDigs {b : Int} {ds : List Int} (h : DigsOf b ds) (b0 : 2 ≤ b) (b1 : b ≤ 16) (hn : ds.length ≤ 17) : BentR b ds :=
  ⟨mid64 (by omega) (by omega), fun x hx => mid64 (by have := h x hx; omega) (by have := h x hx; omega), hn⟩
set_option maxRecDepth 100000 in
set_option maxHeartbeats 8000000 in
theorem drawBusiest_any (a : Option Addr) (zs : List Int) (c : Nat) (w : World) (h : RdU w a zs) :
    Calls Try.prog 73 #[.slice a zs.length c] w fun e w' => ∃ (K B T F b : Int) (ds : List Int) (A : Option Addr) (C : Nat), e = .returned (.tuple #[.agg #[.int .i64 K, .int .i64 B, .int .i64 T, .int .i64 F], .agg #[.int .i64 b, .slice A (List.length ds) C]]) ∧ BentK K B T F ∧ BentR b ds ∧
      Own 2 w' w.heap.size w'.heap.size (.slice A ds.length C) ds ∧ Below w.heap.size w w' := by
  obtain ⟨r, hr⟩ : ∃ r, r = w.heap.size := ⟨_, rfl⟩
  obtain ⟨u, hu⟩ : ∃ u, u = (w.alloc (.cells #[.int .i64 0, .int .i64 0, .int .i64 0, .int .i64 0] 86)).alloc (.cells #[.int .i64 0, .slice none 0 0] 26) := ⟨_, rfl⟩
  have br : Bx u r 86 #[.int .i64 0, .int .i64 0, .int .i64 0, .int .i64 0] := by rw [hu, hr]; exact (Bx.new _ _ _).alloc _
  have bq : Bx u (r + 1) 26 #[.int .i64 0, .slice none 0 0] := by rw [hu, hr]; have := Bx.new (w.alloc (.cells #[.int .i64 0, .int .i64 0, .int .i64 0, .int .i64 0] 86)) #[.int .i64 0, .slice none 0 0] 26; simpa using this
  have hbu : Below w.heap.size w u := by rw [hu]; exact (by repeat (first | exact Below.refl _ _ | refine Below.setCell ?_ (by first | omega | (simp <;> omega)) _ | refine Below.alloc ?_ (by first | omega | (simp <;> omega)) _ | refine Below.drew ?_))
  have hru := h.below hbu
  have HU := Lib.hid hu
  have HR := Lib.hid hr
  clear hu h
  go_enter Try.func73, Try.ntmps73
  go_wp2_with fail
  rw [← HU.out, ← hr]
  clear hr
  refine (from_any a zs c u hru).mono ?_
  rintro e w1 ⟨s, rfl, hg, hs1, hb1⟩
  have hl := hb1.size
  have hrl := bq.lt
  replace br := br.below hb1
  replace bq := bq.below hb1
  replace hbu := hbu.trans (hb1.mono hbu.size)
  have hul := hbu.size
  have hrs : r + 1 < s := by omega
  clear hb1 hru
  go_wp2_with fail
  refine (bentDrum_any s _ w1 hs1 (by omega)).mono ?_
  rintro e w2 ⟨ki, b, T, F, rfl, hdd, ht2, hs2⟩
  have HD := Lib.hid hdd
  have hl2 := ht2.size
  replace br := br.touch ht2 (by omega)
  replace bq := bq.touch ht2 (by omega)
  replace hbu := hbu.trans (ht2.below (by have := HR.out; omega) (by omega))
  clear ht2 hs1 hdd hul hl
  go_wp2_with fail
  obtain ⟨B, hB⟩ : ∃ B, B = w2.heap.size := ⟨_, rfl⟩
  obtain ⟨v, hv⟩ : ∃ v, v = w2.alloc (.cells #[.int .i64 ki, .int .i64 b, .int .i64 T, .int .i64 F] 86) := ⟨_, rfl⟩
  rw [← hv, ← hB]
  have hbv : Below w2.heap.size w2 v := by rw [hv]; exact (Below.refl _ _).alloc (Nat.le_refl _) _
  have bB : Bx v B 86 #[.int .i64 ki, .int .i64 b, .int .i64 T, .int .i64 F] := by rw [hv, hB]; exact Bx.new _ _ _
  have hsB : s < B := by have := hs2.lt; omega
  have hbz := hbu.size
  replace br := br.below hbv
  replace bq := bq.below hbv
  replace hbu := hbu.trans (hbv.mono hbz)
  have hsx := hs2.lo hbv (by omega)
  clear hv hbv hs2 hB hbz
  have hBv := bB.lt
  refine (bentReg_any s _ v hsx (by omega)).mono ?_
  rintro e w3 ⟨m3, ds, A, C, rfl, hrr, ow, ht3, hs3⟩
  have hl3 := ht3.size
  replace bB := bB.touch ht3 (by omega)
  replace br := br.touch ht3 (by omega)
  replace bq := bq.touch ht3 (by omega)
  replace hbu := hbu.trans (ht3.below (by have := HR.out; omega) (by have := HR.out; omega))
  clear ht3 hsx
  go_wp2_with fail
  obtain ⟨G, hG⟩ : ∃ G, G = w3.heap.size := ⟨_, rfl⟩
  obtain ⟨v', hv⟩ : ∃ v', v' = w3.alloc (.cells #[.int .i64 m3, .slice A ds.length C] 26) := ⟨_, rfl⟩
  rw [← hv, ← hG]
  have hbv : Below w3.heap.size w3 v' := by rw [hv]; exact (Below.refl _ _).alloc (Nat.le_refl _) _
  have gG : Bx v' G 26 #[.int .i64 m3, .slice A ds.length C] := by rw [hv, hG]; exact Bx.new _ _ _
  have hBG : B < G := by omega
  have hbz := hbu.size
  replace ow := ((ow.below hbv).wide (lo' := s + 1) (hi' := G) (by omega) (by omega))
  replace br := br.below hbv
  replace bq := bq.below hbv
  replace bB := bB.below hbv
  replace hbu := hbu.trans (hbv.mono hbz)
  have hsy := hs3.lo hbv (by omega)
  have hGv := gG.lt
  clear hv hbv hs3 hG hbz
  refine (l05Ok_any B ki b T F v' ⟨bB.at_ 0 rfl, bB.at_ 1 rfl, bB.at_ 2 rfl, bB.at_ 3 rfl⟩).mono ?_
  rintro e w4 ⟨rfl, k4, rfl⟩
  obtain ⟨w5, hw5⟩ : ∃ w5, w5 = v'.drewN k4 := ⟨_, rfl⟩
  have hz5 : w5.heap.size = v'.heap.size := by rw [hw5]; rfl
  have t45 : Touch s (s + 1) v' w5 := by rw [hw5]; exact (Touch.refl _ _ _).drewN k4
  have b45 : Below v'.heap.size v' w5 := by rw [hw5]; exact bel_drewN (Below.refl _ _) k4
  rw [← hw5]
  clear hw5
  replace bB := bB.touch t45 (by omega)
  replace gG := gG.touch t45 (by omega)
  replace br := br.touch t45 (by omega)
  replace bq := bq.touch t45 (by omega)
  replace ow := ow.touch t45 (.inr (by omega))
  have hwv : w.heap.size ≤ v'.heap.size := hbu.size
  replace hbu := hbu.trans (t45.below (by have := HR.out; omega) hwv)
  replace hsy := hsy.lo b45 (by omega)
  clear t45 b45 k4
  cases hok : drumB ki b T F with
  | false =>
    have HRR := Lib.hid hrr
    clear hrr hsy hok
    go_wp2_with fail
    go_upto_region 6 with fail
    refine wp_region_marked (fun w' => Bx w' B 86 #[.int .i64 ki, .int .i64 b, .int .i64 T, .int .i64 F] ∧ Bx w' G 26 #[.int .i64 m3, .slice A ds.length C]) 3 (by kernel_rfl) ?_
    obtain ⟨wd, hwd⟩ : ∃ v, v = w5.drew := ⟨_, rfl⟩
    rw [← hwd]
    replace bB : Bx wd B 86 #[.int .i64 ki, .int .i64 b, .int .i64 T, .int .i64 F] := by rw [hwd]; exact bB.drew
    replace gG : Bx wd G 26 #[.int .i64 m3, .slice A ds.length C] := by rw [hwd]; exact gG.drew
    replace br : Bx wd r 86 #[.int .i64 0, .int .i64 0, .int .i64 0, .int .i64 0] := by rw [hwd]; exact br.drew
    replace bq : Bx wd (r + 1) 26 #[.int .i64 0, .slice none 0 0] := by rw [hwd]; exact bq.drew
    replace hbu : Below w.heap.size w wd := by rw [hwd]; exact hbu.drew
    have bdd : Below w5.heap.size w5 wd := by rw [hwd]; exact (Below.refl _ _).drew
    replace ow := ow.below bdd
    have hzd := bdd.size
    clear hwd bdd
    have hS : Bx wd B 86 #[.int .i64 ki, .int .i64 b, .int .i64 T, .int .i64 F] ∧ Bx wd G 26 #[.int .i64 m3, .slice A ds.length C] := ⟨bB, gG⟩
    have g0 : ∀ w', (Bx w' B 86 #[.int .i64 ki, .int .i64 b, .int .i64 T, .int .i64 F] ∧ Bx w' G 26 #[.int .i64 m3, .slice A ds.length C]) → w'.cell? ⟨B, 0, none⟩ = some (.int .i64 ki) := fun w' h => h.1.at_ 0 rfl
    have g1 : ∀ w', (Bx w' B 86 #[.int .i64 ki, .int .i64 b, .int .i64 T, .int .i64 F] ∧ Bx w' G 26 #[.int .i64 m3, .slice A ds.length C]) → w'.cell? ⟨B, 1, none⟩ = some (.int .i64 b) := fun w' h => h.1.at_ 1 rfl
    have g2 : ∀ w', (Bx w' B 86 #[.int .i64 ki, .int .i64 b, .int .i64 T, .int .i64 F] ∧ Bx w' G 26 #[.int .i64 m3, .slice A ds.length C]) → w'.cell? ⟨B, 2, none⟩ = some (.int .i64 T) := fun w' h => h.1.at_ 2 rfl
    have g3 : ∀ w', (Bx w' B 86 #[.int .i64 ki, .int .i64 b, .int .i64 T, .int .i64 F] ∧ Bx w' G 26 #[.int .i64 m3, .slice A ds.length C]) → w'.cell? ⟨B, 3, none⟩ = some (.int .i64 F) := fun w' h => h.1.at_ 3 rfl
    have g4 : ∀ w', (Bx w' B 86 #[.int .i64 ki, .int .i64 b, .int .i64 T, .int .i64 F] ∧ Bx w' G 26 #[.int .i64 m3, .slice A ds.length C]) → w'.cell? ⟨G, 0, none⟩ = some (.int .i64 m3) := fun w' h => h.2.at_ 0 rfl
    have g5 : ∀ w', (Bx w' B 86 #[.int .i64 ki, .int .i64 b, .int .i64 T, .int .i64 F] ∧ Bx w' G 26 #[.int .i64 m3, .slice A ds.length C]) → w'.cell? ⟨G, 1, none⟩ = some (.slice A ds.length C) := fun w' h => h.2.at_ 1 rfl
    refine wpAnyM_take (i := 0) (v := ?_) rfl (by kernel_rfl) (by kernel_rfl) (by kernel_rfl) (by kernel_rfl) (by kernel_rfl) (fun _ _ _ h => h) hS (.inl ⟨by rfl, ?_⟩) ?_
    rotate_left 1
    · intro w' hS'; go_simp; try with_reducible rfl
    simp only [Act.put, List.setIfInBounds_toArray]
    refine wpAnyM_take (i := 1) (v := ?_) rfl (by kernel_rfl) (by kernel_rfl) (by kernel_rfl) (by kernel_rfl) (by kernel_rfl) (fun _ _ _ h => h) hS (.inl ⟨by rfl, ?_⟩) ?_
    rotate_left 1
    · intro w' hS'; go_simp; try with_reducible rfl
    simp only [Act.put]
    clear g0 g1 g2 g3 g4 g5
    have r0 := br
    have q0 := bq
    have c0 := r0.at_ 0 rfl
    have c1 := r0.at_ 1 rfl
    have c2 := r0.at_ 2 rfl
    have c3 := r0.at_ 3 rfl
    have fc0 := r0.thaw 0
    have fc1 := r0.thaw 1
    have fc2 := r0.thaw 2
    have fc3 := r0.thaw 3
    have tt : Touch r (r + 2) wd ((((wd.setCell ⟨r, 0, none⟩ (.int .i64 ki)).setCell ⟨r, 1, none⟩ (.int .i64 b)).setCell ⟨r, 2, none⟩ (.int .i64 T)).setCell ⟨r, 3, none⟩ (.int .i64 F)) := (((((Touch.refl _ _ _).setCell (by simp) (by simp) _).setCell (by simp) (by simp) _).setCell (by simp) (by simp) _).setCell (by simp) (by simp) _)
    have tr : Touch r (r + 1) wd ((((wd.setCell ⟨r, 0, none⟩ (.int .i64 ki)).setCell ⟨r, 1, none⟩ (.int .i64 b)).setCell ⟨r, 2, none⟩ (.int .i64 T)).setCell ⟨r, 3, none⟩ (.int .i64 F)) := (((((Touch.refl _ _ _).setCell (by simp) (by simp) _).setCell (by simp) (by simp) _).setCell (by simp) (by simp) _).setCell (by simp) (by simp) _)
    have q1 := q0.touch tr (by omega)
    have k0 := q1.at_ 0 rfl
    have k1 := q1.at_ 1 rfl
    have fk0 := q1.thaw 0
    have fk1 := q1.thaw 1
    have t2 : Touch r (r + 2) wd ((((((wd.setCell ⟨r, 0, none⟩ (.int .i64 ki)).setCell ⟨r, 1, none⟩ (.int .i64 b)).setCell ⟨r, 2, none⟩ (.int .i64 T)).setCell ⟨r, 3, none⟩ (.int .i64 F)).setCell ⟨r + 1, 0, none⟩ (.int .i64 m3)).setCell ⟨r + 1, 1, none⟩ (.slice A ds.length C)) := (tt.setCell (by simp) (by simp) _).setCell (by simp) (by simp) _
    have HS1 := Lib.hid (show Bx ((((wd.setCell ⟨r, 0, none⟩ (.int .i64 ki)).setCell ⟨r, 1, none⟩ (.int .i64 b)).setCell ⟨r, 2, none⟩ (.int .i64 T)).setCell ⟨r, 3, none⟩ (.int .i64 F)) B 86 #[.int .i64 ki, .int .i64 b, .int .i64 T, .int .i64 F] ∧ Bx ((((wd.setCell ⟨r, 0, none⟩ (.int .i64 ki)).setCell ⟨r, 1, none⟩ (.int .i64 b)).setCell ⟨r, 2, none⟩ (.int .i64 T)).setCell ⟨r, 3, none⟩ (.int .i64 F)) G 26 #[.int .i64 m3, .slice A ds.length C] from ⟨hS.1.touch tt (by omega), hS.2.touch tt (by omega)⟩)
    have HB := Lib.hid ((hbu.trans (t2.below (by have := HR.out; omega) (by have := HR.out; have := br.lt; simp; omega))))
    have HO := Lib.hid (((ow.touch t2 (.inr (by omega))).wide (lo' := w.heap.size) (hi' := ((((((wd.setCell ⟨r, 0, none⟩ (.int .i64 ki)).setCell ⟨r, 1, none⟩ (.int .i64 b)).setCell ⟨r, 2, none⟩ (.int .i64 T)).setCell ⟨r, 3, none⟩ (.int .i64 F)).setCell ⟨r + 1, 0, none⟩ (.int .i64 m3)).setCell ⟨r + 1, 1, none⟩ (.slice A ds.length C)).heap.size) (by have := HR.out; omega) (by have := gG.lt; simp; omega)))
    have r9 := Lib.hid ((((((r0.set_ 0 (.int .i64 ki)).set_ 1 (.int .i64 b)).set_ 2 (.int .i64 T)).set_ 3 (.int .i64 F)).far (p := ⟨r + 1, 0, none⟩) (by simp) (.int .i64 m3)).far (p := ⟨r + 1, 1, none⟩) (by simp) (.slice A ds.length C))
    have q9 := Lib.hid ((q1.set_ 0 (.int .i64 m3)).set_ 1 (.slice A ds.length C))
    clear tt tr t2 r0 q0 q1 hS bB gG br bq ow hbu
    refine wpAnyM_one (i := 2) (by kernel_rfl) rfl (by rfl) (fun K hK => ?_)
    go_simp
    refine hK _ _ (.inr HS1.out) ?_
    try simp only [Act.put, List.setIfInBounds_toArray]
    clear hK HS1 c0 c1 c2 c3 fc0 fc1 fc2 fc3
    refine wpAnyM_one (i := 3) (by kernel_rfl) rfl (by rfl) (fun K hK => ?_)
    go_simp
    refine hK _ _ (.inl rfl) ?_
    clear hK
    refine wpAnyM_done (by kernel_rfl) ?_ _
    have p0 := r9.out.at_ 0 rfl
    have p1 := r9.out.at_ 1 rfl
    have p2 := r9.out.at_ 2 rfl
    have p3 := r9.out.at_ 3 rfl
    have p4 := q9.out.at_ 0 rfl
    have p5 := q9.out.at_ 1 rfl
    obtain ⟨wz, hwz⟩ : ∃ wz, wz = ((((((wd.setCell ⟨r, 0, none⟩ (.int .i64 ki)).setCell ⟨r, 1, none⟩ (.int .i64 b)).setCell ⟨r, 2, none⟩ (.int .i64 T)).setCell ⟨r, 3, none⟩ (.int .i64 F)).setCell ⟨r + 1, 0, none⟩ (.int .i64 m3)).setCell ⟨r + 1, 1, none⟩ (.slice A ds.length C)) := ⟨_, rfl⟩
    rw [← hwz] at p0 p1 p2 p3 p4 p5 HB HO ⊢
    clear hwz k0 k1 fk0 fk1 r9 q9
    go_wp2
    refine bodyPost_ret (v := .tuple #[.agg #[.int .i64 ki, .int .i64 b, .int .i64 T, .int .i64 F], .agg #[.int .i64 m3, .slice A ds.length C]]) (by simp [results, Try.results73, go_sem, p0, p1, p2, p3, p4, p5]) rfl ?_
    exact ⟨ki, b, T, F, m3, ds, A, C, rfl, HD.out, HRR.out, HO.out, HB.out⟩
  | true =>
    go_wp2_with fail
    refine (one_any s _ 8 w5 hsy (by omega) (by omega)).mono ?_
    rintro e w6 ⟨x, rfl, hs6, ht6⟩
    have hl6 := ht6.size
    replace bB := bB.touch ht6 (by omega)
    replace gG := gG.touch ht6 (by omega)
    replace br := br.touch ht6 (by omega)
    replace bq := bq.touch ht6 (by omega)
    replace ow := ow.touch ht6 (.inr (by omega))
    replace hbu := hbu.trans (ht6.below (by have := HR.out; omega) (by omega))
    clear ht6 hsy
    cases x with
    | true =>
      have HRR := Lib.hid hrr
      clear hrr hs6 hok
      go_wp2_with fail
      go_upto_region 6 with fail
      refine wp_region_marked (fun w' => Bx w' B 86 #[.int .i64 ki, .int .i64 b, .int .i64 T, .int .i64 F] ∧ Bx w' G 26 #[.int .i64 m3, .slice A ds.length C]) 3 (by kernel_rfl) ?_
      obtain ⟨wd, hwd⟩ : ∃ v, v = w6.drew := ⟨_, rfl⟩
      rw [← hwd]
      replace bB : Bx wd B 86 #[.int .i64 ki, .int .i64 b, .int .i64 T, .int .i64 F] := by rw [hwd]; exact bB.drew
      replace gG : Bx wd G 26 #[.int .i64 m3, .slice A ds.length C] := by rw [hwd]; exact gG.drew
      replace br : Bx wd r 86 #[.int .i64 0, .int .i64 0, .int .i64 0, .int .i64 0] := by rw [hwd]; exact br.drew
      replace bq : Bx wd (r + 1) 26 #[.int .i64 0, .slice none 0 0] := by rw [hwd]; exact bq.drew
      replace hbu : Below w.heap.size w wd := by rw [hwd]; exact hbu.drew
      have bdd : Below w6.heap.size w6 wd := by rw [hwd]; exact (Below.refl _ _).drew
      replace ow := ow.below bdd
      have hzd := bdd.size
      clear hwd bdd
      have hS : Bx wd B 86 #[.int .i64 ki, .int .i64 b, .int .i64 T, .int .i64 F] ∧ Bx wd G 26 #[.int .i64 m3, .slice A ds.length C] := ⟨bB, gG⟩
      have g0 : ∀ w', (Bx w' B 86 #[.int .i64 ki, .int .i64 b, .int .i64 T, .int .i64 F] ∧ Bx w' G 26 #[.int .i64 m3, .slice A ds.length C]) → w'.cell? ⟨B, 0, none⟩ = some (.int .i64 ki) := fun w' h => h.1.at_ 0 rfl
      have g1 : ∀ w', (Bx w' B 86 #[.int .i64 ki, .int .i64 b, .int .i64 T, .int .i64 F] ∧ Bx w' G 26 #[.int .i64 m3, .slice A ds.length C]) → w'.cell? ⟨B, 1, none⟩ = some (.int .i64 b) := fun w' h => h.1.at_ 1 rfl
      have g2 : ∀ w', (Bx w' B 86 #[.int .i64 ki, .int .i64 b, .int .i64 T, .int .i64 F] ∧ Bx w' G 26 #[.int .i64 m3, .slice A ds.length C]) → w'.cell? ⟨B, 2, none⟩ = some (.int .i64 T) := fun w' h => h.1.at_ 2 rfl
      have g3 : ∀ w', (Bx w' B 86 #[.int .i64 ki, .int .i64 b, .int .i64 T, .int .i64 F] ∧ Bx w' G 26 #[.int .i64 m3, .slice A ds.length C]) → w'.cell? ⟨B, 3, none⟩ = some (.int .i64 F) := fun w' h => h.1.at_ 3 rfl
      have g4 : ∀ w', (Bx w' B 86 #[.int .i64 ki, .int .i64 b, .int .i64 T, .int .i64 F] ∧ Bx w' G 26 #[.int .i64 m3, .slice A ds.length C]) → w'.cell? ⟨G, 0, none⟩ = some (.int .i64 m3) := fun w' h => h.2.at_ 0 rfl
      have g5 : ∀ w', (Bx w' B 86 #[.int .i64 ki, .int .i64 b, .int .i64 T, .int .i64 F] ∧ Bx w' G 26 #[.int .i64 m3, .slice A ds.length C]) → w'.cell? ⟨G, 1, none⟩ = some (.slice A ds.length C) := fun w' h => h.2.at_ 1 rfl
      refine wpAnyM_take (i := 0) (v := ?_) rfl (by kernel_rfl) (by kernel_rfl) (by kernel_rfl) (by kernel_rfl) (by kernel_rfl) (fun _ _ _ h => h) hS (.inl ⟨by rfl, ?_⟩) ?_
      rotate_left 1
      · intro w' hS'; go_simp; try with_reducible rfl
      simp only [Act.put, List.setIfInBounds_toArray]
      refine wpAnyM_take (i := 1) (v := ?_) rfl (by kernel_rfl) (by kernel_rfl) (by kernel_rfl) (by kernel_rfl) (by kernel_rfl) (fun _ _ _ h => h) hS (.inl ⟨by rfl, ?_⟩) ?_
      rotate_left 1
      · intro w' hS'; go_simp; try with_reducible rfl
      simp only [Act.put]
      clear g0 g1 g2 g3 g4 g5
      have r0 := br
      have q0 := bq
      have c0 := r0.at_ 0 rfl
      have c1 := r0.at_ 1 rfl
      have c2 := r0.at_ 2 rfl
      have c3 := r0.at_ 3 rfl
      have fc0 := r0.thaw 0
      have fc1 := r0.thaw 1
      have fc2 := r0.thaw 2
      have fc3 := r0.thaw 3
      have tt : Touch r (r + 2) wd ((((wd.setCell ⟨r, 0, none⟩ (.int .i64 ki)).setCell ⟨r, 1, none⟩ (.int .i64 b)).setCell ⟨r, 2, none⟩ (.int .i64 T)).setCell ⟨r, 3, none⟩ (.int .i64 F)) := (((((Touch.refl _ _ _).setCell (by simp) (by simp) _).setCell (by simp) (by simp) _).setCell (by simp) (by simp) _).setCell (by simp) (by simp) _)
      have tr : Touch r (r + 1) wd ((((wd.setCell ⟨r, 0, none⟩ (.int .i64 ki)).setCell ⟨r, 1, none⟩ (.int .i64 b)).setCell ⟨r, 2, none⟩ (.int .i64 T)).setCell ⟨r, 3, none⟩ (.int .i64 F)) := (((((Touch.refl _ _ _).setCell (by simp) (by simp) _).setCell (by simp) (by simp) _).setCell (by simp) (by simp) _).setCell (by simp) (by simp) _)
      have q1 := q0.touch tr (by omega)
      have k0 := q1.at_ 0 rfl
      have k1 := q1.at_ 1 rfl
      have fk0 := q1.thaw 0
      have fk1 := q1.thaw 1
      have t2 : Touch r (r + 2) wd ((((((wd.setCell ⟨r, 0, none⟩ (.int .i64 ki)).setCell ⟨r, 1, none⟩ (.int .i64 b)).setCell ⟨r, 2, none⟩ (.int .i64 T)).setCell ⟨r, 3, none⟩ (.int .i64 F)).setCell ⟨r + 1, 0, none⟩ (.int .i64 m3)).setCell ⟨r + 1, 1, none⟩ (.slice A ds.length C)) := (tt.setCell (by simp) (by simp) _).setCell (by simp) (by simp) _
      have HS1 := Lib.hid (show Bx ((((wd.setCell ⟨r, 0, none⟩ (.int .i64 ki)).setCell ⟨r, 1, none⟩ (.int .i64 b)).setCell ⟨r, 2, none⟩ (.int .i64 T)).setCell ⟨r, 3, none⟩ (.int .i64 F)) B 86 #[.int .i64 ki, .int .i64 b, .int .i64 T, .int .i64 F] ∧ Bx ((((wd.setCell ⟨r, 0, none⟩ (.int .i64 ki)).setCell ⟨r, 1, none⟩ (.int .i64 b)).setCell ⟨r, 2, none⟩ (.int .i64 T)).setCell ⟨r, 3, none⟩ (.int .i64 F)) G 26 #[.int .i64 m3, .slice A ds.length C] from ⟨hS.1.touch tt (by omega), hS.2.touch tt (by omega)⟩)
      have HB := Lib.hid ((hbu.trans (t2.below (by have := HR.out; omega) (by have := HR.out; have := br.lt; simp; omega))))
      have HO := Lib.hid (((ow.touch t2 (.inr (by omega))).wide (lo' := w.heap.size) (hi' := ((((((wd.setCell ⟨r, 0, none⟩ (.int .i64 ki)).setCell ⟨r, 1, none⟩ (.int .i64 b)).setCell ⟨r, 2, none⟩ (.int .i64 T)).setCell ⟨r, 3, none⟩ (.int .i64 F)).setCell ⟨r + 1, 0, none⟩ (.int .i64 m3)).setCell ⟨r + 1, 1, none⟩ (.slice A ds.length C)).heap.size) (by have := HR.out; omega) (by have := gG.lt; simp; omega)))
      have r9 := Lib.hid ((((((r0.set_ 0 (.int .i64 ki)).set_ 1 (.int .i64 b)).set_ 2 (.int .i64 T)).set_ 3 (.int .i64 F)).far (p := ⟨r + 1, 0, none⟩) (by simp) (.int .i64 m3)).far (p := ⟨r + 1, 1, none⟩) (by simp) (.slice A ds.length C))
      have q9 := Lib.hid ((q1.set_ 0 (.int .i64 m3)).set_ 1 (.slice A ds.length C))
      clear tt tr t2 r0 q0 q1 hS bB gG br bq ow hbu
      refine wpAnyM_one (i := 2) (by kernel_rfl) rfl (by rfl) (fun K hK => ?_)
      go_simp
      refine hK _ _ (.inr HS1.out) ?_
      try simp only [Act.put, List.setIfInBounds_toArray]
      clear hK HS1 c0 c1 c2 c3 fc0 fc1 fc2 fc3
      refine wpAnyM_one (i := 3) (by kernel_rfl) rfl (by rfl) (fun K hK => ?_)
      go_simp
      refine hK _ _ (.inl rfl) ?_
      clear hK
      refine wpAnyM_done (by kernel_rfl) ?_ _
      have p0 := r9.out.at_ 0 rfl
      have p1 := r9.out.at_ 1 rfl
      have p2 := r9.out.at_ 2 rfl
      have p3 := r9.out.at_ 3 rfl
      have p4 := q9.out.at_ 0 rfl
      have p5 := q9.out.at_ 1 rfl
      obtain ⟨wz, hwz⟩ : ∃ wz, wz = ((((((wd.setCell ⟨r, 0, none⟩ (.int .i64 ki)).setCell ⟨r, 1, none⟩ (.int .i64 b)).setCell ⟨r, 2, none⟩ (.int .i64 T)).setCell ⟨r, 3, none⟩ (.int .i64 F)).setCell ⟨r + 1, 0, none⟩ (.int .i64 m3)).setCell ⟨r + 1, 1, none⟩ (.slice A ds.length C)) := ⟨_, rfl⟩
      rw [← hwz] at p0 p1 p2 p3 p4 p5 HB HO ⊢
      clear hwz k0 k1 fk0 fk1 r9 q9
      go_wp2
      refine bodyPost_ret (v := .tuple #[.agg #[.int .i64 ki, .int .i64 b, .int .i64 T, .int .i64 F], .agg #[.int .i64 m3, .slice A ds.length C]]) (by simp [results, Try.results73, go_sem, p0, p1, p2, p3, p4, p5]) rfl ?_
      exact ⟨ki, b, T, F, m3, ds, A, C, rfl, HD.out, HRR.out, HO.out, HB.out⟩
    | false =>
      have hDm := drm_of hok
      have hb1 := hDm.b1
      have hb2 := hDm.b2
      clear hrr hok hDm ow
      go_upto_region 5 with fail
      refine wp_region_marked (fun w' => Bx w' B 86 #[.int .i64 ki, .int .i64 b, .int .i64 T, .int .i64 F]) 10 (by kernel_rfl) ?_
      have hS : Bx w6.drew B 86 #[.int .i64 ki, .int .i64 b, .int .i64 T, .int .i64 F] := bB.drew
      have g1 : ∀ w', Bx w' B 86 #[.int .i64 ki, .int .i64 b, .int .i64 T, .int .i64 F] → w'.cell? ⟨B, 1, none⟩ = some (.int .i64 b) := fun w' h => h.at_ 1 rfl
      refine wpAnyM_take (i := 0) (v := ?_) rfl (by kernel_rfl) (by kernel_rfl) (by kernel_rfl) (by kernel_rfl) (by kernel_rfl) (fun _ _ _ h => h) hS (.inl ⟨by rfl, ?_⟩) ?_
      rotate_left 1
      · intro w' hS'; go_simp; try with_reducible rfl
      simp only [Act.put, List.setIfInBounds_toArray]
      refine wpAnyM_take (i := 1) (v := ?_) rfl (by kernel_rfl) (by kernel_rfl) (by kernel_rfl) (by kernel_rfl) (by kernel_rfl) (fun _ _ _ h => h) hS (.inl ⟨by rfl, ?_⟩) ?_
      rotate_left 1
      · intro w' hS'; go_simp; try with_reducible rfl
      simp only [Act.put]
      refine wpAnyM_take (i := 2) (v := ?_) rfl (by kernel_rfl) (by kernel_rfl) (by kernel_rfl) (by kernel_rfl) (by kernel_rfl) (fun _ _ _ h => h) hS (.inl ⟨by rfl, ?_⟩) ?_
      rotate_left 1
      · intro w' hS'; go_simp; try with_reducible rfl
      simp only [Act.put]
      refine wpAnyM_take (i := 3) (v := ?_) rfl (by kernel_rfl) (by kernel_rfl) (by kernel_rfl) (by kernel_rfl) (by kernel_rfl) (fun _ _ _ h => h) hS (.inl ⟨by rfl, ?_⟩) ?_
      rotate_left 1
      · intro w' hS'; go_simp; try with_reducible rfl
      simp only [Act.put]
      refine wpAnyM_take (i := 4) (v := ?_) rfl (by kernel_rfl) (by kernel_rfl) (by kernel_rfl) (by kernel_rfl) (by kernel_rfl) (fun _ _ _ h => h) hS (.inl ⟨by rfl, ?_⟩) ?_
      rotate_left 1
      · intro w' hS'; go_simp; try with_reducible rfl
      simp only [Act.put]
      refine wpAnyM_take (i := 5) (v := ?_) rfl (by kernel_rfl) (by kernel_rfl) (by kernel_rfl) (by kernel_rfl) (by kernel_rfl) (fun _ _ _ h => h) hS (.inl ⟨by rfl, ?_⟩) ?_
      rotate_left 1
      · intro w' hS'; go_simp; try with_reducible rfl
      simp only [Act.put]
      refine wpAnyM_one (i := 6) (by kernel_rfl) rfl (by rfl) (fun K hK => ?_)
      go_simp
      refine (pick_any s _ 6 w6.drew (hs6.lo (L := w6.heap.size) ((Below.refl _ _).drew) (by omega)) (by omega) (by omega)).mono ?_
      rintro e w7 ⟨y, rfl, y0, y1, hs7, ht7⟩
      have t67 : Touch s (s + 1) w6 w7 := ((Touch.refl _ _ _).drewN 1).trans ht7
      have hl7 := t67.size
      replace hS := hS.touch ht7 (by omega)
      refine hK _ _ (.inr hS) ?_
      try simp only [Act.put, List.setIfInBounds_toArray]
      clear hK K ht7 hs6
      obtain ⟨n, hn⟩ : ∃ n : Nat, 1 + y = (n : Int) := ⟨(1 + y).toNat, by omega⟩
      have hn6 : n ≤ 6 := by omega
      have hwn : IntKind.i64.wrap (n : Int) = (n : Int) := fits_int _ (by omega) (by omega)
      refine wpAnyM_one (i := 7) (by kernel_rfl) rfl (by rfl) (fun K hK => ?_)
      go_simp
      refine hK _ _ (.inr hS) ?_
      try simp only [Act.put, List.setIfInBounds_toArray]
      clear hK K hwn hn y0 y1
      refine wpAnyM_one (i := 8) (by kernel_rfl) rfl (by rfl) (fun K hK => ?_)
      go_simp
      refine (drawDigits_any s _ b n w7 hs7 (by omega) hb1 hb2 (by omega)).mono ?_
      rintro e w8 ⟨dx, A', C', rfl, hlen, hdig, ox, ht8, hs8⟩
      subst hlen
      have t68 := t67.trans ht8
      have hl8 := ht8.size
      replace hS := hS.touch ht8 (by omega)
      have HRR := Lib.hid (bentOfDigs hdig hb1 hb2 (by omega))
      refine hK _ _ (.inr hS) ?_
      try simp only [Act.put, List.setIfInBounds_toArray]
      clear hK K ht8 hs7 hs8 hdig t67
      refine wpAnyM_one (i := 9) (by kernel_rfl) rfl (by rfl) (fun K hK => ?_)
      go_simp
      refine hK _ _ (.inr hS) ?_
      try simp only [Act.put, List.setIfInBounds_toArray]
      clear hK K
      replace bB := bB.touch t68 (by omega)
      replace gG := gG.touch t68 (by omega)
      replace br := br.touch t68 (by omega)
      replace bq := bq.touch t68 (by omega)
      have hwz := hbu.size
      replace hbu := hbu.trans (t68.below (by have := HR.out; omega) hwz)
      replace ox := ox.wide (lo' := G + 1) (hi' := w8.heap.size) (by omega) (Nat.le_refl _)
      have c0 := gG.at_ 0 rfl
      have c1 := gG.at_ 1 rfl
      have fc0 := gG.thaw 0
      have fc1 := gG.thaw 1
      have hG8 := gG.lt
      have tg : Touch G (G + 1) w8 ((w8.setCell ⟨G, 0, none⟩ (.int .i64 b)).setCell ⟨G, 1, none⟩ (.slice A' dx.length C')) := ((Touch.refl _ _ _).setCell (by simp) (by simp) _).setCell (by simp) (by simp) _
      have hzz : ((w8.setCell ⟨G, 0, none⟩ (.int .i64 b)).setCell ⟨G, 1, none⟩ (.slice A' dx.length C')).heap.size = w8.heap.size := by simp
      have g9 := (gG.set_ 0 (.int .i64 b)).set_ 1 (.slice A' dx.length C')
      replace bB := bB.touch tg (by omega)
      replace br := br.touch tg (by omega)
      replace bq := bq.touch tg (by omega)
      replace ox := ox.touch tg (.inr (by omega))
      replace hbu := hbu.trans (tg.below (by have := HR.out; omega) (by have := HR.out; omega))
      have B9 := Lib.hid bB
      have G9 := Lib.hid g9
      have R9 := Lib.hid br
      have Q9 := Lib.hid bq
      have O9 := Lib.hid ox
      have H9 := Lib.hid hbu
      have Z9 := Lib.hid hzz
      clear bB gG g9 br bq ox hbu tg t68 hS hzz g1
      refine wpAnyM_one (i := 10) (by kernel_rfl) rfl (by rfl) (fun K hK => ?_)
      go_simp
      refine hK _ _ (.inl rfl) ?_
      clear hK K c0 c1 fc0 fc1
      refine wpAnyM_done (by kernel_rfl) ?_ _
      obtain ⟨w9, hw9⟩ : ∃ w9, w9 = ((w8.setCell ⟨G, 0, none⟩ (.int .i64 b)).setCell ⟨G, 1, none⟩ (.slice A' dx.length C')) := ⟨_, rfl⟩
      rw [← hw9] at B9 G9 R9 Q9 O9 H9 Z9 ⊢
      clear hw9
      have bB := B9.out
      have gG : Bx w9 G 26 #[.int .i64 b, .slice A' dx.length C'] := G9.out
      have br := R9.out
      have bq := Q9.out
      have ow := O9.out.wide (lo' := s + 1) (hi' := w9.heap.size) (by omega) (by have := Z9.out; omega)
      have hbu := H9.out
      have hz9 := Z9.out
      clear B9 G9 R9 Q9 O9 H9 Z9
      go_upto_region 6 with fail
      refine wp_region_marked (fun w' => Bx w' B 86 #[.int .i64 ki, .int .i64 b, .int .i64 T, .int .i64 F] ∧ Bx w' G 26 #[.int .i64 b, .slice A' dx.length C']) 3 (by kernel_rfl) ?_
      obtain ⟨wd, hwd⟩ : ∃ v, v = w9.drew := ⟨_, rfl⟩
      rw [← hwd]
      replace bB : Bx wd B 86 #[.int .i64 ki, .int .i64 b, .int .i64 T, .int .i64 F] := by rw [hwd]; exact bB.drew
      replace gG : Bx wd G 26 #[.int .i64 b, .slice A' dx.length C'] := by rw [hwd]; exact gG.drew
      replace br : Bx wd r 86 #[.int .i64 0, .int .i64 0, .int .i64 0, .int .i64 0] := by rw [hwd]; exact br.drew
      replace bq : Bx wd (r + 1) 26 #[.int .i64 0, .slice none 0 0] := by rw [hwd]; exact bq.drew
      replace hbu : Below w.heap.size w wd := by rw [hwd]; exact hbu.drew
      have bdd : Below w9.heap.size w9 wd := by rw [hwd]; exact (Below.refl _ _).drew
      replace ow := ow.below bdd
      have hzd := bdd.size
      clear hwd bdd
      have hS : Bx wd B 86 #[.int .i64 ki, .int .i64 b, .int .i64 T, .int .i64 F] ∧ Bx wd G 26 #[.int .i64 b, .slice A' dx.length C'] := ⟨bB, gG⟩
      have g0 : ∀ w', (Bx w' B 86 #[.int .i64 ki, .int .i64 b, .int .i64 T, .int .i64 F] ∧ Bx w' G 26 #[.int .i64 b, .slice A' dx.length C']) → w'.cell? ⟨B, 0, none⟩ = some (.int .i64 ki) := fun w' h => h.1.at_ 0 rfl
      have g1 : ∀ w', (Bx w' B 86 #[.int .i64 ki, .int .i64 b, .int .i64 T, .int .i64 F] ∧ Bx w' G 26 #[.int .i64 b, .slice A' dx.length C']) → w'.cell? ⟨B, 1, none⟩ = some (.int .i64 b) := fun w' h => h.1.at_ 1 rfl
      have g2 : ∀ w', (Bx w' B 86 #[.int .i64 ki, .int .i64 b, .int .i64 T, .int .i64 F] ∧ Bx w' G 26 #[.int .i64 b, .slice A' dx.length C']) → w'.cell? ⟨B, 2, none⟩ = some (.int .i64 T) := fun w' h => h.1.at_ 2 rfl
      have g3 : ∀ w', (Bx w' B 86 #[.int .i64 ki, .int .i64 b, .int .i64 T, .int .i64 F] ∧ Bx w' G 26 #[.int .i64 b, .slice A' dx.length C']) → w'.cell? ⟨B, 3, none⟩ = some (.int .i64 F) := fun w' h => h.1.at_ 3 rfl
      have g4 : ∀ w', (Bx w' B 86 #[.int .i64 ki, .int .i64 b, .int .i64 T, .int .i64 F] ∧ Bx w' G 26 #[.int .i64 b, .slice A' dx.length C']) → w'.cell? ⟨G, 0, none⟩ = some (.int .i64 b) := fun w' h => h.2.at_ 0 rfl
      have g5 : ∀ w', (Bx w' B 86 #[.int .i64 ki, .int .i64 b, .int .i64 T, .int .i64 F] ∧ Bx w' G 26 #[.int .i64 b, .slice A' dx.length C']) → w'.cell? ⟨G, 1, none⟩ = some (.slice A' dx.length C') := fun w' h => h.2.at_ 1 rfl
      refine wpAnyM_take (i := 0) (v := ?_) rfl (by kernel_rfl) (by kernel_rfl) (by kernel_rfl) (by kernel_rfl) (by kernel_rfl) (fun _ _ _ h => h) hS (.inl ⟨by rfl, ?_⟩) ?_
      rotate_left 1
      · intro w' hS'; go_simp; try with_reducible rfl
      simp only [Act.put, List.setIfInBounds_toArray]
      refine wpAnyM_take (i := 1) (v := ?_) rfl (by kernel_rfl) (by kernel_rfl) (by kernel_rfl) (by kernel_rfl) (by kernel_rfl) (fun _ _ _ h => h) hS (.inl ⟨by rfl, ?_⟩) ?_
      rotate_left 1
      · intro w' hS'; go_simp; try with_reducible rfl
      simp only [Act.put]
      clear g0 g1 g2 g3 g4 g5
      have r0 := br
      have q0 := bq
      have c0 := r0.at_ 0 rfl
      have c1 := r0.at_ 1 rfl
      have c2 := r0.at_ 2 rfl
      have c3 := r0.at_ 3 rfl
      have fc0 := r0.thaw 0
      have fc1 := r0.thaw 1
      have fc2 := r0.thaw 2
      have fc3 := r0.thaw 3
      have tt : Touch r (r + 2) wd ((((wd.setCell ⟨r, 0, none⟩ (.int .i64 ki)).setCell ⟨r, 1, none⟩ (.int .i64 b)).setCell ⟨r, 2, none⟩ (.int .i64 T)).setCell ⟨r, 3, none⟩ (.int .i64 F)) := (((((Touch.refl _ _ _).setCell (by simp) (by simp) _).setCell (by simp) (by simp) _).setCell (by simp) (by simp) _).setCell (by simp) (by simp) _)
      have tr : Touch r (r + 1) wd ((((wd.setCell ⟨r, 0, none⟩ (.int .i64 ki)).setCell ⟨r, 1, none⟩ (.int .i64 b)).setCell ⟨r, 2, none⟩ (.int .i64 T)).setCell ⟨r, 3, none⟩ (.int .i64 F)) := (((((Touch.refl _ _ _).setCell (by simp) (by simp) _).setCell (by simp) (by simp) _).setCell (by simp) (by simp) _).setCell (by simp) (by simp) _)
      have q1 := q0.touch tr (by omega)
      have k0 := q1.at_ 0 rfl
      have k1 := q1.at_ 1 rfl
      have fk0 := q1.thaw 0
      have fk1 := q1.thaw 1
      have t2 : Touch r (r + 2) wd ((((((wd.setCell ⟨r, 0, none⟩ (.int .i64 ki)).setCell ⟨r, 1, none⟩ (.int .i64 b)).setCell ⟨r, 2, none⟩ (.int .i64 T)).setCell ⟨r, 3, none⟩ (.int .i64 F)).setCell ⟨r + 1, 0, none⟩ (.int .i64 b)).setCell ⟨r + 1, 1, none⟩ (.slice A' dx.length C')) := (tt.setCell (by simp) (by simp) _).setCell (by simp) (by simp) _
      have HS1 := Lib.hid (show Bx ((((wd.setCell ⟨r, 0, none⟩ (.int .i64 ki)).setCell ⟨r, 1, none⟩ (.int .i64 b)).setCell ⟨r, 2, none⟩ (.int .i64 T)).setCell ⟨r, 3, none⟩ (.int .i64 F)) B 86 #[.int .i64 ki, .int .i64 b, .int .i64 T, .int .i64 F] ∧ Bx ((((wd.setCell ⟨r, 0, none⟩ (.int .i64 ki)).setCell ⟨r, 1, none⟩ (.int .i64 b)).setCell ⟨r, 2, none⟩ (.int .i64 T)).setCell ⟨r, 3, none⟩ (.int .i64 F)) G 26 #[.int .i64 b, .slice A' dx.length C'] from ⟨hS.1.touch tt (by omega), hS.2.touch tt (by omega)⟩)
      have HB := Lib.hid ((hbu.trans (t2.below (by have := HR.out; omega) (by have := HR.out; have := br.lt; simp; omega))))
      have HO := Lib.hid (((ow.touch t2 (.inr (by omega))).wide (lo' := w.heap.size) (hi' := ((((((wd.setCell ⟨r, 0, none⟩ (.int .i64 ki)).setCell ⟨r, 1, none⟩ (.int .i64 b)).setCell ⟨r, 2, none⟩ (.int .i64 T)).setCell ⟨r, 3, none⟩ (.int .i64 F)).setCell ⟨r + 1, 0, none⟩ (.int .i64 b)).setCell ⟨r + 1, 1, none⟩ (.slice A' dx.length C')).heap.size) (by have := HR.out; omega) (by have := gG.lt; simp; omega)))
      have r9 := Lib.hid ((((((r0.set_ 0 (.int .i64 ki)).set_ 1 (.int .i64 b)).set_ 2 (.int .i64 T)).set_ 3 (.int .i64 F)).far (p := ⟨r + 1, 0, none⟩) (by simp) (.int .i64 b)).far (p := ⟨r + 1, 1, none⟩) (by simp) (.slice A' dx.length C'))
      have q9 := Lib.hid ((q1.set_ 0 (.int .i64 b)).set_ 1 (.slice A' dx.length C'))
      clear tt tr t2 r0 q0 q1 hS bB gG br bq ow hbu
      refine wpAnyM_one (i := 2) (by kernel_rfl) rfl (by rfl) (fun K hK => ?_)
      go_simp
      refine hK _ _ (.inr HS1.out) ?_
      try simp only [Act.put, List.setIfInBounds_toArray]
      clear hK HS1 c0 c1 c2 c3 fc0 fc1 fc2 fc3
      refine wpAnyM_one (i := 3) (by kernel_rfl) rfl (by rfl) (fun K hK => ?_)
      go_simp
      refine hK _ _ (.inl rfl) ?_
      clear hK
      refine wpAnyM_done (by kernel_rfl) ?_ _
      have p0 := r9.out.at_ 0 rfl
      have p1 := r9.out.at_ 1 rfl
      have p2 := r9.out.at_ 2 rfl
      have p3 := r9.out.at_ 3 rfl
      have p4 := q9.out.at_ 0 rfl
      have p5 := q9.out.at_ 1 rfl
      obtain ⟨wz, hwz⟩ : ∃ wz, wz = ((((((wd.setCell ⟨r, 0, none⟩ (.int .i64 ki)).setCell ⟨r, 1, none⟩ (.int .i64 b)).setCell ⟨r, 2, none⟩ (.int .i64 T)).setCell ⟨r, 3, none⟩ (.int .i64 F)).setCell ⟨r + 1, 0, none⟩ (.int .i64 b)).setCell ⟨r + 1, 1, none⟩ (.slice A' dx.length C')) := ⟨_, rfl⟩
      rw [← hwz] at p0 p1 p2 p3 p4 p5 HB HO ⊢
      clear hwz k0 k1 fk0 fk1 r9 q9
      go_wp2
      refine bodyPost_ret (v := .tuple #[.agg #[.int .i64 ki, .int .i64 b, .int .i64 T, .int .i64 F], .agg #[.int .i64 b, .slice A' dx.length C']]) (by simp [results, Try.results73, go_sem, p0, p1, p2, p3, p4, p5]) rfl ?_
      exact ⟨ki, b, T, F, b, dx, A', C', rfl, HD.out, HRR.out, HO.out, HB.out⟩
end Go.Proofs.Ytgfpjcckkbhdjaa
