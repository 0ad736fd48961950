/-
  DrawStepTimes, DrawStepsBy, DrawStepsBetween, DrawDigitFor, DrawDrumLines, DrawDrumName.
-/
import Derived.Test.YtcfpfhlgcfmioaaDoorDrawsM
import Derived.Test.YtcfpfhlgcfmioaaDoorDrumS
import Derived.Test.YtcfpfhlgcfmioaaDoorOrdC
import Derived.Deep.Cut
namespace Go.Proofs.YtcfpfhlgcfmioaaDoor
open Go.RowKit
/-- What stands while a drum is drawn: the result's box r, the source g, the drum in box B. -/
structure Dq (w : World) (r g B : Nat) (K b T F : Int) (N : Nat) (X : World) : Prop where
  br : Bx X r 25 #[.int .i64 0, .int .i64 0, .int .i64 0, .int .i64 0]
  bB : Bx X B 25 #[.int .i64 K, .int .i64 b, .int .i64 T, .int .i64 F]
  src : Src X g N
  bel : Below w.heap.size w X
  wr : w.heap.size ≤ r
  rg : r < g
  gB : g < B
  d : BentK K b T F
section
variable {w X Y : World} {r g B : Nat} {K b T F : Int} {N N' : Nat}
theorem Dq.lt (h : Dq w r g B K b T F N X) : B < X.heap.size := h.bB.lt
theorem Dq.touch (h : Dq w r g B K b T F N X) (ht : Touch g (g + 1) X Y) (hs : Src Y g N') : Dq w r g B K b T F N' Y := by
  have h1 := h.rg; have h2 := h.gB; have h4 := h.wr
  exact ⟨h.br.touch ht (by omega), h.bB.touch ht (by omega), hs, h.bel.trans (ht.below (by omega) h.bel.size), h.wr, h.rg, h.gB, h.d⟩
theorem Dq.lo {M : Nat} (h : Dq w r g B K b T F N X) (hb : Below M X Y) (hM : B < M) : Dq w r g B K b T F N Y := by
  have h1 := h.rg; have h2 := h.gB; have h4 := h.wr
  exact ⟨h.br.lo hb (by omega), h.bB.lo hb hM, h.src.lo hb (by omega), h.bel.trans (hb.mono (by omega)), h.wr, h.rg, h.gB, h.d⟩
theorem Dq.drew (h : Dq w r g B K b T F N X) : Dq w r g B K b T F N X.drew := h.lo (M := B + 1) (Below.refl _ _).drew (Nat.lt_succ_self _)
end
/-- The four cells of a box are written. -/
theorem bx_putD {X : World} {G : Nat} {t : TypeId} {a b c d a' b' c' d' : Value} (h : Bx X G t #[a, b, c, d]) :
    Bx ((((X.setCell ⟨G, 0, none⟩ a').setCell ⟨G, 1, none⟩ b').setCell ⟨G, 2, none⟩ c').setCell ⟨G, 3, none⟩ d') G t #[a', b', c', d'] ∧
    Touch G (G + 1) X ((((X.setCell ⟨G, 0, none⟩ a').setCell ⟨G, 1, none⟩ b').setCell ⟨G, 2, none⟩ c').setCell ⟨G, 3, none⟩ d') := by
  have h1 := (((h.set_ 0 a').set_ 1 b').set_ 2 c').set_ 3 d'
  refine ⟨by simpa using h1, ?_⟩
  exact ((((Touch.refl G (G + 1) X).setCell (p := ⟨G, 0, none⟩) (Nat.le_refl _) (Nat.lt_succ_self _) a').setCell (p := ⟨G, 1, none⟩) (Nat.le_refl _) (Nat.lt_succ_self _) b').setCell (p := ⟨G, 2, none⟩) (Nat.le_refl _) (Nat.lt_succ_self _) c').setCell (p := ⟨G, 3, none⟩) (Nat.le_refl _) (Nat.lt_succ_self _) d'
set_option maxRecDepth 100000 in
set_option maxHeartbeats 8000000 in
theorem drawStepTimes_any (a : Option Addr) (zs : List Int) (c : Nat) (w : World) (h : RdU w a zs) :
    Calls Tryd.prog 11 #[.slice a zs.length c] w fun e w' => ∃ K b T F d : Int, e = .returned (.tuple #[.agg #[.int .i64 K, .int .i64 b, .int .i64 T, .int .i64 F], .int .i64 d]) ∧ BentK K b T F ∧ I64 d ∧ Below w.heap.size w w' := by
  obtain ⟨r, hr⟩ : ∃ r, r = w.heap.size := ⟨_, rfl⟩
  obtain ⟨u, hu⟩ : ∃ u, u = w.alloc (.cells #[.int .i64 0, .int .i64 0, .int .i64 0, .int .i64 0] 25) := ⟨_, rfl⟩
  have br : Bx u r 25 #[.int .i64 0, .int .i64 0, .int .i64 0, .int .i64 0] := by rw [hu, hr]; exact Bx.new _ _ _
  have hbu : Below w.heap.size w u := by rw [hu]; exact (by repeat (first | exact Below.refl _ _ | refine Below.setCell ?_ (by first | omega | (simp <;> omega)) _ | refine Below.alloc ?_ (by first | omega | (simp <;> omega)) _ | refine Below.drew ?_))
  have hsu : u.heap.size = r + 1 := by rw [hu, hr]; simp
  have HU := Lib.hid hu
  have HR := Lib.hid hr
  clear hu
  go_enter Tryd.func11, Tryd.ntmps11
  go_wp2_with fail
  rw [← HU.out, ← hr]
  clear hr
  refine (from_any a zs c u (h.below hbu)).mono ?_
  rintro e w1 ⟨g, rfl, hg, hs, hb1⟩
  replace br := br.below hb1
  replace hbu := hbu.trans (hb1.mono hbu.size)
  have hgl := hs.lt
  have hrg : r < g := by omega
  have hwr : w.heap.size ≤ r := by have := HR.out; omega
  clear hb1 hg hsu h
  go_wp2_with fail
  refine (drumDigit_any g _ w1 hs (by omega)).mono ?_
  rintro e w2 ⟨K, b, T, F, d, rfl, hd, hdI, ht, hs2⟩
  have hl2 := ht.size
  replace br := br.touch ht (by omega)
  replace hbu : Below w.heap.size w w2 := hbu.trans (ht.below (by omega) hbu.size)
  have hgl2 := hs2.lt
  clear ht hs hgl
  have c0 := br.at_ 0 rfl
  have c1 := br.at_ 1 rfl
  have c2 := br.at_ 2 rfl
  have c3 := br.at_ 3 rfl
  have f0 := br.thaw 0
  have f1 := br.thaw 1
  have f2 := br.thaw 2
  have f3 := br.thaw 3
  obtain ⟨bz, tz⟩ := bx_putD (a' := .int .i64 K) (b' := .int .i64 b) (c' := .int .i64 T) (d' := .int .i64 F) br
  have q0 := bz.at_ 0 rfl
  have q1 := bz.at_ 1 rfl
  have q2 := bz.at_ 2 rfl
  have q3 := bz.at_ 3 rfl
  have hbz := hbu.trans (tz.below hwr hbu.size)
  go_wp2_with fail
  exact bodyPost_ret (v := .tuple #[.agg #[.int .i64 K, .int .i64 b, .int .i64 T, .int .i64 F], .int .i64 d]) (by simp [results, Tryd.results11, go_sem, q0, q1, q2, q3]) rfl ⟨K, b, T, F, d, rfl, hd, hdI, hbz⟩
set_option maxRecDepth 100000 in
set_option maxHeartbeats 8000000 in
theorem drawDrumLines_any (a : Option Addr) (zs : List Int) (c : Nat) (w : World) (h : RdU w a zs) :
    Calls Tryd.prog 17 #[.slice a zs.length c] w fun e w' => ∃ K b T F : Int, e = .returned (.agg #[.int .i64 K, .int .i64 b, .int .i64 T, .int .i64 F]) ∧ BentK K b T F ∧ Below w.heap.size w w' := by
  obtain ⟨r, hr⟩ : ∃ r, r = w.heap.size := ⟨_, rfl⟩
  obtain ⟨u, hu⟩ : ∃ u, u = w.alloc (.cells #[.int .i64 0, .int .i64 0, .int .i64 0, .int .i64 0] 25) := ⟨_, rfl⟩
  have br : Bx u r 25 #[.int .i64 0, .int .i64 0, .int .i64 0, .int .i64 0] := by rw [hu, hr]; exact Bx.new _ _ _
  have hbu : Below w.heap.size w u := by rw [hu]; exact (by repeat (first | exact Below.refl _ _ | refine Below.setCell ?_ (by first | omega | (simp <;> omega)) _ | refine Below.alloc ?_ (by first | omega | (simp <;> omega)) _ | refine Below.drew ?_))
  have hsu : u.heap.size = r + 1 := by rw [hu, hr]; simp
  have HU := Lib.hid hu
  have HR := Lib.hid hr
  clear hu
  go_enter Tryd.func17, Tryd.ntmps17
  go_wp2_with fail
  rw [← HU.out, ← hr]
  clear hr
  refine (from_any a zs c u (h.below hbu)).mono ?_
  rintro e w1 ⟨g, rfl, hg, hs, hb1⟩
  replace br := br.below hb1
  replace hbu := hbu.trans (hb1.mono hbu.size)
  have hgl := hs.lt
  have hrg : r < g := by omega
  have hwr : w.heap.size ≤ r := by have := HR.out; omega
  clear hb1 hg hsu h
  go_wp2_with fail
  refine (bentDrum_any g _ w1 hs (by omega)).mono ?_
  rintro e w2 ⟨K, b, T, F, rfl, hd, ht, hs2⟩
  replace br := br.touch ht (by omega)
  replace hbu : Below w.heap.size w w2 := hbu.trans (ht.below (by omega) hbu.size)
  clear ht hs hgl
  have c0 := br.at_ 0 rfl
  have c1 := br.at_ 1 rfl
  have c2 := br.at_ 2 rfl
  have c3 := br.at_ 3 rfl
  have f0 := br.thaw 0
  have f1 := br.thaw 1
  have f2 := br.thaw 2
  have f3 := br.thaw 3
  obtain ⟨bz, tz⟩ := bx_putD (a' := .int .i64 K) (b' := .int .i64 b) (c' := .int .i64 T) (d' := .int .i64 F) br
  have q0 := bz.at_ 0 rfl
  have q1 := bz.at_ 1 rfl
  have q2 := bz.at_ 2 rfl
  have q3 := bz.at_ 3 rfl
  have hbz := hbu.trans (tz.below hwr hbu.size)
  go_wp2_with fail
  exact bodyPost_ret (v := .agg #[.int .i64 K, .int .i64 b, .int .i64 T, .int .i64 F]) (by simp [results, Tryd.results17, go_sem, q0, q1, q2, q3]) rfl ⟨K, b, T, F, rfl, hd, hbz⟩
set_option maxHeartbeats 1000000 in
theorem drawDrumName_any (a : Option Addr) (zs : List Int) (c : Nat) (w : World) (h : RdU w a zs) :
    Calls Tryd.prog 20 #[.slice a zs.length c] w fun e w' => ∃ z : Int, e = .returned (.int .i64 z) ∧ I64 z ∧ Below w.heap.size w w' := by
  go_enter Tryd.func20, Tryd.ntmps20
  go_wp2_with fail
  refine (from_any a zs c w h).mono ?_
  rintro e w1 ⟨g, rfl, hg, hs, hb1⟩
  go_wp2_with fail
  refine (pick_any g _ 6 w1 hs (by omega) (by omega)).mono ?_
  rintro e w2 ⟨z, rfl, z0, z1, hs2, ht⟩
  have hv : IntKind.i64.wrap (z - 1) = z - 1 := fits_int _ (by omega) (by omega)
  go_wp2_with fail
  exact bodyPost_ret (v := .int .i64 (z - 1)) (by simp [results, Tryd.results20, go_sem]) rfl ⟨_, rfl, mid64 (by omega) (by omega), hb1.trans (ht.below (by omega) hb1.size)⟩
set_option maxRecDepth 100000 in
set_option maxHeartbeats 8000000 in
theorem drawStepsBy_any (a : Option Addr) (zs : List Int) (c : Nat) (w : World) (h : RdU w a zs) :
    Calls Tryd.prog 8 #[.slice a zs.length c] w fun e w' => ∃ K b T F d t : Int, e = .returned (.tuple #[.agg #[.int .i64 K, .int .i64 b, .int .i64 T, .int .i64 F], .int .i64 d, .int .i64 t]) ∧ BentK K b T F ∧ I64 d ∧ I64 t ∧ Below w.heap.size w w' := by
  obtain ⟨r, hr⟩ : ∃ r, r = w.heap.size := ⟨_, rfl⟩
  obtain ⟨u, hu⟩ : ∃ u, u = w.alloc (.cells #[.int .i64 0, .int .i64 0, .int .i64 0, .int .i64 0] 25) := ⟨_, rfl⟩
  have br : Bx u r 25 #[.int .i64 0, .int .i64 0, .int .i64 0, .int .i64 0] := by rw [hu, hr]; exact Bx.new _ _ _
  have hbu : Below w.heap.size w u := by rw [hu]; exact (by repeat (first | exact Below.refl _ _ | refine Below.setCell ?_ (by first | omega | (simp <;> omega)) _ | refine Below.alloc ?_ (by first | omega | (simp <;> omega)) _ | refine Below.drew ?_))
  have hsu : u.heap.size = r + 1 := by rw [hu, hr]; simp
  have HU := Lib.hid hu
  have HR := Lib.hid hr
  clear hu
  go_enter Tryd.func8, Tryd.ntmps8
  go_wp2_with fail
  rw [← HU.out, ← hr]
  clear hr
  refine (from_any a zs c u (h.below hbu)).mono ?_
  rintro e w1 ⟨g, rfl, hg, hs, hb1⟩
  replace br := br.below hb1
  replace hbu := hbu.trans (hb1.mono hbu.size)
  have hgl := hs.lt
  have hrg : r < g := by omega
  have hwr : w.heap.size ≤ r := by have := HR.out; omega
  clear hb1 hg hsu h
  go_wp2_with fail
  refine (drumDigit_any g _ w1 hs (by omega)).mono ?_
  rintro e w2 ⟨K, b, T, F, d, rfl, hd, hdI, ht, hs2⟩
  have hl2 := ht.size
  replace br := br.touch ht (by omega)
  replace hbu : Below w.heap.size w w2 := hbu.trans (ht.below (by omega) hbu.size)
  have hgl2 := hs2.lt
  clear ht hs hgl
  go_upto_region 3 with fail
  obtain ⟨B, hB⟩ : ∃ B, B = w2.heap.size := ⟨_, rfl⟩
  obtain ⟨v, hv⟩ : ∃ v, v = w2.alloc (.cells #[.int .i64 K, .int .i64 b, .int .i64 T, .int .i64 F] 25) := ⟨_, rfl⟩
  rw [← hv, ← hB]
  have hbv : Below w2.heap.size w2 v := by rw [hv]; exact (by repeat (first | exact Below.refl _ _ | refine Below.setCell ?_ (by first | omega | (simp <;> omega)) _ | refine Below.alloc ?_ (by first | omega | (simp <;> omega)) _ | refine Below.drew ?_))
  have dr : Dq w r g B K b T F 60 v := ⟨br.below hbv, by rw [hv, hB]; exact Bx.new _ _ _, hs2.lo hbv hgl2, hbu.trans (hbv.mono hbu.size), hwr, hrg, by omega, hd⟩
  have hgB : g < B := dr.gB
  clear hv hbv hs2 hB hl2 br hbu hd hgl2
  have hBv := dr.lt
  have k0 : ∀ w', Bx w' B 25 #[.int .i64 K, .int .i64 b, .int .i64 T, .int .i64 F] → w'.cell? ⟨B, 0, none⟩ = some (.int .i64 K) := fun w' h => h.at_ 0 rfl
  have k1 : ∀ w', Bx w' B 25 #[.int .i64 K, .int .i64 b, .int .i64 T, .int .i64 F] → w'.cell? ⟨B, 1, none⟩ = some (.int .i64 b) := fun w' h => h.at_ 1 rfl
  have k2 : ∀ w', Bx w' B 25 #[.int .i64 K, .int .i64 b, .int .i64 T, .int .i64 F] → w'.cell? ⟨B, 2, none⟩ = some (.int .i64 T) := fun w' h => h.at_ 2 rfl
  have k3 : ∀ w', Bx w' B 25 #[.int .i64 K, .int .i64 b, .int .i64 T, .int .i64 F] → w'.cell? ⟨B, 3, none⟩ = some (.int .i64 F) := fun w' h => h.at_ 3 rfl
  refine wp_region_marked (fun w' => Bx w' B 25 #[.int .i64 K, .int .i64 b, .int .i64 T, .int .i64 F]) 6 (by kernel_rfl) ?_
  have hS : Bx v.drew B 25 #[.int .i64 K, .int .i64 b, .int .i64 T, .int .i64 F] := dr.bB.drew
  refine wpAnyM_takeC (i := 0) (v := ?_) 20 rfl (by kernel_rfl) (by kernel_rfl) (by kernel_rfl) (by kernel_rfl) (by kernel_rfl) (by kernel_rfl) (fun _ _ _ h => h) hS (.inl ⟨by rfl, ?_⟩) ?_
  rotate_left 1
  · intro w' hS'; go_simp; try with_reducible rfl
  simp only [Act.put, List.setIfInBounds_toArray]
  refine wpAnyM_takeC (i := 1) (v := ?_) 20 rfl (by kernel_rfl) (by kernel_rfl) (by kernel_rfl) (by kernel_rfl) (by kernel_rfl) (by kernel_rfl) (fun _ _ _ h => h) hS (.inl ⟨by rfl, ?_⟩) ?_
  rotate_left 1
  · intro w' hS'; go_simp; try with_reducible rfl
  simp only [Act.put]
  refine wpAnyM_takeC (i := 2) (v := ?_) 20 rfl (by kernel_rfl) (by kernel_rfl) (by kernel_rfl) (by kernel_rfl) (by kernel_rfl) (by kernel_rfl) (fun _ _ _ h => h) hS (.inl ⟨by rfl, ?_⟩) ?_
  rotate_left 1
  · intro w' hS'; go_simp; try with_reducible rfl
  simp only [Act.put]
  clear k0 k1 k2 k3
  replace dr := dr.drew
  clear hS
  refine wpAnyM_one (i := 3) (by kernel_rfl) rfl (by rfl) (fun K' hK => ?_)
  go_simp
  refine (clock_any g _ v.drew dr.src (by omega)).mono ?_
  rintro e w3 ⟨t, rfl, ht, ht, hs⟩
  replace dr := dr.touch ht hs
  clear ht hs
  refine hK _ _ (.inr dr.bB) ?_
  try simp only [Act.put, List.setIfInBounds_toArray]
  clear hK K'
  have c0 := dr.br.at_ 0 rfl
  have c1 := dr.br.at_ 1 rfl
  have c2 := dr.br.at_ 2 rfl
  have c3 := dr.br.at_ 3 rfl
  have f0 := dr.br.thaw 0
  have f1 := dr.br.thaw 1
  have f2 := dr.br.thaw 2
  have f3 := dr.br.thaw 3
  obtain ⟨bz, tz⟩ := bx_putD (a' := .int .i64 K) (b' := .int .i64 b) (c' := .int .i64 T) (d' := .int .i64 F) dr.br
  have q0 := bz.at_ 0 rfl
  have q1 := bz.at_ 1 rfl
  have q2 := bz.at_ 2 rfl
  have q3 := bz.at_ 3 rfl
  refine wpAnyM_one (i := 4) (by kernel_rfl) rfl (by rfl) (fun K' hK => ?_)
  go_simp
  obtain ⟨y1, hy1⟩ : ∃ v, v = ((((w3.setCell ⟨r, 0, none⟩ (.int .i64 K)).setCell ⟨r, 1, none⟩ (.int .i64 b)).setCell ⟨r, 2, none⟩ (.int .i64 T)).setCell ⟨r, 3, none⟩ (.int .i64 F)) := ⟨_, rfl⟩
  rw [← hy1] at tz bz q0 q1 q2 q3 ⊢
  have hbz := dr.bel.trans (tz.below dr.wr dr.bel.size)
  have bB2 : Bx y1 B 25 #[.int .i64 K, .int .i64 b, .int .i64 T, .int .i64 F] := dr.bB.touch tz (.inr (by have := dr.rg; omega))
  clear hy1 c0 c1 c2 c3 f0 f1 f2 f3 tz
  refine hK _ _ (.inr bB2) ?_
  try simp only [Act.put, List.setIfInBounds_toArray]
  clear hK K'
  refine wpAnyM_one (i := 5) (by kernel_rfl) rfl (by rfl) (fun K' hK => ?_)
  go_simp
  refine hK _ _ (.inr bB2) ?_
  try simp only [Act.put, List.setIfInBounds_toArray]
  clear hK K'
  refine wpAnyM_one (i := 6) (by kernel_rfl) rfl (by rfl) (fun K' hK => ?_)
  go_simp
  refine hK _ _ (.inl rfl) ?_
  try simp only [Act.put, List.setIfInBounds_toArray]
  clear hK K'
  refine wpAnyM_done (by kernel_rfl) ?_ _
  go_wp2_with fail
  exact bodyPost_ret (v := .tuple #[.agg #[.int .i64 K, .int .i64 b, .int .i64 T, .int .i64 F], .int .i64 d, .int .i64 t]) (by simp [results, Tryd.results8, go_sem, q0, q1, q2, q3]) rfl ⟨K, b, T, F, d, t, rfl, dr.d, hdI, mid64 (by omega) (by omega), hbz⟩
set_option maxRecDepth 100000 in
set_option maxHeartbeats 8000000 in
theorem drawStepsBetween_any (a : Option Addr) (zs : List Int) (c : Nat) (w : World) (h : RdU w a zs) :
    Calls Tryd.prog 5 #[.slice a zs.length c] w fun e w' => ∃ K b T F d f t : Int, e = .returned (.tuple #[.agg #[.int .i64 K, .int .i64 b, .int .i64 T, .int .i64 F], .int .i64 d, .int .i64 f, .int .i64 t]) ∧ BentK K b T F ∧ I64 d ∧ I64 f ∧ I64 t ∧ Below w.heap.size w w' := by
  obtain ⟨r, hr⟩ : ∃ r, r = w.heap.size := ⟨_, rfl⟩
  obtain ⟨u, hu⟩ : ∃ u, u = w.alloc (.cells #[.int .i64 0, .int .i64 0, .int .i64 0, .int .i64 0] 25) := ⟨_, rfl⟩
  have br : Bx u r 25 #[.int .i64 0, .int .i64 0, .int .i64 0, .int .i64 0] := by rw [hu, hr]; exact Bx.new _ _ _
  have hbu : Below w.heap.size w u := by rw [hu]; exact (by repeat (first | exact Below.refl _ _ | refine Below.setCell ?_ (by first | omega | (simp <;> omega)) _ | refine Below.alloc ?_ (by first | omega | (simp <;> omega)) _ | refine Below.drew ?_))
  have hsu : u.heap.size = r + 1 := by rw [hu, hr]; simp
  have HU := Lib.hid hu
  have HR := Lib.hid hr
  clear hu
  go_enter Tryd.func5, Tryd.ntmps5
  go_wp2_with fail
  rw [← HU.out, ← hr]
  clear hr
  refine (from_any a zs c u (h.below hbu)).mono ?_
  rintro e w1 ⟨g, rfl, hg, hs, hb1⟩
  replace br := br.below hb1
  replace hbu := hbu.trans (hb1.mono hbu.size)
  have hgl := hs.lt
  have hrg : r < g := by omega
  have hwr : w.heap.size ≤ r := by have := HR.out; omega
  clear hb1 hg hsu h
  go_wp2_with fail
  refine (drumDigit_any g _ w1 hs (by omega)).mono ?_
  rintro e w2 ⟨K, b, T, F, d, rfl, hd, hdI, ht, hs2⟩
  have hl2 := ht.size
  replace br := br.touch ht (by omega)
  replace hbu : Below w.heap.size w w2 := hbu.trans (ht.below (by omega) hbu.size)
  have hgl2 := hs2.lt
  clear ht hs hgl
  go_upto_region 3 with fail
  obtain ⟨B, hB⟩ : ∃ B, B = w2.heap.size := ⟨_, rfl⟩
  obtain ⟨v, hv⟩ : ∃ v, v = w2.alloc (.cells #[.int .i64 K, .int .i64 b, .int .i64 T, .int .i64 F] 25) := ⟨_, rfl⟩
  rw [← hv, ← hB]
  have hbv : Below w2.heap.size w2 v := by rw [hv]; exact (by repeat (first | exact Below.refl _ _ | refine Below.setCell ?_ (by first | omega | (simp <;> omega)) _ | refine Below.alloc ?_ (by first | omega | (simp <;> omega)) _ | refine Below.drew ?_))
  have dr : Dq w r g B K b T F 60 v := ⟨br.below hbv, by rw [hv, hB]; exact Bx.new _ _ _, hs2.lo hbv hgl2, hbu.trans (hbv.mono hbu.size), hwr, hrg, by omega, hd⟩
  have hgB : g < B := dr.gB
  clear hv hbv hs2 hB hl2 br hbu hd hgl2
  have hBv := dr.lt
  go_wp2_with fail
  refine (clock_any g _ v dr.src (by omega)).mono ?_
  rintro e w3 ⟨t0, rfl, ht0, ht, hs⟩
  replace dr := dr.touch ht hs
  clear ht hs
  go_wp2_with fail
  refine (one_any g _ 12 w3 dr.src (by omega) (by omega)).mono ?_
  rintro e w4 ⟨zb, rfl, hs, ht⟩
  replace dr := dr.touch ht hs
  clear ht hs
  cases zb with
  | true =>
    go_upto_region 5 with fail
    have k0 : ∀ w', Bx w' B 25 #[.int .i64 K, .int .i64 b, .int .i64 T, .int .i64 F] → w'.cell? ⟨B, 0, none⟩ = some (.int .i64 K) := fun w' h => h.at_ 0 rfl
    have k1 : ∀ w', Bx w' B 25 #[.int .i64 K, .int .i64 b, .int .i64 T, .int .i64 F] → w'.cell? ⟨B, 1, none⟩ = some (.int .i64 b) := fun w' h => h.at_ 1 rfl
    have k2 : ∀ w', Bx w' B 25 #[.int .i64 K, .int .i64 b, .int .i64 T, .int .i64 F] → w'.cell? ⟨B, 2, none⟩ = some (.int .i64 T) := fun w' h => h.at_ 2 rfl
    have k3 : ∀ w', Bx w' B 25 #[.int .i64 K, .int .i64 b, .int .i64 T, .int .i64 F] → w'.cell? ⟨B, 3, none⟩ = some (.int .i64 F) := fun w' h => h.at_ 3 rfl
    refine wp_region_marked (fun w' => Bx w' B 25 #[.int .i64 K, .int .i64 b, .int .i64 T, .int .i64 F]) 8 (by kernel_rfl) ?_
    have hS : Bx w4.drew B 25 #[.int .i64 K, .int .i64 b, .int .i64 T, .int .i64 F] := dr.bB.drew
    refine wpAnyM_takeC (i := 0) (v := ?_) 20 rfl (by kernel_rfl) (by kernel_rfl) (by kernel_rfl) (by kernel_rfl) (by kernel_rfl) (by kernel_rfl) (fun _ _ _ h => h) hS (.inl ⟨by rfl, ?_⟩) ?_
    rotate_left 1
    · intro w' hS'; go_simp; try with_reducible rfl
    simp only [Act.put, List.setIfInBounds_toArray]
    refine wpAnyM_takeC (i := 1) (v := ?_) 20 rfl (by kernel_rfl) (by kernel_rfl) (by kernel_rfl) (by kernel_rfl) (by kernel_rfl) (by kernel_rfl) (fun _ _ _ h => h) hS (.inl ⟨by rfl, ?_⟩) ?_
    rotate_left 1
    · intro w' hS'; go_simp; try with_reducible rfl
    simp only [Act.put]
    refine wpAnyM_takeC (i := 2) (v := ?_) 20 rfl (by kernel_rfl) (by kernel_rfl) (by kernel_rfl) (by kernel_rfl) (by kernel_rfl) (by kernel_rfl) (fun _ _ _ h => h) hS (.inl ⟨by rfl, ?_⟩) ?_
    rotate_left 1
    · intro w' hS'; go_simp; try with_reducible rfl
    simp only [Act.put]
    refine wpAnyM_takeC (i := 3) (v := ?_) 20 rfl (by kernel_rfl) (by kernel_rfl) (by kernel_rfl) (by kernel_rfl) (by kernel_rfl) (by kernel_rfl) (fun _ _ _ h => h) hS (.inl ⟨by rfl, ?_⟩) ?_
    rotate_left 1
    · intro w' hS'; go_simp; try with_reducible rfl
    simp only [Act.put]
    clear k0 k1 k2 k3
    replace dr := dr.drew
    clear hS
    refine wpAnyM_one (i := 4) (by kernel_rfl) rfl (by rfl) (fun K' hK => ?_)
    go_simp
    refine (clock_any g _ w4.drew dr.src (by omega)).mono ?_
    rintro e w5 ⟨t, rfl, ht, ht, hs⟩
    replace dr := dr.touch ht hs
    clear ht hs
    refine hK _ _ (.inr dr.bB) ?_
    try simp only [Act.put, List.setIfInBounds_toArray]
    clear hK K'
    have c0 := dr.br.at_ 0 rfl
    have c1 := dr.br.at_ 1 rfl
    have c2 := dr.br.at_ 2 rfl
    have c3 := dr.br.at_ 3 rfl
    have f0 := dr.br.thaw 0
    have f1 := dr.br.thaw 1
    have f2 := dr.br.thaw 2
    have f3 := dr.br.thaw 3
    obtain ⟨bz, tz⟩ := bx_putD (a' := .int .i64 K) (b' := .int .i64 b) (c' := .int .i64 T) (d' := .int .i64 F) dr.br
    have q0 := bz.at_ 0 rfl
    have q1 := bz.at_ 1 rfl
    have q2 := bz.at_ 2 rfl
    have q3 := bz.at_ 3 rfl
    refine wpAnyM_one (i := 5) (by kernel_rfl) rfl (by rfl) (fun K' hK => ?_)
    go_simp
    obtain ⟨y1, hy1⟩ : ∃ v, v = ((((w5.setCell ⟨r, 0, none⟩ (.int .i64 K)).setCell ⟨r, 1, none⟩ (.int .i64 b)).setCell ⟨r, 2, none⟩ (.int .i64 T)).setCell ⟨r, 3, none⟩ (.int .i64 F)) := ⟨_, rfl⟩
    rw [← hy1] at tz bz q0 q1 q2 q3 ⊢
    have hbz := dr.bel.trans (tz.below dr.wr dr.bel.size)
    have bB2 : Bx y1 B 25 #[.int .i64 K, .int .i64 b, .int .i64 T, .int .i64 F] := dr.bB.touch tz (.inr (by have := dr.rg; omega))
    clear hy1 c0 c1 c2 c3 f0 f1 f2 f3 tz
    refine hK _ _ (.inr bB2) ?_
    try simp only [Act.put, List.setIfInBounds_toArray]
    clear hK K'
    refine wpAnyM_one (i := 6) (by kernel_rfl) rfl (by rfl) (fun K' hK => ?_)
    go_simp
    refine hK _ _ (.inr bB2) ?_
    try simp only [Act.put, List.setIfInBounds_toArray]
    clear hK K'
    refine wpAnyM_one (i := 7) (by kernel_rfl) rfl (by rfl) (fun K' hK => ?_)
    go_simp
    refine hK _ _ (.inr bB2) ?_
    try simp only [Act.put, List.setIfInBounds_toArray]
    clear hK K'
    refine wpAnyM_one (i := 8) (by kernel_rfl) rfl (by rfl) (fun K' hK => ?_)
    go_simp
    refine hK _ _ (.inl rfl) ?_
    try simp only [Act.put, List.setIfInBounds_toArray]
    clear hK K'
    refine wpAnyM_done (by kernel_rfl) ?_ _
    go_wp2_with fail
    exact bodyPost_ret (v := .tuple #[.agg #[.int .i64 K, .int .i64 b, .int .i64 T, .int .i64 F], .int .i64 d, .int .i64 t0, .int .i64 t]) (by simp [results, Tryd.results5, go_sem, q0, q1, q2, q3]) rfl ⟨K, b, T, F, d, t0, t, rfl, dr.d, hdI, mid64 (by omega) (by omega), mid64 (by omega) (by omega), hbz⟩
  | false =>
    go_upto_region 6 with fail
    have k0 : ∀ w', Bx w' B 25 #[.int .i64 K, .int .i64 b, .int .i64 T, .int .i64 F] → w'.cell? ⟨B, 0, none⟩ = some (.int .i64 K) := fun w' h => h.at_ 0 rfl
    have k1 : ∀ w', Bx w' B 25 #[.int .i64 K, .int .i64 b, .int .i64 T, .int .i64 F] → w'.cell? ⟨B, 1, none⟩ = some (.int .i64 b) := fun w' h => h.at_ 1 rfl
    have k2 : ∀ w', Bx w' B 25 #[.int .i64 K, .int .i64 b, .int .i64 T, .int .i64 F] → w'.cell? ⟨B, 2, none⟩ = some (.int .i64 T) := fun w' h => h.at_ 2 rfl
    have k3 : ∀ w', Bx w' B 25 #[.int .i64 K, .int .i64 b, .int .i64 T, .int .i64 F] → w'.cell? ⟨B, 3, none⟩ = some (.int .i64 F) := fun w' h => h.at_ 3 rfl
    refine wp_region_marked (fun w' => Bx w' B 25 #[.int .i64 K, .int .i64 b, .int .i64 T, .int .i64 F]) 12 (by kernel_rfl) ?_
    have hS : Bx w4.drew B 25 #[.int .i64 K, .int .i64 b, .int .i64 T, .int .i64 F] := dr.bB.drew
    refine wpAnyM_takeC (i := 0) (v := ?_) 20 rfl (by kernel_rfl) (by kernel_rfl) (by kernel_rfl) (by kernel_rfl) (by kernel_rfl) (by kernel_rfl) (fun _ _ _ h => h) hS (.inl ⟨by rfl, ?_⟩) ?_
    rotate_left 1
    · intro w' hS'; go_simp; try with_reducible rfl
    simp only [Act.put, List.setIfInBounds_toArray]
    refine wpAnyM_takeC (i := 1) (v := ?_) 20 rfl (by kernel_rfl) (by kernel_rfl) (by kernel_rfl) (by kernel_rfl) (by kernel_rfl) (by kernel_rfl) (fun _ _ _ h => h) hS (.inl ⟨by rfl, ?_⟩) ?_
    rotate_left 1
    · intro w' hS'; go_simp; try with_reducible rfl
    simp only [Act.put]
    refine wpAnyM_takeC (i := 2) (v := ?_) 20 rfl (by kernel_rfl) (by kernel_rfl) (by kernel_rfl) (by kernel_rfl) (by kernel_rfl) (by kernel_rfl) (fun _ _ _ h => h) hS (.inl ⟨by rfl, ?_⟩) ?_
    rotate_left 1
    · intro w' hS'; go_simp; try with_reducible rfl
    simp only [Act.put]
    refine wpAnyM_takeC (i := 3) (v := ?_) 20 rfl (by kernel_rfl) (by kernel_rfl) (by kernel_rfl) (by kernel_rfl) (by kernel_rfl) (by kernel_rfl) (fun _ _ _ h => h) hS (.inl ⟨by rfl, ?_⟩) ?_
    rotate_left 1
    · intro w' hS'; go_simp; try with_reducible rfl
    simp only [Act.put]
    refine wpAnyM_takeC (i := 5) (v := ?_) 20 rfl (by kernel_rfl) (by kernel_rfl) (by kernel_rfl) (by kernel_rfl) (by kernel_rfl) (by kernel_rfl) (fun _ _ _ h => h) hS (.inl ⟨by rfl, ?_⟩) ?_
    rotate_left 1
    · intro w' hS'; go_simp; try with_reducible rfl
    simp only [Act.put]
    clear k0 k1 k2 k3
    replace dr := dr.drew
    clear hS
    refine wpAnyM_one (i := 4) (by kernel_rfl) rfl (by rfl) (fun K' hK => ?_)
    go_simp
    refine (l00Max_any t0 0 w4.drew).mono ?_
    rintro e w5 ⟨rfl, hq⟩
    subst w5
    obtain ⟨mx, hmx⟩ : ∃ m, m = max t0 0 := ⟨_, rfl⟩
    have hmb : 0 ≤ mx ∧ mx ≤ 100001 := by omega
    rw [← hmx]
    clear hmx
    refine hK _ _ (.inr dr.bB) ?_
    try simp only [Act.put, List.setIfInBounds_toArray]
    clear hK K'
    refine wpAnyM_one (i := 6) (by kernel_rfl) rfl (by rfl) (fun K' hK => ?_)
    go_simp
    refine (pick_any g _ 100 w4.drew dr.src (by omega) (by omega)).mono ?_
    rintro e w6 ⟨z, rfl, z0, z1, hs, ht⟩
    replace dr := dr.touch ht hs
    clear ht hs
    have hv1 : IntKind.i64.wrap (mx + z) = mx + z := fits_int _ (by omega) (by omega)
    refine hK _ _ (.inr dr.bB) ?_
    try simp only [Act.put, List.setIfInBounds_toArray]
    clear hK K'
    refine wpAnyM_one (i := 7) (by kernel_rfl) rfl (by rfl) (fun K' hK => ?_)
    go_simp
    refine hK _ _ (.inr dr.bB) ?_
    try simp only [Act.put, List.setIfInBounds_toArray]
    clear hK K'
    refine wpAnyM_one (i := 8) (by kernel_rfl) rfl (by rfl) (fun K' hK => ?_)
    go_simp
    refine (l00Min_any 100000 (mx + z) w6).mono ?_
    rintro e w7 ⟨rfl, hq⟩
    subst w7
    obtain ⟨t, hte⟩ : ∃ t, t = min 100000 (mx + z) := ⟨_, rfl⟩
    have htb : 0 ≤ t ∧ t ≤ 100000 := by omega
    rw [← hte]
    clear hte
    refine hK _ _ (.inr dr.bB) ?_
    try simp only [Act.put, List.setIfInBounds_toArray]
    clear hK K'
    have c0 := dr.br.at_ 0 rfl
    have c1 := dr.br.at_ 1 rfl
    have c2 := dr.br.at_ 2 rfl
    have c3 := dr.br.at_ 3 rfl
    have f0 := dr.br.thaw 0
    have f1 := dr.br.thaw 1
    have f2 := dr.br.thaw 2
    have f3 := dr.br.thaw 3
    obtain ⟨bz, tz⟩ := bx_putD (a' := .int .i64 K) (b' := .int .i64 b) (c' := .int .i64 T) (d' := .int .i64 F) dr.br
    have q0 := bz.at_ 0 rfl
    have q1 := bz.at_ 1 rfl
    have q2 := bz.at_ 2 rfl
    have q3 := bz.at_ 3 rfl
    refine wpAnyM_one (i := 9) (by kernel_rfl) rfl (by rfl) (fun K' hK => ?_)
    go_simp
    obtain ⟨y1, hy1⟩ : ∃ v, v = ((((w6.setCell ⟨r, 0, none⟩ (.int .i64 K)).setCell ⟨r, 1, none⟩ (.int .i64 b)).setCell ⟨r, 2, none⟩ (.int .i64 T)).setCell ⟨r, 3, none⟩ (.int .i64 F)) := ⟨_, rfl⟩
    rw [← hy1] at tz bz q0 q1 q2 q3 ⊢
    have hbz := dr.bel.trans (tz.below dr.wr dr.bel.size)
    have bB2 : Bx y1 B 25 #[.int .i64 K, .int .i64 b, .int .i64 T, .int .i64 F] := dr.bB.touch tz (.inr (by have := dr.rg; omega))
    clear hy1 c0 c1 c2 c3 f0 f1 f2 f3 tz
    refine hK _ _ (.inr bB2) ?_
    try simp only [Act.put, List.setIfInBounds_toArray]
    clear hK K'
    refine wpAnyM_one (i := 10) (by kernel_rfl) rfl (by rfl) (fun K' hK => ?_)
    go_simp
    refine hK _ _ (.inr bB2) ?_
    try simp only [Act.put, List.setIfInBounds_toArray]
    clear hK K'
    refine wpAnyM_one (i := 11) (by kernel_rfl) rfl (by rfl) (fun K' hK => ?_)
    go_simp
    refine hK _ _ (.inr bB2) ?_
    try simp only [Act.put, List.setIfInBounds_toArray]
    clear hK K'
    refine wpAnyM_one (i := 12) (by kernel_rfl) rfl (by rfl) (fun K' hK => ?_)
    go_simp
    refine hK _ _ (.inl rfl) ?_
    try simp only [Act.put, List.setIfInBounds_toArray]
    clear hK K'
    refine wpAnyM_done (by kernel_rfl) ?_ _
    go_wp2_with fail
    exact bodyPost_ret (v := .tuple #[.agg #[.int .i64 K, .int .i64 b, .int .i64 T, .int .i64 F], .int .i64 d, .int .i64 t0, .int .i64 t]) (by simp [results, Tryd.results5, go_sem, q0, q1, q2, q3]) rfl ⟨K, b, T, F, d, t0, t, rfl, dr.d, hdI, mid64 (by omega) (by omega), mid64 (by omega) (by omega), hbz⟩
end Go.Proofs.YtcfpfhlgcfmioaaDoor
