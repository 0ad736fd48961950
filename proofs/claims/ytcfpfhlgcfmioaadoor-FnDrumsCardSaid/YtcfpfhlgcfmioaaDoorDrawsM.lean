/-
  Several texts in one: DrawD, DrawG, DrawI.
-/
import Derived.Test.YtcfpfhlgcfmioaaDoorAmong
import Derived.Test.YtcfpfhlgcfmioaaDoorOwn2
import Derived.Test.YtcfpfhlgcfmioaaDoorOrd

/- DrawD -/
namespace Go.Proofs.YtcfpfhlgcfmioaaDoor
open Go.RowKit

/-- What a drawn drum is. -/
structure DrD (K B T F : Int) : Prop where
  k0 : 1 ≤ K
  k1 : K ≤ 3
  b0 : 2 ≤ B
  b1 : B ≤ 16
  t0 : B ≤ T
  t1 : T ≤ 40
  f0 : 0 ≤ F
  f1 : F ≤ 100
/-- A drawn drum in a box. -/
def DrBx (s N r B : Nat) (w wx : World) (k : Int) : Prop := ∃ b : Int, 2 ≤ b ∧ b ≤ 16 ∧ Bx wx B 25 #[.int .i64 k, .int .i64 b, .int .i64 0, .int .i64 0] ∧ Bx wx r 25 #[.int .i64 0, .int .i64 0, .int .i64 0, .int .i64 0] ∧ Src wx s N ∧ Touch s (s + 1) w wx

set_option maxHeartbeats 8000000 in
theorem drawDrum_any (s N : Nat) (w : World) (h : Src w s N) (hN : N ≤ 700000) :
    Calls Tryd.prog 53 #[.pointer (some ⟨s, 0, none⟩)] w fun e w' => ∃ K B T F : Int, e = .returned (.agg #[.int .i64 K, .int .i64 B, .int .i64 T, .int .i64 F]) ∧ DrD K B T F ∧ Touch s (s + 1) w w' ∧ Src w' s (N + 20) := by
  have hs := h.lt
  obtain ⟨r, hr⟩ : ∃ r, r = w.heap.size := ⟨_, rfl⟩
  obtain ⟨u, hu⟩ : ∃ u, u = w.alloc (.cells #[.int .i64 0, .int .i64 0, .int .i64 0, .int .i64 0] 25) := ⟨_, rfl⟩
  have br : Bx u r 25 #[.int .i64 0, .int .i64 0, .int .i64 0, .int .i64 0] := by rw [hu, hr]; exact Bx.new _ _ _
  have hbu : Below w.heap.size w u := by rw [hu]; exact (by repeat (first | exact Below.refl _ _ | refine Below.setCell ?_ (by first | omega | (simp <;> omega)) _ | refine Below.alloc ?_ (by first | omega | (simp <;> omega)) _ | refine Below.drew ?_))
  have hsu : u.heap.size = r + 1 := by rw [hu, hr]; simp
  have su : Src u s N := h.lo hbu hs
  have tu : Touch s (s + 1) w u := Below.touch hbu
  have HU := Lib.hid hu
  have HR := Lib.hid hr
  clear hu h hbu
  have hsr : s < r := by omega
  go_enter Tryd.func53, Tryd.ntmps53
  go_wp2_with fail
  rw [← HU.out, ← hr]
  clear hr
  refine (pick_any s N 3 u su (by omega) (by omega)).mono ?_
  rintro e w1 ⟨z, rfl, z0, z1, hs1, ht1⟩
  have hl1 := ht1.size
  replace br := br.touch ht1 (by omega)
  replace tu := tu.trans ht1
  have v1 : IntKind.i64.wrap (1 + z) = 1 + z := fits_int _ (by omega) (by omega)
  have hk : 1 ≤ 1 + z ∧ 1 + z ≤ 3 := by omega
  clear ht1 su hsu z0 z1
  go_wp2_with fail
  obtain ⟨B, hB⟩ : ∃ B, B = w1.heap.size := ⟨_, rfl⟩
  obtain ⟨v, hv⟩ : ∃ v, v = w1.alloc (.cells #[.int .i64 (1 + z), .int .i64 10, .int .i64 0, .int .i64 0] 25) := ⟨_, rfl⟩
  rw [← hv, ← hB]
  have hbv : Below w1.heap.size w1 v := by rw [hv]; exact (Below.refl _ _).alloc (Nat.le_refl _) _
  have bB : Bx v B 25 #[.int .i64 (1 + z), .int .i64 10, .int .i64 0, .int .i64 0] := by rw [hv, hB]; exact Bx.new _ _ _
  have hrB : r < B := by rw [hB]; exact br.lt
  replace br := br.below hbv
  replace tu := tu.trans (Below.touch hbv)
  have hsx := hs1.lo hbv (by omega)
  clear hv hbv hs1 hB
  clear v1
  obtain ⟨k, hkk⟩ : ∃ k, k = 1 + z := ⟨_, rfl⟩
  rw [← hkk] at bB hk
  clear hkk
  refine (one_any s _ 3 v hsx (by omega) (by omega)).mono ?_
  rintro e w2 ⟨x, rfl, hs2, ht2⟩
  have hl2 := ht2.size
  replace bB := bB.touch ht2 (by omega)
  replace br := br.touch ht2 (by omega)
  replace tu := tu.trans ht2
  clear ht2 hsx
  go_upto_if 9 with fail
  go_cut [11] from 10 to 13 (fun _ wx => DrBx s (N + 8) r B w wx k)
  case first =>
    cases x with
    | false =>
      go_wp2_with fail
      go_meet
      case rel => exact ⟨10, by omega, by omega, bB, br, hs2.mono (by omega), tu⟩
    | true =>
      go_wp2_with fail
      refine (pick_any s _ 15 w2 hs2 (by omega) (by omega)).mono ?_
      rintro e w3 ⟨y, rfl, y0, y1, hs3, ht3⟩
      have hl3 := ht3.size
      replace bB := bB.touch ht3 (by omega)
      replace br := br.touch ht3 (by omega)
      replace tu := tu.trans ht3
      have v2 : IntKind.i64.wrap (2 + y) = 2 + y := fits_int _ (by omega) (by omega)
      have c1 := bB.at_ 1 rfl
      have f1 := bB.thaw 1
      have b2 := bB.set_ 1 (.int .i64 (2 + y))
      have tt : Touch B (B + 1) w3 (w3.setCell ⟨B, 1, none⟩ (.int .i64 (2 + y))) := (Touch.refl _ _ _).setCell (by simp) (by simp) _
      have r2 := br.touch tt (by omega)
      have s2 := (hs3.touch tt (by omega)).mono (M := N + 8) (by omega)
      have t2 := tu.then_ tt (by have := HR.out; omega)
      have hy : 2 ≤ 2 + y ∧ 2 + y ≤ 16 := by omega
      clear tt bB br tu hs3 hs2 ht3 y0 y1
      go_wp2_with fail
      go_meet
      case rel => exact ⟨2 + y, hy.1, hy.2, b2, r2, s2, t2⟩
  case rest =>
    clear bB br tu hs2
    obtain ⟨b, b0, b1, bB, br, hs2, tu⟩ := hcut
    obtain ⟨w3, rfl⟩ : ∃ v, v = wc := ⟨_, rfl⟩
    have hBz := bB.lt
    have g1 : ∀ w', Touch s (s + 1) w3 w' → w'.cell? ⟨B, 1, none⟩ = some (.int .i64 b) := fun w' ht => (bB.touch ht (by omega)).at_ 1 rfl
    go_wp2_with fail
    refine wp_region_marked (fun w' => Touch s (s + 1) w3 w') 6 (by kernel_rfl) ?_
    have hS : Touch s (s + 1) w3 w3.drew := (Touch.refl _ _ _).drewN 1
    refine wpAnyM_take (i := 0) (v := ?_) rfl (by kernel_rfl) (by kernel_rfl) (by kernel_rfl) (by kernel_rfl) (by kernel_rfl) (fun _ _ _ h => h) hS (.inl ⟨by rfl, ?_⟩) ?_
    rotate_left 1
    · intro w' hS'; go_simp; try with_reducible rfl
    simp only [Act.put, List.setIfInBounds_toArray]
    refine wpAnyM_take (i := 1) (v := ?_) rfl (by kernel_rfl) (by kernel_rfl) (by kernel_rfl) (by kernel_rfl) (by kernel_rfl) (fun _ _ _ h => h) hS (.inl ⟨by rfl, ?_⟩) ?_
    rotate_left 1
    · intro w' hS'; go_simp; try with_reducible rfl
    simp only [Act.put]
    refine wpAnyM_take (i := 2) (v := ?_) rfl (by kernel_rfl) (by kernel_rfl) (by kernel_rfl) (by kernel_rfl) (by kernel_rfl) (fun _ _ _ h => h) hS (.inl ⟨by rfl, ?_⟩) ?_
    rotate_left 1
    · intro w' hS'; go_simp; try with_reducible rfl
    simp only [Act.put]
    refine wpAnyM_one (i := 3) (by kernel_rfl) rfl (by rfl) (fun K hK => ?_)
    go_simp
    refine (pick_any s _ 20 w3.drew (hs2.lo (L := w3.heap.size) ((Below.refl _ _).drew) (by omega)) (by omega) (by omega)).mono ?_
    rintro e w4 ⟨x2, rfl, x0, x1, hs4, ht4⟩
    replace hS := hS.trans ht4
    have hl4 := hS.size
    have v3 : IntKind.i64.wrap (b + x2) = b + x2 := fits_int _ (by omega) (by omega)
    have bB4 := bB.touch hS (by omega)
    have br4 := br.touch hS (by omega)
    have tu4 := tu.trans hS
    have c2 := bB4.at_ 2 rfl
    have f2 := bB4.thaw 2
    refine hK _ _ (.inr hS) ?_
    try simp only [Act.put, List.setIfInBounds_toArray]
    clear hK K ht4
    refine wpAnyM_take (i := 4) (v := ?_) rfl (by kernel_rfl) (by kernel_rfl) (by kernel_rfl) (by kernel_rfl) (by kernel_rfl) (fun _ _ _ h => h) hS (.inl ⟨by rfl, ?_⟩) ?_
    rotate_left 1
    · intro w' hS'; go_simp; try with_reducible rfl
    simp only [Act.put, List.setIfInBounds_toArray]
    refine wpAnyM_take (i := 5) (v := ?_) rfl (by kernel_rfl) (by kernel_rfl) (by kernel_rfl) (by kernel_rfl) (by kernel_rfl) (fun _ _ _ h => h) hS (.inl ⟨by rfl, ?_⟩) ?_
    rotate_left 1
    · intro w' hS'; go_simp; try with_reducible rfl
    simp only [Act.put]
    refine wpAnyM_one (i := 6) (by kernel_rfl) rfl (by rfl) (fun K hK => ?_)
    go_simp
    refine hK _ _ (.inl rfl) ?_
    clear hK K
    refine wpAnyM_done (by kernel_rfl) ?_ _
    obtain ⟨w5, hw5⟩ : ∃ w5, w5 = w4.setCell ⟨B, 2, none⟩ (.int .i64 (b + x2)) := ⟨_, rfl⟩
    have tt : Touch B (B + 1) w4 w5 := by rw [hw5]; exact (Touch.refl _ _ _).setCell (by simp) (by simp) _
    have bB5 : Bx w5 B 25 #[.int .i64 k, .int .i64 b, .int .i64 (b + x2), .int .i64 0] := by rw [hw5]; exact bB4.set_ 2 _
    have br5 := br4.touch tt (by omega)
    have tu5 := tu4.then_ tt (by have := HR.out; omega)
    have hs5 := hs4.touch tt (by omega)
    have hl5 := tt.size
    rw [← hw5]
    clear hw5 tt bB4 br4 tu4 hs4 c2 f2 g1 bB br tu hs2 hS v3
    have d0 := bB5.at_ 0 rfl
    have d1 := bB5.at_ 1 rfl
    have d2 := bB5.at_ 2 rfl
    have d3 := bB5.at_ 3 rfl
    by_cases hk3 : k = 3
    · subst hk3
      have bB := bB5
      have br := br5
      have tu := tu5
      have hsx := hs5
      clear d0 d1 d2 d3 bB5 br5 tu5 hs5
      have hD : Hid (DrD 3 b (b + x2) 0) := Lib.hid ⟨by omega, by omega, b0, b1, by omega, by omega, by omega, by omega⟩
      have d0 := bB.at_ 0 rfl
      have d1 := bB.at_ 1 rfl
      have d2 := bB.at_ 2 rfl
      have d3 := bB.at_ 3 rfl
      have c0 := br.at_ 0 rfl
      have c1 := br.at_ 1 rfl
      have c2 := br.at_ 2 rfl
      have c3 := br.at_ 3 rfl
      have fc0 := br.thaw 0
      have fc1 := br.thaw 1
      have fc2 := br.thaw 2
      have fc3 := br.thaw 3
      have hrl := br.lt
      have tt : Touch r (r + 1) w5 ((((w5.setCell ⟨r, 0, none⟩ (.int .i64 3)).setCell ⟨r, 1, none⟩ (.int .i64 b)).setCell ⟨r, 2, none⟩ (.int .i64 (b + x2))).setCell ⟨r, 3, none⟩ (.int .i64 0)) := ((((Touch.refl _ _ _).setCell (by simp) (by simp) _).setCell (by simp) (by simp) _).setCell (by simp) (by simp) _).setCell (by simp) (by simp) _
      have HT := Lib.hid (tu.then_ tt (by have := HR.out; omega))
      have HS := Lib.hid (hsx.touch tt (by omega))
      clear tt tu hsx
      go_wp2_with fail
      refine bodyPost_ret (v := .agg #[.int .i64 3, .int .i64 b, .int .i64 (b + x2), .int .i64 0]) (by simp [results, Tryd.results53, go_sem, c0, c1, c2, c3]) rfl ?_
      exact ⟨_, _, _, _, rfl, hD.out, HT.out, HS.out.mono (by omega)⟩
    · have hk3b : (k != 3) = true := by simp [hk3]
      have v4 : IntKind.i64.wrap (b + x2 - b) = x2 := by rw [show b + x2 - b = x2 by omega]; exact fits_int _ (by omega) (by omega)
      have v5 : IntKind.i64.wrap (x2 + 2) = x2 + 2 := fits_int _ (by omega) (by omega)
      go_wp2_with fail
      refine (pick_any s _ _ w5 hs5 (by omega) (by omega)).mono ?_
      rintro e w6 ⟨y, rfl, y0, y1, hs6, ht6⟩
      have hl6 := ht6.size
      have bB6 := bB5.touch ht6 (by omega)
      have br6 := br5.touch ht6 (by omega)
      have tu6 := tu5.trans ht6
      have v6 : IntKind.i64.wrap (1 + y) = 1 + y := fits_int _ (by omega) (by omega)
      clear d0 d1 d2 d3 bB5 br5 tu5 hs5 ht6
      have c3 := bB6.at_ 3 rfl
      have f3 := bB6.thaw 3
      obtain ⟨w7, hw7⟩ : ∃ w7, w7 = w6.setCell ⟨B, 3, none⟩ (.int .i64 (1 + y)) := ⟨_, rfl⟩
      have tt : Touch B (B + 1) w6 w7 := by rw [hw7]; exact (Touch.refl _ _ _).setCell (by simp) (by simp) _
      have bB : Bx w7 B 25 #[.int .i64 k, .int .i64 b, .int .i64 (b + x2), .int .i64 (1 + y)] := by rw [hw7]; exact bB6.set_ 3 _
      have br := br6.touch tt (by omega)
      have tu := tu6.then_ tt (by have := HR.out; omega)
      have hsx := hs6.touch tt (by omega)
      have hl7 := tt.size
      have HW7 := Lib.hid hw7
      clear hw7 tt bB6 br6 tu6 hs6
      go_upto_region 7 with fail
      rw [← HW7.out]
      clear c3 f3
      have hD : Hid (DrD k b (b + x2) (1 + y)) := Lib.hid ⟨by omega, by omega, b0, b1, by omega, by omega, by omega, by omega⟩
      have d0 := bB.at_ 0 rfl
      have d1 := bB.at_ 1 rfl
      have d2 := bB.at_ 2 rfl
      have d3 := bB.at_ 3 rfl
      have c0 := br.at_ 0 rfl
      have c1 := br.at_ 1 rfl
      have c2 := br.at_ 2 rfl
      have c3 := br.at_ 3 rfl
      have fc0 := br.thaw 0
      have fc1 := br.thaw 1
      have fc2 := br.thaw 2
      have fc3 := br.thaw 3
      have hrl := br.lt
      have tt : Touch r (r + 1) w7 ((((w7.setCell ⟨r, 0, none⟩ (.int .i64 k)).setCell ⟨r, 1, none⟩ (.int .i64 b)).setCell ⟨r, 2, none⟩ (.int .i64 (b + x2))).setCell ⟨r, 3, none⟩ (.int .i64 (1 + y))) := ((((Touch.refl _ _ _).setCell (by simp) (by simp) _).setCell (by simp) (by simp) _).setCell (by simp) (by simp) _).setCell (by simp) (by simp) _
      have HT := Lib.hid (tu.then_ tt (by have := HR.out; omega))
      have HS := Lib.hid (hsx.touch tt (by omega))
      clear tt tu hsx
      go_wp2_with fail
      refine bodyPost_ret (v := .agg #[.int .i64 k, .int .i64 b, .int .i64 (b + x2), .int .i64 (1 + y)]) (by simp [results, Tryd.results53, go_sem, c0, c1, c2, c3]) rfl ?_
      exact ⟨_, _, _, _, rfl, hD.out, HT.out, HS.out.mono (by omega)⟩

set_option maxHeartbeats 1000000 in
theorem clock_any (s N : Nat) (w : World) (h : Src w s N) (hN : N ≤ 700000) :
    Calls Tryd.prog 29 #[.pointer (some ⟨s, 0, none⟩)] w fun e w' => ∃ t : Int, e = .returned (.int .i64 t) ∧ (-1 ≤ t ∧ t ≤ 100001) ∧ Touch s (s + 1) w w' ∧ Src w' s (N + 4) := by
  have hs := h.lt
  go_enter Tryd.func29, Tryd.ntmps29
  go_wp2_with fail
  refine (one_any s _ 12 w h (by omega) (by omega)).mono ?_
  rintro e w2 ⟨x, rfl, hs2, ht2⟩
  have hl2 := ht2.size
  cases x with
  | true =>
    go_wp2_with fail
    have hal : Below w2.heap.size w2 (w2.alloc (.cells ([-1, 0, 100000, 100001].map (Value.int .i64)).toArray 2)) := (Below.refl _ _).alloc (Nat.le_refl _) _
    refine (among_any s _ w2.heap.size 4 [-1, 0, 100000, 100001] _ (hs2.lo (L := w2.heap.size) hal (by omega)) (by omega) (rd_new w2 [-1, 0, 100000, 100001] (by simp)) (by omega) (by simp) (by simp)).mono ?_
    rintro e w3 ⟨y, rfl, hy, hs3, ht3⟩
    have iy : -1 ≤ y ∧ y ≤ 100001 := by
      simp at hy
      rcases hy with rfl | rfl | rfl | rfl <;> omega
    have HT := Lib.hid ((ht2.trans (Below.touch hal)).trans ht3)
    clear hy hal ht2 ht3
    go_wp2
    go_ret
    exact ⟨y, rfl, iy, HT.out, hs3⟩
  | false =>
    go_wp2_with fail
    refine (pick_any s _ 100 w2 hs2 (by omega) (by omega)).mono ?_
    rintro e w3 ⟨y, rfl, y0, y1, hs3, ht3⟩
    have HT := Lib.hid (ht2.trans ht3)
    clear ht2 ht3
    go_wp2
    go_ret
    exact ⟨y, rfl, by omega, HT.out, hs3⟩
end Go.Proofs.YtcfpfhlgcfmioaaDoor

/- DrawG -/
namespace Go.Proofs.YtcfpfhlgcfmioaaDoor
open Go.RowKit

/-- A bent drum: numbers of 64 bits. -/
def BentK (K B T F : Int) : Prop := I64 K ∧ I64 B ∧ I64 T ∧ I64 F
/-- A bent drum in a box. -/
def DrBnt (s N r B : Nat) (w wx : World) : Prop := ∃ K b T F : Int, BentK K b T F ∧ Bx wx B 25 #[.int .i64 K, .int .i64 b, .int .i64 T, .int .i64 F] ∧ Bx wx r 25 #[.int .i64 0, .int .i64 0, .int .i64 0, .int .i64 0] ∧ Src wx s N ∧ Touch s (s + 1) w wx
theorem DrD.bent {K B T F : Int} (h : DrD K B T F) : BentK K B T F :=
  ⟨mid64 (by have := h.k0; omega) (by have := h.k1; omega), mid64 (by have := h.b0; omega) (by have := h.b1; omega), mid64 (by have := h.t0; have := h.b0; omega) (by have := h.t1; omega), mid64 (by have := h.f0; omega) (by have := h.f1; omega)⟩

set_option maxHeartbeats 8000000 in
theorem bentDrum_any (s N : Nat) (w : World) (h : Src w s N) (hN : N ≤ 600000) :
    Calls Tryd.prog 45 #[.pointer (some ⟨s, 0, none⟩)] w fun e w' => ∃ K B T F : Int, e = .returned (.agg #[.int .i64 K, .int .i64 B, .int .i64 T, .int .i64 F]) ∧ BentK K B T F ∧ Touch s (s + 1) w w' ∧ Src w' s (N + 40) := by
  have hs := h.lt
  obtain ⟨r, hr⟩ : ∃ r, r = w.heap.size := ⟨_, rfl⟩
  obtain ⟨u, hu⟩ : ∃ u, u = w.alloc (.cells #[.int .i64 0, .int .i64 0, .int .i64 0, .int .i64 0] 25) := ⟨_, rfl⟩
  have br : Bx u r 25 #[.int .i64 0, .int .i64 0, .int .i64 0, .int .i64 0] := by rw [hu, hr]; exact Bx.new _ _ _
  have hbu : Below w.heap.size w u := by rw [hu]; exact (by repeat (first | exact Below.refl _ _ | refine Below.setCell ?_ (by first | omega | (simp <;> omega)) _ | refine Below.alloc ?_ (by first | omega | (simp <;> omega)) _ | refine Below.drew ?_))
  have hsu : u.heap.size = r + 1 := by rw [hu, hr]; simp
  have su : Src u s N := h.lo hbu hs
  have tu : Touch s (s + 1) w u := Below.touch hbu
  have HU := Lib.hid hu
  have HR := Lib.hid hr
  clear hu h hbu
  have hsr : s < r := by omega
  go_enter Tryd.func45, Tryd.ntmps45
  go_wp2_with fail
  rw [← HU.out, ← hr]
  clear hr
  refine (drawDrum_any s N u su (by omega)).mono ?_
  rintro e w1 ⟨K, b, T, F, rfl, hdd, ht1, hs1⟩
  have hl1 := ht1.size
  replace br := br.touch ht1 (by omega)
  replace tu := tu.trans ht1
  clear ht1 su hsu
  go_wp2_with fail
  obtain ⟨B, hB⟩ : ∃ B, B = w1.heap.size := ⟨_, rfl⟩
  obtain ⟨v, hv⟩ : ∃ v, v = w1.alloc (.cells #[.int .i64 K, .int .i64 b, .int .i64 T, .int .i64 F] 25) := ⟨_, rfl⟩
  rw [← hv, ← hB]
  have hbv : Below w1.heap.size w1 v := by rw [hv]; exact (Below.refl _ _).alloc (Nat.le_refl _) _
  have bB : Bx v B 25 #[.int .i64 K, .int .i64 b, .int .i64 T, .int .i64 F] := by rw [hv, hB]; exact Bx.new _ _ _
  have hrB : r < B := by rw [hB]; exact br.lt
  replace br := br.below hbv
  replace tu := tu.trans (Below.touch hbv)
  have hsx := hs1.lo hbv (by omega)
  clear hv hbv hs1 hB
  refine (pick_any s _ 24 v hsx (by omega) (by omega)).mono ?_
  rintro e w2 ⟨z, rfl, z0, z1, hs2, ht2⟩
  have hl2 := ht2.size
  replace bB := bB.touch ht2 (by omega)
  replace br := br.touch ht2 (by omega)
  replace tu := tu.trans ht2
  replace hsx := hs2.mono (M := N + 30) (by omega)
  have hD := Lib.hid hdd.bent
  have b0 := hdd.b0
  have b1 := hdd.b1
  have t0 := hdd.t0
  have t1 := hdd.t1
  clear ht2 hs2 hdd
  have hBz := bB.lt
  go_upto_block 0 with fail
  go_cut [3] from 8 to 46 (fun s3 wx => s3 = .pointer (some ⟨B, 0, none⟩) ∧ DrBnt s (N + 40) r B w wx)
  case first =>
    by_cases h0 : z = 0
    · subst h0
      have hwz := br.lt
      go_wp2_with fail
      have hal : Below w2.heap.size w2 (w2.alloc (.cells ([0, 1, 4, -9223372036854775808].map (Value.int .i64)).toArray 2)) := (Below.refl _ _).alloc (Nat.le_refl _) _
      refine (among_any s _ w2.heap.size 4 [0, 1, 4, -9223372036854775808] _ (hsx.lo (L := w2.heap.size) hal (by omega)) (by omega) (rd_new w2 [0, 1, 4, -9223372036854775808] (by simp)) (by omega) (by simp) (by simp)).mono ?_
      rintro e w3 ⟨y, rfl, hy, hs3, ht3⟩
      have iy : I64 y := by
        simp at hy
        rcases hy with rfl | rfl | rfl | rfl
        all_goals first | exact mid64 (by omega) (by omega) | (unfold I64; decide)
      have hl3 := hal.size
      have b3 := (bB.below hal).touch ht3 (by omega)
      have r3 := (br.below hal).touch ht3 (by omega)
      have t3 := (tu.trans (Below.touch hal)).trans ht3
      have tt : Touch B (B + 1) w3 (w3.setCell ⟨B, 0, none⟩ (.int .i64 y)) := (Touch.refl _ _ _).setCell (by simp) (by simp) _
      have b4 := b3.set_ 0 (.int .i64 y)
      have r4 := r3.touch tt (by omega)
      have t4 := t3.then_ tt (by have := HR.out; omega)
      have s4 := (hs3.touch tt (by omega)).mono (M := N + 40) (by omega)
      have c3 := b3.at_ 0 rfl
      have f3 := b3.thaw 0
      clear tt ht3 hal hy bB br tu hsx
      go_wp2_with fail
      go_meet
      case rel => exact ⟨rfl, y, b, T, F, ⟨iy, hD.out.2.1, hD.out.2.2.1, hD.out.2.2.2⟩, b4, r4, s4, t4⟩
    have h0b : (z == 0) = false := beq_eq_false_iff_ne.2 h0
    by_cases h1 : z = 1
    · subst h1
      have hwz := br.lt
      go_wp2_with fail
      have hal : Below w2.heap.size w2 (w2.alloc (.cells ([1, 2, 16, 17].map (Value.int .i64)).toArray 2)) := (Below.refl _ _).alloc (Nat.le_refl _) _
      refine (among_any s _ w2.heap.size 4 [1, 2, 16, 17] _ (hsx.lo (L := w2.heap.size) hal (by omega)) (by omega) (rd_new w2 [1, 2, 16, 17] (by simp)) (by omega) (by simp) (by simp)).mono ?_
      rintro e w3 ⟨y, rfl, hy, hs3, ht3⟩
      have iy : I64 y := by
        simp at hy
        rcases hy with rfl | rfl | rfl | rfl
        all_goals first | exact mid64 (by omega) (by omega) | (unfold I64; decide)
      have hl3 := hal.size
      have b3 := (bB.below hal).touch ht3 (by omega)
      have r3 := (br.below hal).touch ht3 (by omega)
      have t3 := (tu.trans (Below.touch hal)).trans ht3
      have tt : Touch B (B + 1) w3 (w3.setCell ⟨B, 1, none⟩ (.int .i64 y)) := (Touch.refl _ _ _).setCell (by simp) (by simp) _
      have b4 := b3.set_ 1 (.int .i64 y)
      have r4 := r3.touch tt (by omega)
      have t4 := t3.then_ tt (by have := HR.out; omega)
      have s4 := (hs3.touch tt (by omega)).mono (M := N + 40) (by omega)
      have c3 := b3.at_ 1 rfl
      have f3 := b3.thaw 1
      clear tt ht3 hal hy bB br tu hsx
      go_wp2_with fail
      go_meet
      case rel => exact ⟨rfl, K, y, T, F, ⟨hD.out.1, iy, hD.out.2.2.1, hD.out.2.2.2⟩, b4, r4, s4, t4⟩
    have h1b : (z == 1) = false := beq_eq_false_iff_ne.2 h1
    by_cases h2 : z = 2
    · subst h2
      have hwz := br.lt
      have k1 := kept_lo (L := w2.heap.size) (bB.at_ 1 rfl) hBz
      have d1 := bB.at_ 1 rfl
      go_wp2_with fail
      have hal : Below w2.heap.size w2 (w2.alloc (.cells ([b - 1, 60, 61, -9223372036854775808].map (Value.int .i64)).toArray 2)) := (Below.refl _ _).alloc (Nat.le_refl _) _
      refine (among_any s _ w2.heap.size 4 [b - 1, 60, 61, -9223372036854775808] _ (hsx.lo (L := w2.heap.size) hal (by omega)) (by omega) (rd_new w2 [b - 1, 60, 61, -9223372036854775808] (by simp)) (by omega) (by simp) (by simp)).mono ?_
      rintro e w3 ⟨y, rfl, hy, hs3, ht3⟩
      have iy : I64 y := by
        simp at hy
        rcases hy with rfl | rfl | rfl | rfl
        all_goals first | exact mid64 (by omega) (by omega) | (unfold I64; decide)
      have hl3 := hal.size
      have b3 := (bB.below hal).touch ht3 (by omega)
      have r3 := (br.below hal).touch ht3 (by omega)
      have t3 := (tu.trans (Below.touch hal)).trans ht3
      have tt : Touch B (B + 1) w3 (w3.setCell ⟨B, 2, none⟩ (.int .i64 y)) := (Touch.refl _ _ _).setCell (by simp) (by simp) _
      have b4 := b3.set_ 2 (.int .i64 y)
      have r4 := r3.touch tt (by omega)
      have t4 := t3.then_ tt (by have := HR.out; omega)
      have s4 := (hs3.touch tt (by omega)).mono (M := N + 40) (by omega)
      have c3 := b3.at_ 2 rfl
      have f3 := b3.thaw 2
      clear tt ht3 hal hy bB br tu hsx
      go_wp2_with fail
      go_meet
      case rel => exact ⟨rfl, K, b, y, F, ⟨hD.out.1, hD.out.2.1, iy, hD.out.2.2.2⟩, b4, r4, s4, t4⟩
    have h2b : (z == 2) = false := beq_eq_false_iff_ne.2 h2
    by_cases h3 : z = 3
    · subst h3
      have hwz := br.lt
      have d1 := bB.at_ 1 rfl
      have d2 := bB.at_ 2 rfl
      go_wp2_with fail
      have hal : Below w2.heap.size w2 (w2.alloc (.cells ([0, 1, T - b + 2, T - b + 3, -1].map (Value.int .i64)).toArray 2)) := (Below.refl _ _).alloc (Nat.le_refl _) _
      refine (among_any s _ w2.heap.size 5 [0, 1, T - b + 2, T - b + 3, -1] _ (hsx.lo (L := w2.heap.size) hal (by omega)) (by omega) (rd_new w2 [0, 1, T - b + 2, T - b + 3, -1] (by simp)) (by omega) (by simp) (by simp)).mono ?_
      rintro e w3 ⟨y, rfl, hy, hs3, ht3⟩
      have iy : I64 y := by
        simp at hy
        rcases hy with rfl | rfl | rfl | rfl | rfl
        all_goals first | exact mid64 (by omega) (by omega) | (unfold I64; decide)
      have hl3 := hal.size
      have b3 := (bB.below hal).touch ht3 (by omega)
      have r3 := (br.below hal).touch ht3 (by omega)
      have t3 := (tu.trans (Below.touch hal)).trans ht3
      have tt : Touch B (B + 1) w3 (w3.setCell ⟨B, 3, none⟩ (.int .i64 y)) := (Touch.refl _ _ _).setCell (by simp) (by simp) _
      have b4 := b3.set_ 3 (.int .i64 y)
      have r4 := r3.touch tt (by omega)
      have t4 := t3.then_ tt (by have := HR.out; omega)
      have s4 := (hs3.touch tt (by omega)).mono (M := N + 40) (by omega)
      have c3 := b3.at_ 3 rfl
      have f3 := b3.thaw 3
      clear tt ht3 hal hy bB br tu hsx
      go_wp2_with fail
      go_meet
      case rel => exact ⟨rfl, K, b, T, y, ⟨hD.out.1, hD.out.2.1, hD.out.2.2.1, iy⟩, b4, r4, s4, t4⟩
    have h3b : (z == 3) = false := beq_eq_false_iff_ne.2 h3
    go_wp2_with fail
    go_meet
    case rel => exact ⟨rfl, K, b, T, F, hD.out, bB, br, hsx.mono (by omega), tu⟩
  case rest =>
    clear bB br tu hsx z0 z1 b0 b1 t0 t1 hD
    obtain ⟨rfl, K, b, T, F, hD, bB, br, hsx, tu⟩ := hcut
    obtain ⟨w5, rfl⟩ : ∃ v, v = wc := ⟨_, rfl⟩
    have HD := Lib.hid hD
    clear hD
    have d0 := bB.at_ 0 rfl
    have d1 := bB.at_ 1 rfl
    have d2 := bB.at_ 2 rfl
    have d3 := bB.at_ 3 rfl
    have c0 := br.at_ 0 rfl
    have c1 := br.at_ 1 rfl
    have c2 := br.at_ 2 rfl
    have c3 := br.at_ 3 rfl
    have fc0 := br.thaw 0
    have fc1 := br.thaw 1
    have fc2 := br.thaw 2
    have fc3 := br.thaw 3
    have hrl := br.lt
    have tt : Touch r (r + 1) w5 ((((w5.setCell ⟨r, 0, none⟩ (.int .i64 K)).setCell ⟨r, 1, none⟩ (.int .i64 b)).setCell ⟨r, 2, none⟩ (.int .i64 T)).setCell ⟨r, 3, none⟩ (.int .i64 F)) := ((((Touch.refl _ _ _).setCell (by simp) (by simp) _).setCell (by simp) (by simp) _).setCell (by simp) (by simp) _).setCell (by simp) (by simp) _
    have HT := Lib.hid (tu.then_ tt (by have := HR.out; omega))
    have HS := Lib.hid (hsx.touch tt (by omega))
    clear tt tu hsx
    go_wp2_with fail
    refine bodyPost_ret (v := .agg #[.int .i64 K, .int .i64 b, .int .i64 T, .int .i64 F]) (by simp [results, Tryd.results45, go_sem, c0, c1, c2, c3]) rfl ?_
    exact ⟨K, b, T, F, rfl, HD.out, HT.out, HS.out⟩
end Go.Proofs.YtcfpfhlgcfmioaaDoor

/- DrawI -/
namespace Go.Proofs.YtcfpfhlgcfmioaaDoor
open Go.RowKit

theorem max64 : I64 9223372036854775807 := by unfold I64; decide
set_option maxRecDepth 100000 in
set_option maxHeartbeats 8000000 in
theorem drumDigit_any (s N : Nat) (w : World) (h : Src w s N) (hN : N ≤ 500000) :
    Calls Tryd.prog 28 #[.pointer (some ⟨s, 0, none⟩)] w fun e w' => ∃ K B T F d : Int, e = .returned (.tuple #[.agg #[.int .i64 K, .int .i64 B, .int .i64 T, .int .i64 F], .int .i64 d]) ∧ BentK K B T F ∧ I64 d ∧ Touch s (s + 1) w w' ∧ Src w' s (N + 60) := by
  have hs := h.lt
  obtain ⟨r, hr⟩ : ∃ r, r = w.heap.size := ⟨_, rfl⟩
  obtain ⟨u, hu⟩ : ∃ u, u = w.alloc (.cells #[.int .i64 0, .int .i64 0, .int .i64 0, .int .i64 0] 25) := ⟨_, rfl⟩
  have br : Bx u r 25 #[.int .i64 0, .int .i64 0, .int .i64 0, .int .i64 0] := by rw [hu, hr]; exact Bx.new _ _ _
  have hbu : Below w.heap.size w u := by rw [hu]; exact (by repeat (first | exact Below.refl _ _ | refine Below.setCell ?_ (by first | omega | (simp <;> omega)) _ | refine Below.alloc ?_ (by first | omega | (simp <;> omega)) _ | refine Below.drew ?_))
  have hsu : u.heap.size = r + 1 := by rw [hu, hr]; simp
  have su : Src u s N := h.lo hbu hs
  have tu : Touch s (s + 1) w u := Below.touch hbu
  have HU := Lib.hid hu
  have HR := Lib.hid hr
  clear hu h hbu
  have hsr : s < r := by omega
  go_enter Tryd.func28, Tryd.ntmps28
  go_wp2_with fail
  rw [← HU.out, ← hr]
  clear hr
  refine (bentDrum_any s N u su (by omega)).mono ?_
  rintro e w1 ⟨K, b, T, F, rfl, hdd, ht1, hs1⟩
  have hl1 := ht1.size
  replace br := br.touch ht1 (by omega)
  replace tu := tu.trans ht1
  have HD := Lib.hid hdd
  clear ht1 su hsu hdd
  go_wp2_with fail
  obtain ⟨B, hB⟩ : ∃ B, B = w1.heap.size := ⟨_, rfl⟩
  obtain ⟨v, hv⟩ : ∃ v, v = w1.alloc (.cells #[.int .i64 K, .int .i64 b, .int .i64 T, .int .i64 F] 25) := ⟨_, rfl⟩
  rw [← hv, ← hB]
  have hbv : Below w1.heap.size w1 v := by rw [hv]; exact (Below.refl _ _).alloc (Nat.le_refl _) _
  have bB : Bx v B 25 #[.int .i64 K, .int .i64 b, .int .i64 T, .int .i64 F] := by rw [hv, hB]; exact Bx.new _ _ _
  have hrB : r < B := by rw [hB]; exact br.lt
  replace br := br.below hbv
  replace tu := tu.trans (Below.touch hbv)
  have hsx := hs1.lo hbv (by omega)
  clear hv hbv hs1 hB
  refine (one_any s _ 12 v hsx (by omega) (by omega)).mono ?_
  rintro e w2 ⟨x, rfl, hs2, ht2⟩
  have hl2 := ht2.size
  replace bB := bB.touch ht2 (by omega)
  replace br := br.touch ht2 (by omega)
  replace tu := tu.trans ht2
  clear ht2 hsx
  have hBz := bB.lt
  have g0 : ∀ w', Bx w' B 25 #[.int .i64 K, .int .i64 b, .int .i64 T, .int .i64 F] → w'.cell? ⟨B, 0, none⟩ = some (.int .i64 K) := fun w' h => h.at_ 0 rfl
  have g1 : ∀ w', Bx w' B 25 #[.int .i64 K, .int .i64 b, .int .i64 T, .int .i64 F] → w'.cell? ⟨B, 1, none⟩ = some (.int .i64 b) := fun w' h => h.at_ 1 rfl
  have g2 : ∀ w', Bx w' B 25 #[.int .i64 K, .int .i64 b, .int .i64 T, .int .i64 F] → w'.cell? ⟨B, 2, none⟩ = some (.int .i64 T) := fun w' h => h.at_ 2 rfl
  have g3 : ∀ w', Bx w' B 25 #[.int .i64 K, .int .i64 b, .int .i64 T, .int .i64 F] → w'.cell? ⟨B, 3, none⟩ = some (.int .i64 F) := fun w' h => h.at_ 3 rfl
  cases x with
  | true =>
    go_wp2_with fail
    refine wp_region_marked (fun w' => Bx w' B 25 #[.int .i64 K, .int .i64 b, .int .i64 T, .int .i64 F]) 7 (by kernel_rfl) ?_
    have hS : Bx w2.drew B 25 #[.int .i64 K, .int .i64 b, .int .i64 T, .int .i64 F] := bB.drew
    refine wpAnyM_take (i := 0) (v := ?_) rfl (by kernel_rfl) (by kernel_rfl) (by kernel_rfl) (by kernel_rfl) (by kernel_rfl) (fun _ _ _ h => h) hS (.inl ⟨by rfl, ?_⟩) ?_
    rotate_left 1
    · intro w' hS'; go_simp; try with_reducible rfl
    simp only [Act.put, List.setIfInBounds_toArray]
    refine wpAnyM_take (i := 1) (v := ?_) rfl (by kernel_rfl) (by kernel_rfl) (by kernel_rfl) (by kernel_rfl) (by kernel_rfl) (fun _ _ _ h => h) hS (.inl ⟨by rfl, ?_⟩) ?_
    rotate_left 1
    · intro w' hS'; go_simp; try with_reducible rfl
    simp only [Act.put]
    refine wpAnyM_take (i := 2) (v := ?_) rfl (by kernel_rfl) (by kernel_rfl) (by kernel_rfl) (by kernel_rfl) (by kernel_rfl) (fun _ _ _ h => h) hS (.inl ⟨by rfl, ?_⟩) ?_
    rotate_left 1
    · intro w' hS'; go_simp; try with_reducible rfl
    simp only [Act.put]
    refine wpAnyM_take (i := 3) (v := ?_) rfl (by kernel_rfl) (by kernel_rfl) (by kernel_rfl) (by kernel_rfl) (by kernel_rfl) (fun _ _ _ h => h) hS (.inl ⟨by rfl, ?_⟩) ?_
    rotate_left 1
    · intro w' hS'; go_simp; try with_reducible rfl
    simp only [Act.put]
    refine wpAnyM_one (i := 4) (by kernel_rfl) rfl (by rfl) (fun K hK => ?_)
    go_simp
    have hal : Below w2.heap.size w2 (w2.drew.alloc (.cells ([-1, b, 9223372036854775807].map (Value.int .i64)).toArray 2)) := ((Below.refl _ _).drew).alloc (Nat.le_refl _) _
    replace hS := bB.below hal
    refine hK _ _ (.inr hS) ?_
    try simp only [Act.put, List.setIfInBounds_toArray]
    clear hK K
    refine wpAnyM_one (i := 5) (by kernel_rfl) rfl (by rfl) (fun K hK => ?_)
    go_simp
    refine (among_any s _ w2.heap.size 3 [-1, b, 9223372036854775807] _ (hs2.lo (L := w2.heap.size) hal (by omega)) (by omega) (by have := rd_new w2.drew [-1, b, 9223372036854775807] (by simp); exact this) (by omega) (by simp) (by simp)).mono ?_
    rintro e w5 ⟨y, rfl, hy, hs4, ht5⟩
    have iy : I64 y := by
      simp at hy
      rcases hy with rfl | rfl | rfl
      · exact mid64 (by omega) (by omega)
      · exact HD.out.2.1
      · exact max64
    have HY := Lib.hid iy
    have hl3 := hal.size
    have hT := (Below.touch hal : Touch s (s + 1) w2 _).trans ht5
    have hl5 := hT.size
    replace hS := hS.touch ht5 (by omega)
    refine hK _ _ (.inr hS) ?_
    try simp only [Act.put, List.setIfInBounds_toArray]
    clear hK K ht5 hal hy iy
    have r5 := br.touch hT (by omega)
    have hrl := r5.lt
    have c0 := r5.at_ 0 rfl
    have c1 := r5.at_ 1 rfl
    have c2 := r5.at_ 2 rfl
    have c3 := r5.at_ 3 rfl
    have fc0 := r5.thaw 0
    have fc1 := r5.thaw 1
    have fc2 := r5.thaw 2
    have fc3 := r5.thaw 3
    have tt : Touch r (r + 1) w5 ((((w5.setCell ⟨r, 0, none⟩ (.int .i64 K)).setCell ⟨r, 1, none⟩ (.int .i64 b)).setCell ⟨r, 2, none⟩ (.int .i64 T)).setCell ⟨r, 3, none⟩ (.int .i64 F)) := (((((Touch.refl _ _ _).setCell (by simp) (by simp) _).setCell (by simp) (by simp) _).setCell (by simp) (by simp) _).setCell (by simp) (by simp) _)
    have HBx := Lib.hid (hS.touch tt (by omega))
    have HT := Lib.hid ((tu.trans hT).then_ tt (by have := HR.out; omega))
    have HS := Lib.hid ((hs4.touch tt (by omega)).mono (M := N + 60) (by omega))
    have R4 := Lib.hid (((((r5.set_ 0 (.int .i64 K)).set_ 1 (.int .i64 b)).set_ 2 (.int .i64 T)).set_ 3 (.int .i64 F)))
    clear tt
    refine wpAnyM_one (i := 6) (by kernel_rfl) rfl (by rfl) (fun K hK => ?_)
    go_simp
    refine hK _ _ (.inr HBx.out) ?_
    try simp only [Act.put, List.setIfInBounds_toArray]
    clear hK K c0 c1 c2 c3 fc0 fc1 fc2 fc3
    refine wpAnyM_one (i := 7) (by kernel_rfl) rfl (by rfl) (fun K hK => ?_)
    go_simp
    refine hK _ _ (.inl rfl) ?_
    clear hK K
    refine wpAnyM_done (by kernel_rfl) ?_ _
    have q0 := R4.out.at_ 0 rfl
    have q1 := R4.out.at_ 1 rfl
    have q2 := R4.out.at_ 2 rfl
    have q3 := R4.out.at_ 3 rfl
    obtain ⟨wz, hwz⟩ : ∃ wz, wz = ((((w5.setCell ⟨r, 0, none⟩ (.int .i64 K)).setCell ⟨r, 1, none⟩ (.int .i64 b)).setCell ⟨r, 2, none⟩ (.int .i64 T)).setCell ⟨r, 3, none⟩ (.int .i64 F)) := ⟨_, rfl⟩
    rw [← hwz] at q0 q1 q2 q3 HT HS ⊢
    clear hwz g0 g1 g2 g3
    go_wp2
    refine bodyPost_ret (v := .tuple #[.agg #[.int .i64 K, .int .i64 b, .int .i64 T, .int .i64 F], .int .i64 y]) (by simp [results, Tryd.results28, go_sem, q0, q1, q2, q3]) rfl ?_
    exact ⟨K, b, T, F, y, rfl, HD.out, HY.out, HT.out, HS.out⟩
  | false =>
    go_wp2_with fail
    refine wp_region_marked (fun w' => Bx w' B 25 #[.int .i64 K, .int .i64 b, .int .i64 T, .int .i64 F]) 8 (by kernel_rfl) ?_
    have hS : Bx w2.drew B 25 #[.int .i64 K, .int .i64 b, .int .i64 T, .int .i64 F] := bB.drew
    refine wpAnyM_take (i := 0) (v := ?_) rfl (by kernel_rfl) (by kernel_rfl) (by kernel_rfl) (by kernel_rfl) (by kernel_rfl) (fun _ _ _ h => h) hS (.inl ⟨by rfl, ?_⟩) ?_
    rotate_left 1
    · intro w' hS'; go_simp; try with_reducible rfl
    simp only [Act.put, List.setIfInBounds_toArray]
    refine wpAnyM_take (i := 1) (v := ?_) rfl (by kernel_rfl) (by kernel_rfl) (by kernel_rfl) (by kernel_rfl) (by kernel_rfl) (fun _ _ _ h => h) hS (.inl ⟨by rfl, ?_⟩) ?_
    rotate_left 1
    · intro w' hS'; go_simp; try with_reducible rfl
    simp only [Act.put]
    refine wpAnyM_take (i := 2) (v := ?_) rfl (by kernel_rfl) (by kernel_rfl) (by kernel_rfl) (by kernel_rfl) (by kernel_rfl) (fun _ _ _ h => h) hS (.inl ⟨by rfl, ?_⟩) ?_
    rotate_left 1
    · intro w' hS'; go_simp; try with_reducible rfl
    simp only [Act.put]
    refine wpAnyM_take (i := 3) (v := ?_) rfl (by kernel_rfl) (by kernel_rfl) (by kernel_rfl) (by kernel_rfl) (by kernel_rfl) (fun _ _ _ h => h) hS (.inl ⟨by rfl, ?_⟩) ?_
    rotate_left 1
    · intro w' hS'; go_simp; try with_reducible rfl
    simp only [Act.put]
    refine wpAnyM_one (i := 4) (by kernel_rfl) rfl (by rfl) (fun K hK => ?_)
    go_simp
    refine (l00Min_any 16 b w2.drew).mono ?_
    rintro e w3 ⟨rfl, hq3⟩
    subst w3
    refine hK _ _ (.inr hS) ?_
    try simp only [Act.put, List.setIfInBounds_toArray]
    clear hK K
    refine wpAnyM_one (i := 5) (by kernel_rfl) rfl (by rfl) (fun K hK => ?_)
    go_simp
    refine (l00Max_any 1 (min 16 b) w2.drew).mono ?_
    rintro e w3 ⟨rfl, hq3⟩
    subst w3
    refine hK _ _ (.inr hS) ?_
    try simp only [Act.put, List.setIfInBounds_toArray]
    clear hK K
    obtain ⟨n, hn⟩ : ∃ n, n = max 1 (min 16 b) := ⟨_, rfl⟩
    have hn16 : 1 ≤ n ∧ n ≤ 16 := by omega
    rw [← hn]
    clear hn
    refine wpAnyM_one (i := 6) (by kernel_rfl) rfl (by rfl) (fun K hK => ?_)
    go_simp
    refine (pick_any s _ n w2.drew (hs2.lo (L := w2.heap.size) ((Below.refl _ _).drew) (by omega)) (by omega) (by omega)).mono ?_
    rintro e w5 ⟨y, rfl, y0, y1, hs4, ht5⟩
    have HY := Lib.hid (show I64 y from mid64 (by omega) (by omega))
    have hT : Touch s (s + 1) w2 w5 := ((Touch.refl _ _ _).drewN 1).trans ht5
    have hl5 := hT.size
    replace hS := hS.touch ht5 (by omega)
    refine hK _ _ (.inr hS) ?_
    try simp only [Act.put, List.setIfInBounds_toArray]
    clear hK K ht5 y0 y1
    have r5 := br.touch hT (by omega)
    have hrl := r5.lt
    have c0 := r5.at_ 0 rfl
    have c1 := r5.at_ 1 rfl
    have c2 := r5.at_ 2 rfl
    have c3 := r5.at_ 3 rfl
    have fc0 := r5.thaw 0
    have fc1 := r5.thaw 1
    have fc2 := r5.thaw 2
    have fc3 := r5.thaw 3
    have tt : Touch r (r + 1) w5 ((((w5.setCell ⟨r, 0, none⟩ (.int .i64 K)).setCell ⟨r, 1, none⟩ (.int .i64 b)).setCell ⟨r, 2, none⟩ (.int .i64 T)).setCell ⟨r, 3, none⟩ (.int .i64 F)) := (((((Touch.refl _ _ _).setCell (by simp) (by simp) _).setCell (by simp) (by simp) _).setCell (by simp) (by simp) _).setCell (by simp) (by simp) _)
    have HBx := Lib.hid (hS.touch tt (by omega))
    have HT := Lib.hid ((tu.trans hT).then_ tt (by have := HR.out; omega))
    have HS := Lib.hid ((hs4.touch tt (by omega)).mono (M := N + 60) (by omega))
    have R4 := Lib.hid (((((r5.set_ 0 (.int .i64 K)).set_ 1 (.int .i64 b)).set_ 2 (.int .i64 T)).set_ 3 (.int .i64 F)))
    clear tt
    refine wpAnyM_one (i := 7) (by kernel_rfl) rfl (by rfl) (fun K hK => ?_)
    go_simp
    refine hK _ _ (.inr HBx.out) ?_
    try simp only [Act.put, List.setIfInBounds_toArray]
    clear hK K c0 c1 c2 c3 fc0 fc1 fc2 fc3
    refine wpAnyM_one (i := 8) (by kernel_rfl) rfl (by rfl) (fun K hK => ?_)
    go_simp
    refine hK _ _ (.inl rfl) ?_
    clear hK K
    refine wpAnyM_done (by kernel_rfl) ?_ _
    have q0 := R4.out.at_ 0 rfl
    have q1 := R4.out.at_ 1 rfl
    have q2 := R4.out.at_ 2 rfl
    have q3 := R4.out.at_ 3 rfl
    obtain ⟨wz, hwz⟩ : ∃ wz, wz = ((((w5.setCell ⟨r, 0, none⟩ (.int .i64 K)).setCell ⟨r, 1, none⟩ (.int .i64 b)).setCell ⟨r, 2, none⟩ (.int .i64 T)).setCell ⟨r, 3, none⟩ (.int .i64 F)) := ⟨_, rfl⟩
    rw [← hwz] at q0 q1 q2 q3 HT HS ⊢
    clear hwz g0 g1 g2 g3
    go_wp2
    refine bodyPost_ret (v := .tuple #[.agg #[.int .i64 K, .int .i64 b, .int .i64 T, .int .i64 F], .int .i64 y]) (by simp [results, Tryd.results28, go_sem, q0, q1, q2, q3]) rfl ?_
    exact ⟨K, b, T, F, y, rfl, HD.out, HY.out, HT.out, HS.out⟩
end Go.Proofs.YtcfpfhlgcfmioaaDoor
