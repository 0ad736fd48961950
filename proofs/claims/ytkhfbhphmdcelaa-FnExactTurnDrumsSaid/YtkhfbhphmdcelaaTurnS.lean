/-
  spec.TurnDrums.
-/
import Derived.Test.YtkhfbhphmdcelaaDrumT
import Derived.Test.YtkhfbhphmdcelaaTurnM
namespace Go.Proofs.Ytkhfbhphmdcelaa
open Go.RowKit

set_option maxRecDepth 100000 in
set_option maxHeartbeats 8000000 in
theorem specTurnDrums (K B T F b : Int) (a : Option Addr) (c : Nat) (xs : List Int) (d : Int) (a' : Option Addr) (c' : Nat) (ys : List Int) (t : Int) (w : World) (_ : I64 K ∧ I64 B ∧ I64 T ∧ I64 F) (ha : Rd w a xs) (_ : All64 xs) (_ : I64 b) (hb : Rd w a' ys) (_ : All64 ys) (_ : I64 d) (_ : I64 t) :
    Calls Try.prog 51 #[.agg #[.int .i64 K, .int .i64 B, .int .i64 T, .int .i64 F], .agg #[.int .i64 b, .slice a xs.length c], .agg #[.int .i64 d, .slice a' ys.length c'], .int .i64 t] w (RegC (turnR K B T F b xs d ys t) w) := by
  have hx := ha.len
  obtain ⟨u, hu⟩ : ∃ u, u = ((((w.alloc (.cells #[.int .i64 K, .int .i64 B, .int .i64 T, .int .i64 F] 57)).alloc (.cells #[.int .i64 b, .slice a xs.length c] 60)).alloc (.cells #[.int .i64 d, .slice a' ys.length c'] 60)).alloc (.cells #[.int .i64 0, .slice none 0 0] 60)) := ⟨_, rfl⟩
  have bx : Bx u w.heap.size 57 #[.int .i64 K, .int .i64 B, .int .i64 T, .int .i64 F] := by rw [hu]; exact (((Bx.new _ _ _).alloc _).alloc _).alloc _
  have b1 : Bx u (w.heap.size + 1) 60 #[.int .i64 b, .slice a xs.length c] := by rw [hu]; exact ((by simpa using Bx.new (w.alloc (.cells #[.int .i64 K, .int .i64 B, .int .i64 T, .int .i64 F] 57)) #[.int .i64 b, .slice a xs.length c] 60 : Bx ((w.alloc (.cells #[.int .i64 K, .int .i64 B, .int .i64 T, .int .i64 F] 57)).alloc (.cells #[.int .i64 b, .slice a xs.length c] 60)) (w.heap.size + 1) _ _).alloc _).alloc _
  have b2 : Bx u (w.heap.size + 1 + 1) 60 #[.int .i64 d, .slice a' ys.length c'] := by rw [hu]; exact (by simpa using Bx.new ((w.alloc (.cells #[.int .i64 K, .int .i64 B, .int .i64 T, .int .i64 F] 57)).alloc (.cells #[.int .i64 b, .slice a xs.length c] 60)) #[.int .i64 d, .slice a' ys.length c'] 60 : Bx (((w.alloc (.cells #[.int .i64 K, .int .i64 B, .int .i64 T, .int .i64 F] 57)).alloc (.cells #[.int .i64 b, .slice a xs.length c] 60)).alloc (.cells #[.int .i64 d, .slice a' ys.length c'] 60)) (w.heap.size + 1 + 1) _ _).alloc _
  have b3 : Bx u (w.heap.size + 1 + 1 + 1) 60 #[.int .i64 0, .slice none 0 0] := by rw [hu]; simpa using Bx.new (((w.alloc (.cells #[.int .i64 K, .int .i64 B, .int .i64 T, .int .i64 F] 57)).alloc (.cells #[.int .i64 b, .slice a xs.length c] 60)).alloc (.cells #[.int .i64 d, .slice a' ys.length c'] 60)) #[.int .i64 0, .slice none 0 0] 60
  have hbel : Below w.heap.size w u := by rw [hu]; exact (by repeat (first | exact Below.refl _ _ | refine Below.setCell ?_ (by first | omega | (simp <;> omega)) _ | refine Below.alloc ?_ (by first | omega | (simp <;> omega)) _ | refine Below.drew ?_))
  have HU := Lib.hid hu
  clear hu
  replace ha := ha.below hbel
  replace hb := hb.below hbel
  have HV := Lib.hid (fun v (hv : DrumAt v w.heap.size K B T F) => l05Ok_any w.heap.size K B T F v hv)
  have HP := Lib.hid (fun v (h1 : Rd v a xs) (h2 : Rd v a' ys) => l02Two_any (w.heap.size + 1) (w.heap.size + 1 + 1) b d a a' c c' xs ys v h1 h2)
  cases hd : drumB K B T F with
  | false =>
    have HR := Lib.hid (turn_bad (b := b) (xs := xs) (d := d) (ys := ys) (t := t) hd)
    rw [hd] at HV
    clear hd
    have c0 := bx.at_ 0 rfl
    have c1 := bx.at_ 1 rfl
    have c2 := bx.at_ 2 rfl
    have c3 := bx.at_ 3 rfl
    have x0 := b1.at_ 0 rfl
    have x1 := b1.at_ 1 rfl
    have y0 := b2.at_ 0 rfl
    have y1 := b2.at_ 1 rfl
    have r0 := b3.at_ 0 rfl
    have r1 := b3.at_ 1 rfl
    have f0 := b3.thaw 0
    have f1 := b3.thaw 1
    go_enter Try.func51, Try.ntmps51
    go_wp2_with fail
    rw [← HU.out]
    refine (HV.out _ (DrumAt.of_box bx)).mono ?_
    rintro e w1 ⟨rfl, k1, hw⟩
    have hbk1 : Below u.heap.size u w1 := by rw [hw]; exact bel_drewN (Below.refl _ _) k1
    clear hw
    clear c0 c1 c2 c3 x0 x1 y0 y1 r0 r1 f0 f1
    replace bx := bx.below hbk1
    replace b1 := b1.below hbk1
    replace b2 := b2.below hbk1
    replace b3 := b3.below hbk1
    replace ha := ha.below hbk1
    replace hb := hb.below hbk1
    replace hbel := hbel.trans (hbk1.mono hbel.size)
    clear hbk1
    have c0 := bx.at_ 0 rfl
    have c1 := bx.at_ 1 rfl
    have c2 := bx.at_ 2 rfl
    have c3 := bx.at_ 3 rfl
    have x0 := b1.at_ 0 rfl
    have x1 := b1.at_ 1 rfl
    have y0 := b2.at_ 0 rfl
    have y1 := b2.at_ 1 rfl
    have r0 := b3.at_ 0 rfl
    have r1 := b3.at_ 1 rfl
    have f0 := b3.thaw 0
    have f1 := b3.thaw 1
    have hsz := hbel.size
    go_wp2
    exact bodyPost_ret (v := .tuple #[.agg #[.int .i64 0, .slice none 0 0], .int .i64 1]) (by simp [results, Try.results51, go_sem, r0, r1]) rfl
      (regC_err HR.out rfl (by repeat (first | with_reducible exact hbel | with_reducible refine Below.setCell ?_ (by first | omega | (simp <;> omega)) _ | with_reducible refine Below.alloc ?_ (by first | omega | (simp <;> omega)) _ | with_reducible refine Below.drew ?_)))
  | true =>
    rw [hd] at HV
    by_cases h2 : twoE b xs d ys = 0
    · rw [h2] at HP
      by_cases h3 : b = B
      · have hq : (B != b) = false := by simp [h3]
        cases hi : inB t 0 100000 with
        | false =>
          have HI := Lib.hid hi
          have HR := Lib.hid (turn_time hd h2 h3 hi)
          clear hd h2 h3 hi
          have c0 := bx.at_ 0 rfl
          have c1 := bx.at_ 1 rfl
          have c2 := bx.at_ 2 rfl
          have c3 := bx.at_ 3 rfl
          have x0 := b1.at_ 0 rfl
          have x1 := b1.at_ 1 rfl
          have y0 := b2.at_ 0 rfl
          have y1 := b2.at_ 1 rfl
          have r0 := b3.at_ 0 rfl
          have r1 := b3.at_ 1 rfl
          have f0 := b3.thaw 0
          have f1 := b3.thaw 1
          go_enter Try.func51, Try.ntmps51
          go_wp2_with fail
          rw [← HU.out]
          refine (HV.out _ (DrumAt.of_box bx)).mono ?_
          rintro e w1 ⟨rfl, k1, hw⟩
          have hbk1 : Below u.heap.size u w1 := by rw [hw]; exact bel_drewN (Below.refl _ _) k1
          clear hw
          clear c0 c1 c2 c3 x0 x1 y0 y1 r0 r1 f0 f1
          replace bx := bx.below hbk1
          replace b1 := b1.below hbk1
          replace b2 := b2.below hbk1
          replace b3 := b3.below hbk1
          replace ha := ha.below hbk1
          replace hb := hb.below hbk1
          replace hbel := hbel.trans (hbk1.mono hbel.size)
          clear hbk1
          have c0 := bx.at_ 0 rfl
          have c1 := bx.at_ 1 rfl
          have c2 := bx.at_ 2 rfl
          have c3 := bx.at_ 3 rfl
          have x0 := b1.at_ 0 rfl
          have x1 := b1.at_ 1 rfl
          have y0 := b2.at_ 0 rfl
          have y1 := b2.at_ 1 rfl
          have r0 := b3.at_ 0 rfl
          have r1 := b3.at_ 1 rfl
          have f0 := b3.thaw 0
          have f1 := b3.thaw 1
          go_wp2_with fail
          refine (HP.out _ ha hb x0 x1 y0 y1).mono ?_
          rintro e w2 ⟨rfl, k2, hw⟩
          have hbk2 : Below w1.heap.size w1 w2 := by rw [hw]; exact bel_drewN (Below.refl _ _) k2
          clear hw
          clear c0 c1 c2 c3 x0 x1 y0 y1 r0 r1 f0 f1
          replace bx := bx.below hbk2
          replace b1 := b1.below hbk2
          replace b2 := b2.below hbk2
          replace b3 := b3.below hbk2
          replace ha := ha.below hbk2
          replace hb := hb.below hbk2
          replace hbel := hbel.trans (hbk2.mono hbel.size)
          clear hbk2
          have c0 := bx.at_ 0 rfl
          have c1 := bx.at_ 1 rfl
          have c2 := bx.at_ 2 rfl
          have c3 := bx.at_ 3 rfl
          have x0 := b1.at_ 0 rfl
          have x1 := b1.at_ 1 rfl
          have y0 := b2.at_ 0 rfl
          have y1 := b2.at_ 1 rfl
          have r0 := b3.at_ 0 rfl
          have r1 := b3.at_ 1 rfl
          have f0 := b3.thaw 0
          have f1 := b3.thaw 1
          go_wp2_with (go_at_call 92; refine (l00In_any _ _ _ _).mono ?_; rintro e w3 ⟨rfl, hq⟩; subst w3; rw [HI.out])
          have hsz := hbel.size
          skip
          exact bodyPost_ret (v := .tuple #[.agg #[.int .i64 0, .slice none 0 0], .int .i64 2]) (by simp [results, Try.results51, go_sem, r0, r1]) rfl
            (regC_err HR.out rfl (by repeat (first | with_reducible exact hbel | with_reducible refine Below.setCell ?_ (by first | omega | (simp <;> omega)) _ | with_reducible refine Below.alloc ?_ (by first | omega | (simp <;> omega)) _ | with_reducible refine Below.drew ?_)))
        | true =>
          have HI := Lib.hid hi
          have HR := Lib.hid (turn_fin hd h2 h3 hi)
          have HD := Lib.hid (drm_of hd)
          have HS := Lib.hid (okB_spec (twoE_zero h2).1)
          have HX := Lib.hid (digit_of_ok (twoE_zero h2).1)
          have HY := Lib.hid (digit_of_ok (twoE_zero h2).2.1)
          have HL := Lib.hid (twoE_zero h2).2.2.2
          have HE := Lib.hid h3
          have HE2 := Lib.hid (twoE_zero h2).2.2.1
          obtain ⟨t0, t1⟩ := inB_true hi
          have hB1 := HD.out.b1
          have hB2 := HD.out.b2
          have hl16 := HS.out.2.2.2.1
          clear hd h2 h3 hi
          have c0 := bx.at_ 0 rfl
          have c1 := bx.at_ 1 rfl
          have c2 := bx.at_ 2 rfl
          have c3 := bx.at_ 3 rfl
          have x0 := b1.at_ 0 rfl
          have x1 := b1.at_ 1 rfl
          have y0 := b2.at_ 0 rfl
          have y1 := b2.at_ 1 rfl
          have r0 := b3.at_ 0 rfl
          have r1 := b3.at_ 1 rfl
          have f0 := b3.thaw 0
          have f1 := b3.thaw 1
          go_enter Try.func51, Try.ntmps51
          go_wp2_with fail
          rw [← HU.out]
          refine (HV.out _ (DrumAt.of_box bx)).mono ?_
          rintro e w1 ⟨rfl, k1, hw⟩
          have hbk1 : Below u.heap.size u w1 := by rw [hw]; exact bel_drewN (Below.refl _ _) k1
          clear hw
          clear c0 c1 c2 c3 x0 x1 y0 y1 r0 r1 f0 f1
          replace bx := bx.below hbk1
          replace b1 := b1.below hbk1
          replace b2 := b2.below hbk1
          replace b3 := b3.below hbk1
          replace ha := ha.below hbk1
          replace hb := hb.below hbk1
          replace hbel := hbel.trans (hbk1.mono hbel.size)
          clear hbk1
          have c0 := bx.at_ 0 rfl
          have c1 := bx.at_ 1 rfl
          have c2 := bx.at_ 2 rfl
          have c3 := bx.at_ 3 rfl
          have x0 := b1.at_ 0 rfl
          have x1 := b1.at_ 1 rfl
          have y0 := b2.at_ 0 rfl
          have y1 := b2.at_ 1 rfl
          have r0 := b3.at_ 0 rfl
          have r1 := b3.at_ 1 rfl
          have f0 := b3.thaw 0
          have f1 := b3.thaw 1
          go_wp2_with fail
          refine (HP.out _ ha hb x0 x1 y0 y1).mono ?_
          rintro e w2 ⟨rfl, k2, hw⟩
          have hbk2 : Below w1.heap.size w1 w2 := by rw [hw]; exact bel_drewN (Below.refl _ _) k2
          clear hw
          clear c0 c1 c2 c3 x0 x1 y0 y1 r0 r1 f0 f1
          replace bx := bx.below hbk2
          replace b1 := b1.below hbk2
          replace b2 := b2.below hbk2
          replace b3 := b3.below hbk2
          replace ha := ha.below hbk2
          replace hb := hb.below hbk2
          replace hbel := hbel.trans (hbk2.mono hbel.size)
          clear hbk2
          have c0 := bx.at_ 0 rfl
          have c1 := bx.at_ 1 rfl
          have c2 := bx.at_ 2 rfl
          have c3 := bx.at_ 3 rfl
          have x0 := b1.at_ 0 rfl
          have x1 := b1.at_ 1 rfl
          have y0 := b2.at_ 0 rfl
          have y1 := b2.at_ 1 rfl
          have r0 := b3.at_ 0 rfl
          have r1 := b3.at_ 1 rfl
          have f0 := b3.thaw 0
          have f1 := b3.thaw 1

          go_wp2_with (go_at_call 92; refine (l00In_any _ _ _ _).mono ?_; rintro e w3 ⟨rfl, hq⟩; subst w3; rw [HI.out])
          obtain ⟨V, hV⟩ : ∃ V, V = w2.heap.size := ⟨_, rfl⟩
          have hVw : w.heap.size + 1 + 1 + 1 < V := by rw [hV]; exact b3.lt
          have HVV := Lib.hid hV
          rw [← hV]
          have hst : Bx (w2.alloc (.cells #[.int .i64 b, .slice none 0 0] 60)) V 60 #[.int .i64 B, .slice none 0 0] ∧ Below V w2 (w2.alloc (.cells #[.int .i64 b, .slice none 0 0] 60)) := by
            rw [hV]
            exact ⟨by simpa [HE.out] using Bx.new w2 #[.int .i64 b, .slice none 0 0] 60, (Below.refl _ _).alloc (Nat.le_refl _) _⟩
          clear hq hV
          go_loopw [12, 13] (fun i _ wr => ∃ (k : Nat) (A : Option Addr) (C : Nat), k ≤ xs.length ∧ i = .int .i64 k ∧ Bx wr V 60 #[.int .i64 B, .slice A k C] ∧
            Own 2 wr (V + 1) wr.heap.size (.slice A k C) (tab (turnD K B T F xs ys t) k) ∧ Below V w2 wr) (fun i _ _ => xs.length - (intOf i).toNat)
          case atStart => exact ⟨0, none, 0, Nat.zero_le _, rfl, hst.1, own_nil _ _ _ _, hst.2⟩
          case round =>
            clear c0 c1 c2 c3 x0 x1 y0 y1 r0 r1 f0 f1 hst
            obtain ⟨k, A, C, hk, rfl, dx, hown, hbn⟩ := hrel
            have hbn' : Below w2.heap.size w2 wr := by rw [← HVV.out]; exact hbn
            have hsz := dx.lt
            have x1 := (b1.below hbn').at_ 1 rfl
            have y1 := (b2.below hbn').at_ 1 rfl
            by_cases hlt : k < xs.length
            · have hky : k < ys.length := by have := HL.out; omega
              obtain ⟨p1, o1, rfl, hc1⟩ := (ha.below hbn').at_ hlt
              obtain ⟨p2, o2, rfl, hc2⟩ := (hb.below hbn').at_ hky
              have hX := HX.out k hlt
              have hY := HY.out k hky
              rw [HE.out] at hX
              rw [← HE2.out, HE.out] at hY
              have hby := by_bd HD.out hY.1 hY.2 t0 t1
              have hB0 : ¬ B = 0 := by omega
              obtain ⟨y, hy⟩ : ∃ y, y = byR K B T F (nth ys k) t := ⟨_, rfl⟩
              have HC := Lib.hid (fun v (hv : DrumAt v w.heap.size K B T F) => l05By_any w.heap.size K B T F (nth ys k) t v hv HD.out hY.1 hY.2 t0 t1)
              rw [← hy] at hby HC
              have hw1 : IntKind.i64.wrap (nth xs k + y) = nth xs k + y := IntWalk.i64_in _ (by omega)
              have hrem : (nth xs k + y).tmod B = (nth xs k + y) % B := Int.tmod_eq_emod_of_nonneg (by omega)
              have HT := Lib.hid (show turnD K B T F xs ys t k = (nth xs k + y) % B by rw [turnD, hy])
              clear hy
              go_wp2_with fail
              refine (HC.out _ (DrumAt.of_box (bx.below hbn'))).mono ?_
              rintro e w5 ⟨rfl, q, hw5⟩
              have hb5 : Below wr.heap.size wr w5 := by rw [hw5]; exact bel_drewN (Below.refl _ _) q
              have hs5 : w5.heap.size = wr.heap.size := by rw [hw5]; rfl
              clear hw5
              have hc1' := kept hb5 hc1
              have x1' := kept hb5 x1
              replace dx := dx.below hb5
              replace hown := (hown.below hb5).wide (lo' := V + 1) (hi' := w5.heap.size) (Nat.le_refl _) (by omega)
              have c1 := (bx.below (hbn'.trans (hb5.mono hbn'.size))).at_ 1 rfl
              have hb6 : Below V w2 w5 := hbn.trans (hb5.mono (by omega))
              have p1lt : p1 < V + 1 := by
                obtain ⟨p, off, e, hcc⟩ := ha.at_ hlt
                injection e with e
                injection e with e1 e2 _
                subst e1 e2
                have := World.block_lt_of_cell? _ _ hcc
                simp at this
                have := HVV.out
                omega
              have g1 := kept_lo (L := V + 1) c1 (by omega)
              have g2 := kept_lo (L := V + 1) x1' (by omega)
              have g3 := kept_lo (L := V + 1) hc1' p1lt
              have g4 := kept_lo (L := V + 1) (dx.at_ 1 rfl) (by omega)
              have hsz5 : V < w5.heap.size := by omega
              clear hc1 x1 y1 hb5 hbn hbn' hsz hc2 x1' hc1' c1 hs5
              go_wp2
              refine wp_region_marked (fun w' => Below (V + 1) w5 w') 15 (by kernel_rfl) ?_
              have hS : Below (V + 1) w5 w5.drew := (Below.refl _ _).drew
              refine wpAnyM_take (i := 0) (v := ?_) rfl (by kernel_rfl) (by kernel_rfl) (by kernel_rfl) (by kernel_rfl) (by kernel_rfl) (fun _ _ _ h => h) hS (.inl ⟨by rfl, ?_⟩) ?_
              rotate_left 1
              · intro w' hS'; go_simp; try with_reducible rfl
              simp only [Act.put, List.setIfInBounds_toArray]
              refine wpAnyM_take (i := 1) (v := ?_) rfl (by kernel_rfl) (by kernel_rfl) (by kernel_rfl) (by kernel_rfl) (by kernel_rfl) (fun _ _ _ h => h) hS (.inl ⟨by rfl, ?_⟩) ?_
              rotate_left 1
              · intro w' hS'; go_simp; try with_reducible rfl
              simp only [Act.put]
              refine wpAnyM_take (i := 2) (v := ?_) rfl (by kernel_rfl) (by kernel_rfl) (by kernel_rfl) (by kernel_rfl) (by kernel_rfl) (fun _ _ _ h => h) hS (.inl ⟨by rfl, ?_⟩) ?_
              rotate_left 1
              · intro w' hS'; go_simp; try with_reducible rfl
              simp only [Act.put]
              refine wpAnyM_take (i := 3) (v := ?_) rfl (by kernel_rfl) (by kernel_rfl) (by kernel_rfl) (by kernel_rfl) (by kernel_rfl) (fun _ _ _ h => h) hS (.inl ⟨by rfl, ?_⟩) ?_
              rotate_left 1
              · intro w' hS'; go_simp; try with_reducible rfl
              simp only [Act.put]
              refine wpAnyM_take (i := 4) (v := ?_) rfl (by kernel_rfl) (by kernel_rfl) (by kernel_rfl) (by kernel_rfl) (by kernel_rfl) (fun _ _ _ h => h) hS (.inl ⟨by rfl, ?_⟩) ?_
              rotate_left 1
              · intro w' hS'; go_simp; try with_reducible rfl
              simp only [Act.put]
              refine wpAnyM_take (i := 5) (v := ?_) rfl (by kernel_rfl) (by kernel_rfl) (by kernel_rfl) (by kernel_rfl) (by kernel_rfl) (fun _ _ _ h => h) hS (.inl ⟨by rfl, ?_⟩) ?_
              rotate_left 1
              · intro w' hS'; go_simp; try with_reducible rfl
              simp only [Act.put]
              refine wpAnyM_take (i := 6) (v := ?_) rfl (by kernel_rfl) (by kernel_rfl) (by kernel_rfl) (by kernel_rfl) (by kernel_rfl) (fun _ _ _ h => h) hS (.inl ⟨by rfl, ?_⟩) ?_
              rotate_left 1
              · intro w' hS'; go_simp; try with_reducible rfl
              simp only [Act.put]
              refine wpAnyM_take (i := 7) (v := ?_) rfl (by kernel_rfl) (by kernel_rfl) (by kernel_rfl) (by kernel_rfl) (by kernel_rfl) (fun _ _ _ h => h) hS (.inl ⟨by rfl, ?_⟩) ?_
              rotate_left 1
              · intro w' hS'; go_simp; try with_reducible rfl
              simp only [Act.put]
              refine wpAnyM_take (i := 8) (v := ?_) rfl (by kernel_rfl) (by kernel_rfl) (by kernel_rfl) (by kernel_rfl) (by kernel_rfl) (fun _ _ _ h => h) hS (.inl ⟨by rfl, ?_⟩) ?_
              rotate_left 1
              · intro w' hS'; go_simp; try with_reducible rfl
              simp only [Act.put]
              refine wpAnyM_take (i := 9) (v := ?_) rfl (by kernel_rfl) (by kernel_rfl) (by kernel_rfl) (by kernel_rfl) (by kernel_rfl) (fun _ _ _ h => h) hS (.inl ⟨by rfl, ?_⟩) ?_
              rotate_left 1
              · intro w' hS'; go_simp; try with_reducible rfl
              simp only [Act.put]
              refine wpAnyM_take (i := 10) (v := ?_) rfl (by kernel_rfl) (by kernel_rfl) (by kernel_rfl) (by kernel_rfl) (by kernel_rfl) (fun _ _ _ h => h) hS (.inl ⟨by rfl, ?_⟩) ?_
              rotate_left 1
              · intro w' hS'; go_simp; try with_reducible rfl
              simp only [Act.put]
              refine wpAnyM_take (i := 11) (v := ?_) rfl (by kernel_rfl) (by kernel_rfl) (by kernel_rfl) (by kernel_rfl) (by kernel_rfl) (fun _ _ _ h => h) hS (.inl ⟨by rfl, ?_⟩) ?_
              rotate_left 1
              · intro w' hS'; go_simp; try with_reducible rfl
              simp only [Act.put]
              refine wpAnyM_one (i := 12) (by kernel_rfl) rfl (by rfl) (fun K hK => ?_)
              go_simp
              replace hS := hS.alloc (by simp <;> omega) (.cells #[.int .i64 ((nth xs k + y) % B)] 2)
              refine hK _ _ (.inr hS) ?_
              clear hK K
              try simp only [Act.put, List.setIfInBounds_toArray]
              refine wpAnyM_one (i := 13) (by kernel_rfl) rfl (by rfl) (fun K hK => ?_)
              refine wp_appI (.tmp 50) (.tmp 61) 58 2 rfl Try.underlying58 info_int64 rfl ((hown.drew).alloc _) (tab_len _ _) ⟨w5.heap.size, 0, none⟩ 1 ((nth xs k + y) % B) rfl (by go_simp) (by omega) (by simp <;> omega) ?_
              intro A' C' w1 hown1 ht1
              replace hS : Below (V + 1) w5 w1 := hS.trans (ht1.below (Nat.le_refl _) (by simp <;> omega))
              have dx1 := dx.lo hS (by omega)
              have dc1 := dx1.at_ 1 rfl
              have df1 := dx1.thaw 1
              refine hK _ _ (.inr hS) ?_
              try simp only [Act.put, List.setIfInBounds_toArray]
              clear hK K
              refine wpAnyM_take (i := 14) (v := ?_) rfl (by kernel_rfl) (by kernel_rfl) (by kernel_rfl) (by kernel_rfl) (by kernel_rfl) (fun _ _ _ h => h) hS (.inl ⟨by rfl, ?_⟩) ?_
              rotate_left 1
              · intro w' hS'; go_simp; try with_reducible rfl
              simp only [Act.put]
              refine wpAnyM_one (i := 15) (by kernel_rfl) rfl (by rfl) (fun K hK => ?_)
              go_simp
              refine hK _ _ (.inl rfl) ?_
              clear hK K
              refine wpAnyM_done (by kernel_rfl) ?_ _
              rw [← HT.out, ← tab_succ] at hown1
              go_wp2
              go_roundw
              case rel => exact ⟨k + 1, A', C', by omega, by go_num, by simpa using dx1.set_ 1 (.slice A' (k + 1) C'), (hown1.setCell (p := ⟨V, 1, none⟩) (.inl (by simp)) _).wide (Nat.le_refl _) (by simp), (hb6.trans (hS.mono (Nat.le_succ _))).setCell (p := ⟨V, 1, none⟩) (by simp) _⟩
              case measure => (simp [intOf]) <;> omega
            · obtain rfl : k = xs.length := by omega
              replace b3 := b3.below hbn'
              have r0 := b3.at_ 0 rfl
              have r1 := b3.at_ 1 rfl
              have f0 := b3.thaw 0
              have f1 := b3.thaw 1
              have o0 := dx.at_ 0 rfl
              have o1 := dx.at_ 1 rfl
              replace hbel := hbel.trans (hbn'.mono hbel.size)
              have hwz := hbel.size
              replace hown : Own 2 wr (V + 1) wr.heap.size (.slice A (tab (turnD K B T F xs ys t) xs.length).length C) (tab (turnD K B T F xs ys t) xs.length) := by rw [tab_len]; exact hown
              rw [show (#[Value.int .i64 B, .slice A xs.length C] : Array Value)[1] = .slice A (tab (turnD K B T F xs ys t) xs.length).length C by rw [tab_len]; rfl] at o1
              cases hk : okB B (tab (turnD K B T F xs ys t) xs.length) with
              | true =>
                have HF := Lib.hid (HR.out.trans (show finR B (tab (turnD K B T F xs ys t) xs.length) = (B, tab (turnD K B T F xs ys t) xs.length, 0) by simp [finR, hk]))
                go_wp2_with fail
                refine (l02Ok_at0 V B A C (tab (turnD K B T F xs ys t) xs.length) wr hk hown.rd o0 o1).mono ?_
                rintro e w6 ⟨rfl, n', rfl⟩
                clear hk
                go_wp2
                exact bodyPost_ret (v := .tuple #[.agg #[.int .i64 B, .slice A (tab (turnD K B T F xs ys t) xs.length).length C], .int .i64 0]) (by simp [results, Try.results51, go_sem, r0, r1]) rfl
                  (regC_ok HF.out rfl (lo := V + 1) (hi := wr.heap.size) (((hown.drewN n').setCell (p := ⟨w.heap.size + 1 + 1 + 1, 0, none⟩) (.inl (by simp; omega)) _).setCell (p := ⟨w.heap.size + 1 + 1 + 1, 1, none⟩) (.inl (by simp; omega)) _) (by omega) (by simp) (by repeat (first | with_reducible exact bel_drewN hbel n' | with_reducible refine Below.setCell ?_ (by first | omega | (simp <;> omega)) _ | with_reducible refine Below.alloc ?_ (by first | omega | (simp <;> omega)) _ | with_reducible refine Below.drew ?_)))
              | false =>
                have HF := Lib.hid (HR.out.trans (show finR B (tab (turnD K B T F xs ys t) xs.length) = (0, [], 5) by simp [finR, hk]))
                go_wp2_with fail
                refine (l02Ok_at0 V B A C (tab (turnD K B T F xs ys t) xs.length) wr hk hown.rd o0 o1).mono ?_
                rintro e w6 ⟨rfl, n', rfl⟩
                clear hk
                go_wp2
                exact bodyPost_ret (v := .tuple #[.agg #[.int .i64 0, .slice none 0 0], .int .i64 5]) (by simp [results, Try.results51, go_sem, r0, r1]) rfl
                  (regC_err HF.out rfl (by repeat (first | with_reducible exact bel_drewN hbel n' | with_reducible refine Below.setCell ?_ (by first | omega | (simp <;> omega)) _ | with_reducible refine Below.alloc ?_ (by first | omega | (simp <;> omega)) _ | with_reducible refine Below.drew ?_)))
      · have hq : (B != b) = true := by simp; omega
        have HR := Lib.hid (turn_state (t := t) hd h2 h3)
        clear hd h2 h3
        have c0 := bx.at_ 0 rfl
        have c1 := bx.at_ 1 rfl
        have c2 := bx.at_ 2 rfl
        have c3 := bx.at_ 3 rfl
        have x0 := b1.at_ 0 rfl
        have x1 := b1.at_ 1 rfl
        have y0 := b2.at_ 0 rfl
        have y1 := b2.at_ 1 rfl
        have r0 := b3.at_ 0 rfl
        have r1 := b3.at_ 1 rfl
        have f0 := b3.thaw 0
        have f1 := b3.thaw 1
        go_enter Try.func51, Try.ntmps51
        go_wp2_with fail
        rw [← HU.out]
        refine (HV.out _ (DrumAt.of_box bx)).mono ?_
        rintro e w1 ⟨rfl, k1, hw⟩
        have hbk1 : Below u.heap.size u w1 := by rw [hw]; exact bel_drewN (Below.refl _ _) k1
        clear hw
        clear c0 c1 c2 c3 x0 x1 y0 y1 r0 r1 f0 f1
        replace bx := bx.below hbk1
        replace b1 := b1.below hbk1
        replace b2 := b2.below hbk1
        replace b3 := b3.below hbk1
        replace ha := ha.below hbk1
        replace hb := hb.below hbk1
        replace hbel := hbel.trans (hbk1.mono hbel.size)
        clear hbk1
        have c0 := bx.at_ 0 rfl
        have c1 := bx.at_ 1 rfl
        have c2 := bx.at_ 2 rfl
        have c3 := bx.at_ 3 rfl
        have x0 := b1.at_ 0 rfl
        have x1 := b1.at_ 1 rfl
        have y0 := b2.at_ 0 rfl
        have y1 := b2.at_ 1 rfl
        have r0 := b3.at_ 0 rfl
        have r1 := b3.at_ 1 rfl
        have f0 := b3.thaw 0
        have f1 := b3.thaw 1
        go_wp2_with fail
        refine (HP.out _ ha hb x0 x1 y0 y1).mono ?_
        rintro e w2 ⟨rfl, k2, hw⟩
        have hbk2 : Below w1.heap.size w1 w2 := by rw [hw]; exact bel_drewN (Below.refl _ _) k2
        clear hw
        clear c0 c1 c2 c3 x0 x1 y0 y1 r0 r1 f0 f1
        replace bx := bx.below hbk2
        replace b1 := b1.below hbk2
        replace b2 := b2.below hbk2
        replace b3 := b3.below hbk2
        replace ha := ha.below hbk2
        replace hb := hb.below hbk2
        replace hbel := hbel.trans (hbk2.mono hbel.size)
        clear hbk2
        have c0 := bx.at_ 0 rfl
        have c1 := bx.at_ 1 rfl
        have c2 := bx.at_ 2 rfl
        have c3 := bx.at_ 3 rfl
        have x0 := b1.at_ 0 rfl
        have x1 := b1.at_ 1 rfl
        have y0 := b2.at_ 0 rfl
        have y1 := b2.at_ 1 rfl
        have r0 := b3.at_ 0 rfl
        have r1 := b3.at_ 1 rfl
        have f0 := b3.thaw 0
        have f1 := b3.thaw 1
        have hsz := hbel.size
        go_wp2
        exact bodyPost_ret (v := .tuple #[.agg #[.int .i64 0, .slice none 0 0], .int .i64 6]) (by simp [results, Try.results51, go_sem, r0, r1]) rfl
          (regC_err HR.out rfl (by repeat (first | with_reducible exact hbel | with_reducible refine Below.setCell ?_ (by first | omega | (simp <;> omega)) _ | with_reducible refine Below.alloc ?_ (by first | omega | (simp <;> omega)) _ | with_reducible refine Below.drew ?_)))
    · have ht : (twoE b xs d ys != 0) = true := by simp [h2]
      have HR := Lib.hid (turn_two (t := t) hd h2)
      clear hd h2
      have c0 := bx.at_ 0 rfl
      have c1 := bx.at_ 1 rfl
      have c2 := bx.at_ 2 rfl
      have c3 := bx.at_ 3 rfl
      have x0 := b1.at_ 0 rfl
      have x1 := b1.at_ 1 rfl
      have y0 := b2.at_ 0 rfl
      have y1 := b2.at_ 1 rfl
      have r0 := b3.at_ 0 rfl
      have r1 := b3.at_ 1 rfl
      have f0 := b3.thaw 0
      have f1 := b3.thaw 1
      go_enter Try.func51, Try.ntmps51
      go_wp2_with fail
      rw [← HU.out]
      refine (HV.out _ (DrumAt.of_box bx)).mono ?_
      rintro e w1 ⟨rfl, k1, hw⟩
      have hbk1 : Below u.heap.size u w1 := by rw [hw]; exact bel_drewN (Below.refl _ _) k1
      clear hw
      clear c0 c1 c2 c3 x0 x1 y0 y1 r0 r1 f0 f1
      replace bx := bx.below hbk1
      replace b1 := b1.below hbk1
      replace b2 := b2.below hbk1
      replace b3 := b3.below hbk1
      replace ha := ha.below hbk1
      replace hb := hb.below hbk1
      replace hbel := hbel.trans (hbk1.mono hbel.size)
      clear hbk1
      have c0 := bx.at_ 0 rfl
      have c1 := bx.at_ 1 rfl
      have c2 := bx.at_ 2 rfl
      have c3 := bx.at_ 3 rfl
      have x0 := b1.at_ 0 rfl
      have x1 := b1.at_ 1 rfl
      have y0 := b2.at_ 0 rfl
      have y1 := b2.at_ 1 rfl
      have r0 := b3.at_ 0 rfl
      have r1 := b3.at_ 1 rfl
      have f0 := b3.thaw 0
      have f1 := b3.thaw 1
      go_wp2_with fail
      refine (HP.out _ ha hb x0 x1 y0 y1).mono ?_
      rintro e w2 ⟨rfl, k2, hw⟩
      have hbk2 : Below w1.heap.size w1 w2 := by rw [hw]; exact bel_drewN (Below.refl _ _) k2
      clear hw
      clear c0 c1 c2 c3 x0 x1 y0 y1 r0 r1 f0 f1
      replace bx := bx.below hbk2
      replace b1 := b1.below hbk2
      replace b2 := b2.below hbk2
      replace b3 := b3.below hbk2
      replace ha := ha.below hbk2
      replace hb := hb.below hbk2
      replace hbel := hbel.trans (hbk2.mono hbel.size)
      clear hbk2
      have c0 := bx.at_ 0 rfl
      have c1 := bx.at_ 1 rfl
      have c2 := bx.at_ 2 rfl
      have c3 := bx.at_ 3 rfl
      have x0 := b1.at_ 0 rfl
      have x1 := b1.at_ 1 rfl
      have y0 := b2.at_ 0 rfl
      have y1 := b2.at_ 1 rfl
      have r0 := b3.at_ 0 rfl
      have r1 := b3.at_ 1 rfl
      have f0 := b3.thaw 0
      have f1 := b3.thaw 1
      have hsz := hbel.size
      go_wp2
      exact bodyPost_ret (v := .tuple #[.agg #[.int .i64 0, .slice none 0 0], .int .i64 (twoE b xs d ys)]) (by simp [results, Try.results51, go_sem, r0, r1]) rfl
        (regC_err HR.out rfl (by repeat (first | with_reducible exact hbel | with_reducible refine Below.setCell ?_ (by first | omega | (simp <;> omega)) _ | with_reducible refine Below.alloc ?_ (by first | omega | (simp <;> omega)) _ | with_reducible refine Below.drew ?_)))
end Go.Proofs.Ytkhfbhphmdcelaa
