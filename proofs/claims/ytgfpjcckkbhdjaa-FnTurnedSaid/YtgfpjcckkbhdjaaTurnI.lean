/-
  impl.TurnDrums.
-/
import Derived.Test.YtgfpjcckkbhdjaaDrumK
import Derived.Test.YtgfpjcckkbhdjaaFin
import Derived.Test.YtgfpjcckkbhdjaaTurnM
namespace Go.Proofs.Ytgfpjcckkbhdjaa
open Go.RowKit

set_option maxRecDepth 100000 in
set_option maxHeartbeats 8000000 in
theorem implTurnDrums (K B T F b : Int) (a : Option Addr) (c : Nat) (xs : List Int) (d : Int) (a' : Option Addr) (c' : Nat) (ys : List Int) (t : Int) (w : World) (z : I64 K ∧ I64 B ∧ I64 T ∧ I64 F) (ha : Rd w a xs) (zx : All64 xs) (bx_ : I64 b) (hb : Rd w a' ys) (zy : All64 ys) (by_ : I64 d) (_ : I64 t) :
    Calls Try.prog 68 #[.agg #[.int .i64 K, .int .i64 B, .int .i64 T, .int .i64 F], .agg #[.int .i64 b, .slice a xs.length c], .agg #[.int .i64 d, .slice a' ys.length c'], .int .i64 t] w (RegC (turnR K B T F b xs d ys t) w) := by
  have hx := ha.len
  obtain ⟨u, hu⟩ : ∃ u, u = ((((w.alloc (.cells #[.int .i64 K, .int .i64 B, .int .i64 T, .int .i64 F] 86)).alloc (.cells #[.int .i64 b, .slice a xs.length c] 26)).alloc (.cells #[.int .i64 d, .slice a' ys.length c'] 26)).alloc (.cells #[.int .i64 0, .slice none 0 0] 26)) := ⟨_, rfl⟩
  have bx : Bx u w.heap.size 86 #[.int .i64 K, .int .i64 B, .int .i64 T, .int .i64 F] := by rw [hu]; exact (((Bx.new _ _ _).alloc _).alloc _).alloc _
  have b1 : Bx u (w.heap.size + 1) 26 #[.int .i64 b, .slice a xs.length c] := by rw [hu]; exact ((by simpa using Bx.new (w.alloc (.cells #[.int .i64 K, .int .i64 B, .int .i64 T, .int .i64 F] 86)) #[.int .i64 b, .slice a xs.length c] 26 : Bx ((w.alloc (.cells #[.int .i64 K, .int .i64 B, .int .i64 T, .int .i64 F] 86)).alloc (.cells #[.int .i64 b, .slice a xs.length c] 26)) (w.heap.size + 1) _ _).alloc _).alloc _
  have b2 : Bx u (w.heap.size + 1 + 1) 26 #[.int .i64 d, .slice a' ys.length c'] := by rw [hu]; exact (by simpa using Bx.new ((w.alloc (.cells #[.int .i64 K, .int .i64 B, .int .i64 T, .int .i64 F] 86)).alloc (.cells #[.int .i64 b, .slice a xs.length c] 26)) #[.int .i64 d, .slice a' ys.length c'] 26 : Bx (((w.alloc (.cells #[.int .i64 K, .int .i64 B, .int .i64 T, .int .i64 F] 86)).alloc (.cells #[.int .i64 b, .slice a xs.length c] 26)).alloc (.cells #[.int .i64 d, .slice a' ys.length c'] 26)) (w.heap.size + 1 + 1) _ _).alloc _
  have b3 : Bx u (w.heap.size + 1 + 1 + 1) 26 #[.int .i64 0, .slice none 0 0] := by rw [hu]; simpa using Bx.new (((w.alloc (.cells #[.int .i64 K, .int .i64 B, .int .i64 T, .int .i64 F] 86)).alloc (.cells #[.int .i64 b, .slice a xs.length c] 26)).alloc (.cells #[.int .i64 d, .slice a' ys.length c'] 26)) #[.int .i64 0, .slice none 0 0] 26
  have hbel : Below w.heap.size w u := by rw [hu]; exact (by repeat (first | exact Below.refl _ _ | refine Below.setCell ?_ (by first | omega | (simp <;> omega)) _ | refine Below.alloc ?_ (by first | omega | (simp <;> omega)) _ | refine Below.drew ?_))
  have HU := Lib.hid hu
  clear hu
  replace ha := ha.below hbel
  replace hb := hb.below hbel
  have HV := Lib.hid (fun v => implValidDrum K B T F v z)
  have HP := Lib.hid (fun v (h1 : Rd v a xs) (h2 : Rd v a' ys) => pairCode_any b a c xs d a' c' ys v h1 zx bx_ h2 zy by_)
  clear z zx bx_ zy by_
  cases hd : drumB K B T F with
  | false =>
    have HR := Lib.hid (turn_bad (b := b) (xs := xs) (d := d) (ys := ys) (t := t) hd)
    rw [hd] at HV
    clear hd
    have c0 := bx.at_ 0 rfl
    have c1 := bx.at_ 1 rfl
    have c2 := bx.at_ 2 rfl
    have c3 := bx.at_ 3 rfl
    have x0 := b1.at_ 0 rfl
    have x1 := b1.at_ 1 rfl
    have y0 := b2.at_ 0 rfl
    have y1 := b2.at_ 1 rfl
    have r0 := b3.at_ 0 rfl
    have r1 := b3.at_ 1 rfl
    have f0 := b3.thaw 0
    have f1 := b3.thaw 1
    go_enter Try.func68, Try.ntmps68
    go_wp2_with fail
    rw [← HU.out]
    refine (HV.out _).mono ?_
    rintro e w1 ⟨rfl, hb1⟩
    clear c0 c1 c2 c3 x0 x1 y0 y1 r0 r1 f0 f1
    replace bx := bx.below hb1
    replace b1 := b1.below hb1
    replace b2 := b2.below hb1
    replace b3 := b3.below hb1
    replace ha := ha.below hb1
    replace hb := hb.below hb1
    replace hbel := hbel.trans (hb1.mono hbel.size)
    clear hb1
    have c0 := bx.at_ 0 rfl
    have c1 := bx.at_ 1 rfl
    have c2 := bx.at_ 2 rfl
    have c3 := bx.at_ 3 rfl
    have x0 := b1.at_ 0 rfl
    have x1 := b1.at_ 1 rfl
    have y0 := b2.at_ 0 rfl
    have y1 := b2.at_ 1 rfl
    have r0 := b3.at_ 0 rfl
    have r1 := b3.at_ 1 rfl
    have f0 := b3.thaw 0
    have f1 := b3.thaw 1
    have hsz := hbel.size
    go_wp2
    exact bodyPost_ret (v := .tuple #[.agg #[.int .i64 0, .slice none 0 0], .int .i64 1]) (by simp [results, Try.results68, go_sem, r0, r1]) rfl
      (regC_err HR.out rfl (by repeat (first | with_reducible exact hbel | with_reducible refine Below.setCell ?_ (by first | omega | (simp <;> omega)) _ | with_reducible refine Below.alloc ?_ (by first | omega | (simp <;> omega)) _ | with_reducible refine Below.drew ?_)))
  | true =>
    rw [hd] at HV
    by_cases h2 : twoE b xs d ys = 0
    · rw [h2] at HP
      by_cases h3 : b = B
      · have hq : (b != B) = false := by simp [h3]
        cases hi : inB t 0 100000 with
        | false =>
          have HI := Lib.hid hi
          have HR := Lib.hid (turn_time hd h2 h3 hi)
          clear hd h2 h3 hi
          have c0 := bx.at_ 0 rfl
          have c1 := bx.at_ 1 rfl
          have c2 := bx.at_ 2 rfl
          have c3 := bx.at_ 3 rfl
          have x0 := b1.at_ 0 rfl
          have x1 := b1.at_ 1 rfl
          have y0 := b2.at_ 0 rfl
          have y1 := b2.at_ 1 rfl
          have r0 := b3.at_ 0 rfl
          have r1 := b3.at_ 1 rfl
          have f0 := b3.thaw 0
          have f1 := b3.thaw 1
          go_enter Try.func68, Try.ntmps68
          go_wp2_with fail
          rw [← HU.out]
          refine (HV.out _).mono ?_
          rintro e w1 ⟨rfl, hb1⟩
          clear c0 c1 c2 c3 x0 x1 y0 y1 r0 r1 f0 f1
          replace bx := bx.below hb1
          replace b1 := b1.below hb1
          replace b2 := b2.below hb1
          replace b3 := b3.below hb1
          replace ha := ha.below hb1
          replace hb := hb.below hb1
          replace hbel := hbel.trans (hb1.mono hbel.size)
          clear hb1
          have c0 := bx.at_ 0 rfl
          have c1 := bx.at_ 1 rfl
          have c2 := bx.at_ 2 rfl
          have c3 := bx.at_ 3 rfl
          have x0 := b1.at_ 0 rfl
          have x1 := b1.at_ 1 rfl
          have y0 := b2.at_ 0 rfl
          have y1 := b2.at_ 1 rfl
          have r0 := b3.at_ 0 rfl
          have r1 := b3.at_ 1 rfl
          have f0 := b3.thaw 0
          have f1 := b3.thaw 1
          go_wp2_with fail
          refine (HP.out _ ha hb).mono ?_
          rintro e w2 ⟨rfl, hb2⟩
          clear c0 c1 c2 c3 x0 x1 y0 y1 r0 r1 f0 f1
          replace bx := bx.below hb2
          replace b1 := b1.below hb2
          replace b2 := b2.below hb2
          replace b3 := b3.below hb2
          replace ha := ha.below hb2
          replace hb := hb.below hb2
          replace hbel := hbel.trans (hb2.mono hbel.size)
          clear hb2
          have c0 := bx.at_ 0 rfl
          have c1 := bx.at_ 1 rfl
          have c2 := bx.at_ 2 rfl
          have c3 := bx.at_ 3 rfl
          have x0 := b1.at_ 0 rfl
          have x1 := b1.at_ 1 rfl
          have y0 := b2.at_ 0 rfl
          have y1 := b2.at_ 1 rfl
          have r0 := b3.at_ 0 rfl
          have r1 := b3.at_ 1 rfl
          have f0 := b3.thaw 0
          have f1 := b3.thaw 1
          go_wp2_with fail
          obtain ⟨w3, hw3⟩ : ∃ v, v = w2.alloc (.cells #[.int .i64 t] 2) := ⟨_, rfl⟩
          have hb3 : Below w2.heap.size w2 w3 := by rw [hw3]; exact (Below.refl _ _).alloc (Nat.le_refl _) _
          have tc : w3.cell? ⟨w2.heap.size, 0, none⟩ = some (.int .i64 t) := by rw [hw3]; exact (Bx.new _ _ _).at_ 0 rfl
          rw [← hw3]
          clear hw3
          refine (within1_at _ _ t w3 _ _ tc).mono ?_
          rintro e w3' ⟨rfl, hq3⟩
          subst w3'
          rw [HI.out]
          clear tc
          clear c0 c1 c2 c3 x0 x1 y0 y1 r0 r1 f0 f1
          replace bx := bx.below hb3
          replace b1 := b1.below hb3
          replace b2 := b2.below hb3
          replace b3 := b3.below hb3
          replace ha := ha.below hb3
          replace hb := hb.below hb3
          replace hbel := hbel.trans (hb3.mono hbel.size)
          clear hb3
          have c0 := bx.at_ 0 rfl
          have c1 := bx.at_ 1 rfl
          have c2 := bx.at_ 2 rfl
          have c3 := bx.at_ 3 rfl
          have x0 := b1.at_ 0 rfl
          have x1 := b1.at_ 1 rfl
          have y0 := b2.at_ 0 rfl
          have y1 := b2.at_ 1 rfl
          have r0 := b3.at_ 0 rfl
          have r1 := b3.at_ 1 rfl
          have f0 := b3.thaw 0
          have f1 := b3.thaw 1
          have hsz := hbel.size
          go_wp2
          exact bodyPost_ret (v := .tuple #[.agg #[.int .i64 0, .slice none 0 0], .int .i64 2]) (by simp [results, Try.results68, go_sem, r0, r1]) rfl
            (regC_err HR.out rfl (by repeat (first | with_reducible exact hbel | with_reducible refine Below.setCell ?_ (by first | omega | (simp <;> omega)) _ | with_reducible refine Below.alloc ?_ (by first | omega | (simp <;> omega)) _ | with_reducible refine Below.drew ?_)))
        | true =>
          have HI := Lib.hid hi
          have HR := Lib.hid (turn_fin hd h2 h3 hi)
          have HD := Lib.hid (drm_of hd)
          have HS := Lib.hid (okB_spec (twoE_zero h2).1)
          have HX := Lib.hid (digit_of_ok (twoE_zero h2).1)
          have HY := Lib.hid (digit_of_ok (twoE_zero h2).2.1)
          have HL := Lib.hid (twoE_zero h2).2.2.2
          have HE := Lib.hid h3
          have HE2 := Lib.hid (twoE_zero h2).2.2.1
          obtain ⟨t0, t1⟩ := inB_true hi
          have hB1 := HD.out.b1
          have hB2 := HD.out.b2
          have hl16 := HS.out.2.2.2.1
          clear hd h2 h3 hi
          have c0 := bx.at_ 0 rfl
          have c1 := bx.at_ 1 rfl
          have c2 := bx.at_ 2 rfl
          have c3 := bx.at_ 3 rfl
          have x0 := b1.at_ 0 rfl
          have x1 := b1.at_ 1 rfl
          have y0 := b2.at_ 0 rfl
          have y1 := b2.at_ 1 rfl
          have r0 := b3.at_ 0 rfl
          have r1 := b3.at_ 1 rfl
          have f0 := b3.thaw 0
          have f1 := b3.thaw 1
          go_enter Try.func68, Try.ntmps68
          go_wp2_with fail
          rw [← HU.out]
          refine (HV.out _).mono ?_
          rintro e w1 ⟨rfl, hb1⟩
          clear c0 c1 c2 c3 x0 x1 y0 y1 r0 r1 f0 f1
          replace bx := bx.below hb1
          replace b1 := b1.below hb1
          replace b2 := b2.below hb1
          replace b3 := b3.below hb1
          replace ha := ha.below hb1
          replace hb := hb.below hb1
          replace hbel := hbel.trans (hb1.mono hbel.size)
          clear hb1
          have c0 := bx.at_ 0 rfl
          have c1 := bx.at_ 1 rfl
          have c2 := bx.at_ 2 rfl
          have c3 := bx.at_ 3 rfl
          have x0 := b1.at_ 0 rfl
          have x1 := b1.at_ 1 rfl
          have y0 := b2.at_ 0 rfl
          have y1 := b2.at_ 1 rfl
          have r0 := b3.at_ 0 rfl
          have r1 := b3.at_ 1 rfl
          have f0 := b3.thaw 0
          have f1 := b3.thaw 1
          go_wp2_with fail
          refine (HP.out _ ha hb).mono ?_
          rintro e w2 ⟨rfl, hb2⟩
          clear c0 c1 c2 c3 x0 x1 y0 y1 r0 r1 f0 f1
          replace bx := bx.below hb2
          replace b1 := b1.below hb2
          replace b2 := b2.below hb2
          replace b3 := b3.below hb2
          replace ha := ha.below hb2
          replace hb := hb.below hb2
          replace hbel := hbel.trans (hb2.mono hbel.size)
          clear hb2
          have c0 := bx.at_ 0 rfl
          have c1 := bx.at_ 1 rfl
          have c2 := bx.at_ 2 rfl
          have c3 := bx.at_ 3 rfl
          have x0 := b1.at_ 0 rfl
          have x1 := b1.at_ 1 rfl
          have y0 := b2.at_ 0 rfl
          have y1 := b2.at_ 1 rfl
          have r0 := b3.at_ 0 rfl
          have r1 := b3.at_ 1 rfl
          have f0 := b3.thaw 0
          have f1 := b3.thaw 1

          go_wp2_with fail
          obtain ⟨w3, hw3⟩ : ∃ v, v = w2.alloc (.cells #[.int .i64 t] 2) := ⟨_, rfl⟩
          have hb3 : Below w2.heap.size w2 w3 := by rw [hw3]; exact (Below.refl _ _).alloc (Nat.le_refl _) _
          have tc : w3.cell? ⟨w2.heap.size, 0, none⟩ = some (.int .i64 t) := by rw [hw3]; exact (Bx.new _ _ _).at_ 0 rfl
          rw [← hw3]
          clear hw3
          refine (within1_at _ _ t w3 _ _ tc).mono ?_
          rintro e w3' ⟨rfl, hq3⟩
          subst w3'
          rw [HI.out]
          clear tc
          clear c0 c1 c2 c3 x0 x1 y0 y1 r0 r1 f0 f1
          replace bx := bx.below hb3
          replace b1 := b1.below hb3
          replace b2 := b2.below hb3
          replace b3 := b3.below hb3
          replace ha := ha.below hb3
          replace hb := hb.below hb3
          replace hbel := hbel.trans (hb3.mono hbel.size)
          clear hb3
          have c0 := bx.at_ 0 rfl
          have c1 := bx.at_ 1 rfl
          have c2 := bx.at_ 2 rfl
          have c3 := bx.at_ 3 rfl
          have x0 := b1.at_ 0 rfl
          have x1 := b1.at_ 1 rfl
          have y0 := b2.at_ 0 rfl
          have y1 := b2.at_ 1 rfl
          have r0 := b3.at_ 0 rfl
          have r1 := b3.at_ 1 rfl
          have f0 := b3.thaw 0
          have f1 := b3.thaw 1
          go_wp2_with (at_make; refine wpList_makeI rfl (.tmp 38) (.tmp 38) 120 2 rfl Try.underlying120 info_int64 xs.length rfl rfl (by omega) ?_; intro w4 hown4 hbn; have y1m := (b2.below hbn).at_ 1 rfl)
          obtain ⟨G, hG⟩ : ∃ G, G = w3.heap.size := ⟨_, rfl⟩
          rw [← hG] at hown4 ⊢
          have hGw : w.heap.size + 1 + 1 + 1 < G := by rw [hG]; exact b3.lt
          have hG2 : w3.heap.size ≤ G := by rw [hG]; exact Nat.le_refl _
          have hg4 := hown4.block
          replace hown4 : Own 2 w4 G (G + 1) (.slice (some ⟨G, 0, none⟩) xs.length xs.length) (pad xs.length (tab (turnD K B T F xs ys t) 0)) := by
            rw [show tab (turnD K B T F xs ys t) 0 = [] from rfl]
            exact ⟨hown4.row, fun k hk => by simp [Value.ownBlock] at hk; omega, hown4.len⟩
          clear hG y1m hq
          have c1m := (bx.below hbn).at_ 1 rfl
          go_loopw [12, 13, 43] (fun _ _ i wr => ∃ k : Nat, k ≤ ys.length ∧ i = .int .i64 k ∧ Own 2 wr G (G + 1) (.slice (some ⟨G, 0, none⟩) xs.length xs.length) (pad xs.length (tab (turnD K B T F xs ys t) k)) ∧ Below w3.heap.size w3 wr) (fun _ _ i _ => ys.length - (intOf i).toNat)
          case atStart => exact ⟨0, Nat.zero_le _, rfl, hown4, hbn⟩
          case round =>
            clear hown4 hbn hg4 c1m c0 c1 c2 c3 x0 x1 y0 y1 r0 r1 f0 f1
            obtain ⟨k, hk, rfl, hown, hbn⟩ := hrel
            have hgb := hown.block
            have dx := bx.below hbn
            have d1 := b1.below hbn
            by_cases hlt : k < ys.length
            · have hkx : k < xs.length := by have := HL.out; omega
              obtain ⟨p1, o1, rfl, hc1⟩ := (ha.below hbn).at_ hkx
              obtain ⟨p2, o2, rfl, hc2⟩ := (hb.below hbn).at_ hlt
              have hX := HX.out k hkx
              have hY := HY.out k hlt
              rw [HE.out] at hX
              rw [← HE2.out, HE.out] at hY
              have hby := by_bd HD.out hY.1 hY.2 t0 t1
              have hB0 : ¬ B = 0 := by omega
              obtain ⟨y, hy⟩ : ∃ y, y = byR K B T F (nth ys k) t := ⟨_, rfl⟩
              have HC := Lib.hid (fun v => stepsBy_any K B T F (nth ys k) t v HD.out hY.1 hY.2 t0 t1)
              rw [← hy] at hby HC
              have hw1 : IntKind.i64.wrap (nth xs k + y) = nth xs k + y := IntWalk.i64_in _ (by omega)
              have hrem : (nth xs k + y).tmod B = (nth xs k + y) % B := Int.tmod_eq_emod_of_nonneg (by omega)
              have HT := Lib.hid (show turnD K B T F xs ys t k = (nth xs k + y) % B by rw [turnD, hy])
              clear hy
              have e0 := kept_all (dx.at_ 0 rfl)
              have e1 := kept_all (dx.at_ 1 rfl)
              have e2 := kept_all (dx.at_ 2 rfl)
              have e3 := kept_all (dx.at_ 3 rfl)
              have e4 := kept_all (d1.at_ 1 rfl)
              have e5 := kept_all hc1
              clear dx d1 hc1
              go_wp2
              refine wp_region_marked (fun w' => Below wr.heap.size wr w') 16 (by kernel_rfl) ?_
              have hS : Below wr.heap.size wr wr.drew := (Below.refl _ _).drew
              refine wpAnyM_take (i := 0) (v := ?_) rfl (by kernel_rfl) (by kernel_rfl) (by kernel_rfl) (by kernel_rfl) (by kernel_rfl) (fun _ _ _ h => h) hS (.inl ⟨by rfl, ?_⟩) ?_
              rotate_left 1
              · intro w' hS'; go_simp; try with_reducible rfl
              simp only [Act.put, List.setIfInBounds_toArray]
              refine wpAnyM_take (i := 1) (v := ?_) rfl (by kernel_rfl) (by kernel_rfl) (by kernel_rfl) (by kernel_rfl) (by kernel_rfl) (fun _ _ _ h => h) hS (.inl ⟨by rfl, ?_⟩) ?_
              rotate_left 1
              · intro w' hS'; go_simp; try with_reducible rfl
              simp only [Act.put]
              refine wpAnyM_take (i := 2) (v := ?_) rfl (by kernel_rfl) (by kernel_rfl) (by kernel_rfl) (by kernel_rfl) (by kernel_rfl) (fun _ _ _ h => h) hS (.inl ⟨by rfl, ?_⟩) ?_
              rotate_left 1
              · intro w' hS'; go_simp; try with_reducible rfl
              simp only [Act.put]
              refine wpAnyM_take (i := 3) (v := ?_) rfl (by kernel_rfl) (by kernel_rfl) (by kernel_rfl) (by kernel_rfl) (by kernel_rfl) (fun _ _ _ h => h) hS (.inl ⟨by rfl, ?_⟩) ?_
              rotate_left 1
              · intro w' hS'; go_simp; try with_reducible rfl
              simp only [Act.put]
              refine wpAnyM_take (i := 4) (v := ?_) rfl (by kernel_rfl) (by kernel_rfl) (by kernel_rfl) (by kernel_rfl) (by kernel_rfl) (fun _ _ _ h => h) hS (.inl ⟨by rfl, ?_⟩) ?_
              rotate_left 1
              · intro w' hS'; go_simp; try with_reducible rfl
              simp only [Act.put]
              refine wpAnyM_take (i := 5) (v := ?_) rfl (by kernel_rfl) (by kernel_rfl) (by kernel_rfl) (by kernel_rfl) (by kernel_rfl) (fun _ _ _ h => h) hS (.inl ⟨by rfl, ?_⟩) ?_
              rotate_left 1
              · intro w' hS'; go_simp; try with_reducible rfl
              simp only [Act.put]
              refine wpAnyM_take (i := 6) (v := ?_) rfl (by kernel_rfl) (by kernel_rfl) (by kernel_rfl) (by kernel_rfl) (by kernel_rfl) (fun _ _ _ h => h) hS (.inl ⟨by rfl, ?_⟩) ?_
              rotate_left 1
              · intro w' hS'; go_simp; try with_reducible rfl
              simp only [Act.put]
              refine wpAnyM_take (i := 7) (v := ?_) rfl (by kernel_rfl) (by kernel_rfl) (by kernel_rfl) (by kernel_rfl) (by kernel_rfl) (fun _ _ _ h => h) hS (.inl ⟨by rfl, ?_⟩) ?_
              rotate_left 1
              · intro w' hS'; go_simp; try with_reducible rfl
              simp only [Act.put]
              refine wpAnyM_take (i := 8) (v := ?_) rfl (by kernel_rfl) (by kernel_rfl) (by kernel_rfl) (by kernel_rfl) (by kernel_rfl) (fun _ _ _ h => h) hS (.inl ⟨by rfl, ?_⟩) ?_
              rotate_left 1
              · intro w' hS'; go_simp; try with_reducible rfl
              simp only [Act.put]
              refine wpAnyM_take (i := 9) (v := ?_) rfl (by kernel_rfl) (by kernel_rfl) (by kernel_rfl) (by kernel_rfl) (by kernel_rfl) (fun _ _ _ h => h) hS (.inl ⟨by rfl, ?_⟩) ?_
              rotate_left 1
              · intro w' hS'; go_simp; try with_reducible rfl
              simp only [Act.put]
              refine wpAnyM_take (i := 12) (v := ?_) rfl (by kernel_rfl) (by kernel_rfl) (by kernel_rfl) (by kernel_rfl) (by kernel_rfl) (fun _ _ _ h => h) hS (.inl ⟨by rfl, ?_⟩) ?_
              rotate_left 1
              · intro w' hS'; go_simp; try with_reducible rfl
              simp only [Act.put]
              refine wpAnyM_take (i := 13) (v := ?_) rfl (by kernel_rfl) (by kernel_rfl) (by kernel_rfl) (by kernel_rfl) (by kernel_rfl) (fun _ _ _ h => h) hS (.inl ⟨by rfl, ?_⟩) ?_
              rotate_left 1
              · intro w' hS'; go_simp; try with_reducible rfl
              simp only [Act.put]
              refine wpAnyM_one (i := 10) (by kernel_rfl) rfl (by rfl) (fun K hK => ?_)
              go_simp
              refine (HC.out _).mono ?_
              rintro e w5 ⟨rfl, hb5⟩
              replace hS : Below wr.heap.size wr w5 := hS.trans (hb5.mono (by simp))
              replace hown := hown.below hS
              have hgb5 := hown.block
              have hgt := hown.get (j := k) (by rw [pad_len (by rw [tab_len]; omega)]; exact hkx)
              have hth := hown.thaw k
              refine hK _ _ (.inr hS) ?_
              try simp only [Act.put, List.setIfInBounds_toArray]
              clear hK K hb5
              refine wpAnyM_take (i := 11) (v := ?_) rfl (by kernel_rfl) (by kernel_rfl) (by kernel_rfl) (by kernel_rfl) (by kernel_rfl) (fun _ _ _ h => h) hS (.inl ⟨by rfl, ?_⟩) ?_
              rotate_left 1
              · intro w' hS'; go_simp; try with_reducible rfl
              simp only [Act.put, List.setIfInBounds_toArray]
              refine wpAnyM_take (i := 14) (v := ?_) rfl (by kernel_rfl) (by kernel_rfl) (by kernel_rfl) (by kernel_rfl) (by kernel_rfl) (fun _ _ _ h => h) hS (.inl ⟨by rfl, ?_⟩) ?_
              rotate_left 1
              · intro w' hS'; go_simp; try with_reducible rfl
              simp only [Act.put]
              refine wpAnyM_take (i := 15) (v := ?_) rfl (by kernel_rfl) (by kernel_rfl) (by kernel_rfl) (by kernel_rfl) (by kernel_rfl) (fun _ _ _ h => h) hS (.inl ⟨by rfl, ?_⟩) ?_
              rotate_left 1
              · intro w' hS'; go_simp; try with_reducible rfl
              simp only [Act.put]
              refine wpAnyM_one (i := 16) (by kernel_rfl) rfl (by rfl) (fun K hK => ?_)
              go_simp
              refine hK _ _ (.inl rfl) ?_
              clear hK K
              refine wpAnyM_done (by kernel_rfl) ?_ _
              have HPut := Lib.hid (show Own 2 (w5.setCell ⟨G, k, none⟩ (.int .i64 ((nth xs k + y) % B))) G (G + 1) (.slice (some ⟨G, 0, none⟩) xs.length xs.length) (pad xs.length (tab (turnD K B T F xs ys t) (k + 1))) by
                have e := hown.put k ((nth xs k + y) % B)
                have e2 := pad_set (n := xs.length) (zs := tab (turnD K B T F xs ys t) k) (by rw [tab_len]; exact hkx) (turnD K B T F xs ys t k)
                rw [tab_len, HT.out] at e2
                rw [tab_succ, HT.out, ← e2]; exact e)
              have HBn := Lib.hid ((hbn.trans (hS.mono hbn.size)).setCell (p := ⟨G, k, none⟩) hG2 (.int .i64 ((nth xs k + y) % B)))
              clear hown hS e0 e1 e2 e3 e4 e5
              go_wp2
              go_roundw
              case rel => exact ⟨k + 1, by omega, by go_num, HPut.out, HBn.out⟩
              case measure => (simp [intOf]) <;> omega
            · obtain rfl : k = ys.length := by omega
              rw [← HL.out, pad_all (by rw [tab_len])] at hown
              have hwG : w.heap.size ≤ w3.heap.size := hbel.size
              replace b3 := b3.below hbn
              replace hbel := hbel.trans (hbn.mono hbel.size)
              have c1 := dx.at_ 1 rfl
              have hA : All64 (tab (turnD K B T F xs ys t) xs.length) := turn64 hB1 hB2
              have zB : I64 B := i64_of (by omega) (by omega)
              cases hk : okB B (tab (turnD K B T F xs ys t) xs.length) with
              | true =>
                have HF := Lib.hid (HR.out.trans (show finR B (tab (turnD K B T F xs ys t) xs.length) = (B, tab (turnD K B T F xs ys t) xs.length, 0) by simp [finR, hk]))
                have hfin := finish_ok B (some ⟨G, 0, none⟩) xs.length (tab (turnD K B T F xs ys t) xs.length) wr hown.rd hA zB hk
                rw [tab_len] at hfin
                have HFin := Lib.hid hfin
                clear hfin hk dx d1 hlt
                go_wp2_with fail
                refine HFin.out.mono ?_
                rintro e w6 ⟨rfl, hb6⟩
                replace hown := hown.below hb6
                replace b3 := b3.below hb6
                replace hbel := hbel.trans (hb6.mono hbel.size)
                have hg6 := hown.block
                have r0 := b3.at_ 0 rfl
                have r1 := b3.at_ 1 rfl
                have f0 := b3.thaw 0
                have f1 := b3.thaw 1
                have hsz := hbel.size
                clear hb6 c1
                go_wp2
                exact bodyPost_ret (v := .tuple #[.agg #[.int .i64 B, .slice (some ⟨G, 0, none⟩) xs.length xs.length], .int .i64 0]) (by simp [results, Try.results68, go_sem, r0, r1]) rfl
                  (regC_ok HF.out (by rw [tab_len]) (lo := G) (hi := G + 1) (by rw [tab_len]; exact (hown.setCell (p := ⟨w.heap.size + 1 + 1 + 1, 0, none⟩) (.inl hGw) _).setCell (p := ⟨w.heap.size + 1 + 1 + 1, 1, none⟩) (.inl hGw) _) (by omega) (by simp; omega) (by repeat (first | with_reducible exact hbel | with_reducible refine Below.setCell ?_ (by first | omega | (simp <;> omega)) _ | with_reducible refine Below.alloc ?_ (by first | omega | (simp <;> omega)) _ | with_reducible refine Below.drew ?_)))
              | false =>
                have HF := Lib.hid (HR.out.trans (show finR B (tab (turnD K B T F xs ys t) xs.length) = (0, [], 5) by simp [finR, hk]))
                have hfin := finish_full B (some ⟨G, 0, none⟩) xs.length (tab (turnD K B T F xs ys t) xs.length) wr hown.rd hA zB hk
                rw [tab_len] at hfin
                have HFin := Lib.hid hfin
                clear hfin hk dx d1 hlt hown
                go_wp2_with fail
                refine HFin.out.mono ?_
                rintro e w6 ⟨rfl, hb6⟩
                replace b3 := b3.below hb6
                replace hbel := hbel.trans (hb6.mono hbel.size)
                have r0 := b3.at_ 0 rfl
                have r1 := b3.at_ 1 rfl
                have f0 := b3.thaw 0
                have f1 := b3.thaw 1
                have hsz := hbel.size
                clear hb6 c1
                go_wp2
                exact bodyPost_ret (v := .tuple #[.agg #[.int .i64 0, .slice none 0 0], .int .i64 5]) (by simp [results, Try.results68, go_sem, r0, r1]) rfl
                  (regC_err HF.out rfl (by repeat (first | with_reducible exact hbel | with_reducible refine Below.setCell ?_ (by first | omega | (simp <;> omega)) _ | with_reducible refine Below.alloc ?_ (by first | omega | (simp <;> omega)) _ | with_reducible refine Below.drew ?_)))
      · have hq : (b != B) = true := by simp; omega
        have HR := Lib.hid (turn_state (t := t) hd h2 h3)
        clear hd h2 h3
        have c0 := bx.at_ 0 rfl
        have c1 := bx.at_ 1 rfl
        have c2 := bx.at_ 2 rfl
        have c3 := bx.at_ 3 rfl
        have x0 := b1.at_ 0 rfl
        have x1 := b1.at_ 1 rfl
        have y0 := b2.at_ 0 rfl
        have y1 := b2.at_ 1 rfl
        have r0 := b3.at_ 0 rfl
        have r1 := b3.at_ 1 rfl
        have f0 := b3.thaw 0
        have f1 := b3.thaw 1
        go_enter Try.func68, Try.ntmps68
        go_wp2_with fail
        rw [← HU.out]
        refine (HV.out _).mono ?_
        rintro e w1 ⟨rfl, hb1⟩
        clear c0 c1 c2 c3 x0 x1 y0 y1 r0 r1 f0 f1
        replace bx := bx.below hb1
        replace b1 := b1.below hb1
        replace b2 := b2.below hb1
        replace b3 := b3.below hb1
        replace ha := ha.below hb1
        replace hb := hb.below hb1
        replace hbel := hbel.trans (hb1.mono hbel.size)
        clear hb1
        have c0 := bx.at_ 0 rfl
        have c1 := bx.at_ 1 rfl
        have c2 := bx.at_ 2 rfl
        have c3 := bx.at_ 3 rfl
        have x0 := b1.at_ 0 rfl
        have x1 := b1.at_ 1 rfl
        have y0 := b2.at_ 0 rfl
        have y1 := b2.at_ 1 rfl
        have r0 := b3.at_ 0 rfl
        have r1 := b3.at_ 1 rfl
        have f0 := b3.thaw 0
        have f1 := b3.thaw 1
        go_wp2_with fail
        refine (HP.out _ ha hb).mono ?_
        rintro e w2 ⟨rfl, hb2⟩
        clear c0 c1 c2 c3 x0 x1 y0 y1 r0 r1 f0 f1
        replace bx := bx.below hb2
        replace b1 := b1.below hb2
        replace b2 := b2.below hb2
        replace b3 := b3.below hb2
        replace ha := ha.below hb2
        replace hb := hb.below hb2
        replace hbel := hbel.trans (hb2.mono hbel.size)
        clear hb2
        have c0 := bx.at_ 0 rfl
        have c1 := bx.at_ 1 rfl
        have c2 := bx.at_ 2 rfl
        have c3 := bx.at_ 3 rfl
        have x0 := b1.at_ 0 rfl
        have x1 := b1.at_ 1 rfl
        have y0 := b2.at_ 0 rfl
        have y1 := b2.at_ 1 rfl
        have r0 := b3.at_ 0 rfl
        have r1 := b3.at_ 1 rfl
        have f0 := b3.thaw 0
        have f1 := b3.thaw 1
        have hsz := hbel.size
        go_wp2
        exact bodyPost_ret (v := .tuple #[.agg #[.int .i64 0, .slice none 0 0], .int .i64 6]) (by simp [results, Try.results68, go_sem, r0, r1]) rfl
          (regC_err HR.out rfl (by repeat (first | with_reducible exact hbel | with_reducible refine Below.setCell ?_ (by first | omega | (simp <;> omega)) _ | with_reducible refine Below.alloc ?_ (by first | omega | (simp <;> omega)) _ | with_reducible refine Below.drew ?_)))
    · have ht : (twoE b xs d ys != 0) = true := by simp [h2]
      have HR := Lib.hid (turn_two (t := t) hd h2)
      clear hd h2
      have c0 := bx.at_ 0 rfl
      have c1 := bx.at_ 1 rfl
      have c2 := bx.at_ 2 rfl
      have c3 := bx.at_ 3 rfl
      have x0 := b1.at_ 0 rfl
      have x1 := b1.at_ 1 rfl
      have y0 := b2.at_ 0 rfl
      have y1 := b2.at_ 1 rfl
      have r0 := b3.at_ 0 rfl
      have r1 := b3.at_ 1 rfl
      have f0 := b3.thaw 0
      have f1 := b3.thaw 1
      go_enter Try.func68, Try.ntmps68
      go_wp2_with fail
      rw [← HU.out]
      refine (HV.out _).mono ?_
      rintro e w1 ⟨rfl, hb1⟩
      clear c0 c1 c2 c3 x0 x1 y0 y1 r0 r1 f0 f1
      replace bx := bx.below hb1
      replace b1 := b1.below hb1
      replace b2 := b2.below hb1
      replace b3 := b3.below hb1
      replace ha := ha.below hb1
      replace hb := hb.below hb1
      replace hbel := hbel.trans (hb1.mono hbel.size)
      clear hb1
      have c0 := bx.at_ 0 rfl
      have c1 := bx.at_ 1 rfl
      have c2 := bx.at_ 2 rfl
      have c3 := bx.at_ 3 rfl
      have x0 := b1.at_ 0 rfl
      have x1 := b1.at_ 1 rfl
      have y0 := b2.at_ 0 rfl
      have y1 := b2.at_ 1 rfl
      have r0 := b3.at_ 0 rfl
      have r1 := b3.at_ 1 rfl
      have f0 := b3.thaw 0
      have f1 := b3.thaw 1
      go_wp2_with fail
      refine (HP.out _ ha hb).mono ?_
      rintro e w2 ⟨rfl, hb2⟩
      clear c0 c1 c2 c3 x0 x1 y0 y1 r0 r1 f0 f1
      replace bx := bx.below hb2
      replace b1 := b1.below hb2
      replace b2 := b2.below hb2
      replace b3 := b3.below hb2
      replace ha := ha.below hb2
      replace hb := hb.below hb2
      replace hbel := hbel.trans (hb2.mono hbel.size)
      clear hb2
      have c0 := bx.at_ 0 rfl
      have c1 := bx.at_ 1 rfl
      have c2 := bx.at_ 2 rfl
      have c3 := bx.at_ 3 rfl
      have x0 := b1.at_ 0 rfl
      have x1 := b1.at_ 1 rfl
      have y0 := b2.at_ 0 rfl
      have y1 := b2.at_ 1 rfl
      have r0 := b3.at_ 0 rfl
      have r1 := b3.at_ 1 rfl
      have f0 := b3.thaw 0
      have f1 := b3.thaw 1
      have hsz := hbel.size
      go_wp2
      exact bodyPost_ret (v := .tuple #[.agg #[.int .i64 0, .slice none 0 0], .int .i64 (twoE b xs d ys)]) (by simp [results, Try.results68, go_sem, r0, r1]) rfl
        (regC_err HR.out rfl (by repeat (first | with_reducible exact hbel | with_reducible refine Below.setCell ?_ (by first | omega | (simp <;> omega)) _ | with_reducible refine Below.alloc ?_ (by first | omega | (simp <;> omega)) _ | with_reducible refine Below.drew ?_)))
end Go.Proofs.Ytgfpjcckkbhdjaa
