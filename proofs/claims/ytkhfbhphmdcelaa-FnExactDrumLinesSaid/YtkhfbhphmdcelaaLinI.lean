/-
  impl.DrumLines.
-/
import Derived.Test.YtkhfbhphmdcelaaDrumK
import Derived.Test.YtkhfbhphmdcelaaRepeat
import Derived.Test.YtkhfbhphmdcelaaSplitS
import Derived.Test.YtkhfbhphmdcelaaLinM
namespace Go.Proofs.Ytkhfbhphmdcelaa
open Go.RowKit

set_option maxRecDepth 100000 in
set_option maxHeartbeats 8000000 in
theorem implDrumLines (K B T F : Int) (w : World) (z : I64 K ∧ I64 B ∧ I64 T ∧ I64 F) :
    Calls Try.prog 80 #[.agg #[.int .i64 K, .int .i64 B, .int .i64 T, .int .i64 F]] w fun e w' => ∃ A C, e = .returned (.tuple #[.slice A (linesR K B T F).1.length C, .int .i64 (linesR K B T F).2]) ∧
      OwnF textF 9 w' w.heap.size w'.heap.size (.slice A (linesR K B T F).1.length C) (linesR K B T F).1 ∧ Below w.heap.size w w' := by
  obtain ⟨u, hu⟩ : ∃ u, u = w.alloc (.cells #[.int .i64 K, .int .i64 B, .int .i64 T, .int .i64 F] 57) := ⟨_, rfl⟩
  have bx : Bx u w.heap.size 57 #[.int .i64 K, .int .i64 B, .int .i64 T, .int .i64 F] := by rw [hu]; exact Bx.new _ _ _
  have hbel : Below w.heap.size w u := by rw [hu]; exact (by repeat (first | exact Below.refl _ _ | refine Below.setCell ?_ (by first | omega | (simp <;> omega)) _ | refine Below.alloc ?_ (by first | omega | (simp <;> omega)) _ | refine Below.drew ?_))
  have HU := Lib.hid hu
  clear hu
  have c0 := bx.at_ 0 rfl
  have c1 := bx.at_ 1 rfl
  have c2 := bx.at_ 2 rfl
  have c3 := bx.at_ 3 rfl
  have HV := Lib.hid (fun v => implValidDrum K B T F v z)
  clear z
  cases hd : drumB K B T F with
  | false =>
    have HR := Lib.hid (show linesR K B T F = ([], 1) by simp [linesR, hd])
    rw [hd] at HV
    clear hd
    go_enter Try.func80, Try.ntmps80
    go_wp2_with fail
    rw [← HU.out]
    refine (HV.out _).mono ?_
    rintro e w1 ⟨rfl, hb1⟩
    replace bx := bx.below hb1
    replace hbel := hbel.trans (hb1.mono hbel.size)
    clear c0 c1 c2 c3 hb1
    have c0 := bx.at_ 0 rfl
    have c1 := bx.at_ 1 rfl
    have c2 := bx.at_ 2 rfl
    have c3 := bx.at_ 3 rfl
    go_wp2
    refine bodyPost_ret (v := .tuple #[.slice none 0 0, .int .i64 1]) (by simp [results, Try.results80, go_sem]) rfl ?_
    refine ⟨none, 0, ?_, ?_, hbel⟩
    · rw [HR.out]; rfl
    · rw [HR.out]; exact ownF_nil _ _ _ _ _
  | true =>
    have HR := Lib.hid (show linesR K B T F = (linesN K B T F B.toNat, 0) by simp [linesR, hd])
    rw [hd] at HV
    have HD := Lib.hid (drm_of hd)
    clear hd
    have hB1 := HD.out.b1
    have hB2 := HD.out.b2
    have hT1 := HD.out.t1
    have hT2 := HD.out.t2
    obtain ⟨NB, rfl⟩ := Int.eq_ofNat_of_zero_le (show 0 ≤ B by omega)
    obtain ⟨N, rfl⟩ := Int.eq_ofNat_of_zero_le (show 0 ≤ T by omega)
    rw [show ((NB : Int)).toNat = NB by omega] at HR
    have HLB := Lib.hid (fun d => show lineB K NB N F d = ⟨(lineL N (tms K NB N F d)).toArray⟩ by unfold lineB; rw [show ((N : Int)).toNat = N by omega])
    go_enter Try.func80, Try.ntmps80
    go_wp2_with fail
    rw [← HU.out]
    refine (HV.out _).mono ?_
    rintro e w1 ⟨rfl, hb1⟩
    replace bx := bx.below hb1
    replace hbel := hbel.trans (hb1.mono hbel.size)
    clear c0 c1 c2 c3 hb1
    have c0 := bx.at_ 0 rfl
    have c1 := bx.at_ 1 rfl
    have c2 := bx.at_ 2 rfl
    have c3 := bx.at_ 3 rfl
    have hwu : w.heap.size < w1.heap.size := bx.lt
    have hwd := hbel.size
    clear c0 c3
    go_wp2_with fail
    go_loopw [4, 5, 14] (fun l _ i wr => ∃ (k : Nat) (A : Option Addr) (C : Nat), k ≤ NB ∧ i = .int .i64 k ∧ l = .slice A k C ∧ OwnF textF 9 wr w1.heap.size wr.heap.size (.slice A k C) (linesN K NB N F k) ∧ Below w1.heap.size w1 wr) (fun _ _ i _ => NB - (intOf i).toNat)
    case atStart => exact ⟨0, none, 0, Nat.zero_le _, rfl, rfl, ownF_nil _ _ _ _ _, Below.refl _ _⟩
    case round =>
      clear c1 c2
      obtain ⟨k, A, C, hk, rfl, rfl, ow, hb⟩ := hrel
      have hsz := hb.size
      have bx4 := bx.below hb
      have hwr := bx4.lt
      have c0 := bx4.at_ 0 rfl
      have c1 := bx4.at_ 1 rfl
      have c2 := bx4.at_ 2 rfl
      have c3 := bx4.at_ 3 rfl
      by_cases hlt : k < NB
      · obtain ⟨HX, hHX⟩ : ∃ HX, HX = wr.heap.size := ⟨_, rfl⟩
        rw [← hHX] at ow
        have hXs : w1.heap.size ≤ HX := by omega
        have HLn := Lib.hid (show (tms K NB N F k).length = k by rw [tms_len]; omega)
        have HSc := Lib.hid (linesN_succ K NB N F k)
        have HLk := Lib.hid (HLB.out k)
        go_wp2_with fail
        obtain ⟨v, hv⟩ : ∃ v, v = wr.alloc (.cells #[.int .u8 46] 5) := ⟨_, rfl⟩
        have hbv : Below wr.heap.size wr v := by rw [hv]; exact (Below.refl _ _).alloc (Nat.le_refl _) _
        have pc : v.cell? ⟨wr.heap.size, 0, none⟩ = some (.int .u8 46) := by rw [hv]; exact (Bx.new _ _ _).at_ 0 rfl
        rw [← hv]
        clear hv
        refine (repeat_any wr.heap.size 1 N v pc (by omega) (by omega)).mono ?_
        rintro e w3 ⟨G, rfl, hG1, hG2, brow, hb3⟩
        have hGX : HX ≤ G := by have := hbv.size; omega
        have hbw3 : Below wr.heap.size wr w3 := hbv.trans (hb3.mono hbv.size)
        replace ow := ow.below hbw3
        have hb4 := hb.trans (hbw3.mono hb.size)
        clear c0 c1 c2 c3 bx4 hbv pc hb3 hG1
        have bx5 := bx.below hb4
        have c0 := bx5.at_ 0 rfl
        have c1 := bx5.at_ 1 rfl
        have c2 := bx5.at_ 2 rfl
        have c3 := bx5.at_ 3 rfl
        go_wp2_with fail
        refine (stepTimes_any K NB N F k _ HD.out (by omega) (by omega)).mono ?_

        rintro e w4 ⟨A4, C4, rfl, own4, hb5⟩
        rw [show ((k : Int)).toNat = k by omega] at own4 ⊢
        obtain ⟨L, hL⟩ : ∃ L, L = w3.heap.size := ⟨_, rfl⟩
        obtain ⟨H, hH⟩ : ∃ H, H = w4.heap.size := ⟨_, rfl⟩
        rw [← hL, ← hH] at own4
        have hGL : G < L := by omega
        replace brow := brow.below hb5
        replace ow := ow.below hb5
        have hb6 := hb4.trans (hb5.mono hb4.size)
        clear c0 c1 c2 c3 bx5 hb5 hL hH hb4 hb hbw3 hHX
        go_wp2_with fail
        go_loopw [8, 25] (fun _ i wr => ∃ j : Nat, j ≤ k ∧ i = .int .i64 j ∧ BRow wr G N (lineL N ((tms K NB N F k).take j)) ∧ Own 2 wr L H (.slice A4 k C4) (tms K NB N F k) ∧ OwnF textF 9 wr w1.heap.size HX (.slice A k C) (linesN K NB N F k) ∧ Below w1.heap.size w1 wr) (fun _ i _ => k - (intOf i).toNat)
        case atStart => exact ⟨0, Nat.zero_le _, rfl, by rw [List.take_zero, lineL_nil]; exact brow, own4, ow, hb6⟩
        case round =>
          clear brow own4 ow hb6
          obtain ⟨j, hj, rfl, brow, own4, ow, hb6⟩ := hrel
          have hgg := brow.lt
          by_cases hjk : j < k
          · have hjl : j < (tms K NB N F k).length := by rw [HLn.out]; exact hjk
            obtain ⟨p2, off2, rfl, hc2⟩ := own4.rd.at_ hjl
            have htb := tms_bd HD.out (d := k) (by omega) (k := j) (by omega)
            have HT2 := Lib.hid (take_snocD hjl)
            obtain ⟨q, hq⟩ := Int.eq_ofNat_of_zero_le (show 0 ≤ nth (tms K NB N F k) j - 1 by omega)
            have hq' : nth (tms K NB N F k) j = (q : Int) + 1 := by omega
            rw [hq'] at hc2 HT2 htb
            clear hq hq'
            have hqN : q < N := by omega
            have g0 := brow.cell hqN
            have f0 := brow.thaw q
            have hw1 : IntKind.i64.wrap ((q : Int) + 1 - 1) = (q : Int) := by rw [show (q : Int) + 1 - 1 = (q : Int) by omega]; exact IntWalk.i64_in _ (by omega)
            have bp := brow.put hqN 35
            have HBp := Lib.hid (show BRow (wr.setCell ⟨G, q, none⟩ (.int .u8 35)) G N (lineL N ((tms K NB N F k).take (j + 1))) by
              rw [HT2.out, lineL_snoc]
              unfold setP
              rw [show ((q : Int) + 1 - 1).toNat = q by omega]; exact bp)
            have HOw := Lib.hid (ow.setCell (p := ⟨G, q, none⟩) (.inr hGX) (.int .u8 35))
            have HOn := Lib.hid (own4.setCell (p := ⟨G, q, none⟩) (.inl hGL) (.int .u8 35))
            have HBl := Lib.hid (hb6.setCell (p := ⟨G, q, none⟩) (by simp; omega) (.int .u8 35))
            clear bp brow own4 ow hb6 htb
            go_wp2
            go_roundw
            case rel => exact ⟨j + 1, by omega, by go_num, HBp.out, HOn.out, HOw.out, HBl.out⟩
            case measure => (simp [intOf]) <;> omega
          · obtain rfl : j = k := by omega
            have e : (tms K NB N F j).take j = tms K NB N F j := List.take_of_length_le (by rw [HLn.out]; exact Nat.le_refl _)
            rw [e] at brow
            have hcv := brow.text (P := Try.prog) N 22 9 5 Try.underlying22 Try.underlying5 Try.underlying9
            rw [← HLk.out] at hcv
            obtain ⟨X, hX⟩ : ∃ X, X = lineB K NB N F j := ⟨_, rfl⟩
            rw [← hX] at hcv HSc
            have ow7 : OwnF textF 9 (wr.alloc (.cells #[.string X] 9)) w1.heap.size HX (.slice A j C) (linesN K NB N F j) := ow.alloc _
            have r7 := ow7.row
            rw [linesN_len] at r7
            have hs7 := hb6.size
            clear e hX brow own4 ow ow7
            go_wp2_with (at_builtin; go_must (refine wpList_appR rfl (.tmp 34) (.tmp 37) 34 9 rfl (.string ByteArray.empty) 1 16 Try.underlying34 info_string rfl (by omega) (by omega) rfl r7 ⟨wr.heap.size, 0, none⟩ 1 1 (flat textF [X]) rfl rfl (news_text wr _ _) flat_mem (by omega) (by simp; omega) ?_); intro A7 C7 w7 row7 ht7)
            have ow8 : OwnF textF 9 w7 w1.heap.size w7.heap.size (.slice A7 (j + 1) C7) (linesN K NB N F (j + 1)) := by
              rw [HSc.out]
              exact ownF_row (n := j + 1) (by rw [flat_append]; exact row7) (by rw [List.length_append, linesN_len]; rfl) (by rw [List.length_append, linesN_len]; simp; omega)
            have hb8 : Below w1.heap.size w1 w7 := (hb6.alloc hs7 _).trans (ht7.below (Nat.le_refl _) (by simp; omega))
            clear row7 ht7 r7 hcv
            go_roundw
            case rel => exact ⟨j + 1, A7, C7, by omega, by go_num, rfl, ow8, hb8⟩
            case measure => (simp [intOf]) <;> omega
      · obtain rfl : k = NB := by omega
        go_wp2
        refine bodyPost_ret (v := .tuple #[.slice A k C, .int .i64 0]) (by simp [results, Try.results80, go_sem]) rfl ?_
        refine ⟨A, C, ?_, ?_, hbel.trans (hb.mono hbel.size)⟩
        · rw [HR.out, linesN_len]
        · rw [HR.out, linesN_len]; exact ow.wide hwd (Nat.le_refl _)
end Go.Proofs.Ytkhfbhphmdcelaa
