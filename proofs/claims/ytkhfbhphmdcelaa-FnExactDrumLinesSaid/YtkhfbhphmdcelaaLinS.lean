/-
  spec.DrumLines.
-/
import Derived.Test.YtkhfbhphmdcelaaDrumT
import Derived.Test.YtkhfbhphmdcelaaRepeat
import Derived.Test.YtkhfbhphmdcelaaSplitS
import Derived.Test.YtkhfbhphmdcelaaLinM
namespace Go.Proofs.Ytkhfbhphmdcelaa
open Go.RowKit

theorem BRow.of_own {w : World} {lo hi g n c : Nat} {xs : List UInt8} (h : OwnF byteF 5 w lo hi (.slice (some ⟨g, 0, none⟩) n c) xs) : BRow w g n xs := by
  have hn := h.num
  subst hn
  rcases h.row.row.2 with ⟨h0, _⟩ | ⟨g', cap, cur, hv, _, hh, _, _, _, ht⟩
  · cases h0
  · injection hv with ha _ _
    injection ha with ha
    injection ha with ha _ _
    subst ha
    refine ⟨cur, hh, rfl, ?_⟩
    rw [← flat_byte]
    have e : byteF.sz = 1 := rfl
    rw [e, Nat.mul_one] at ht
    exact ht

set_option maxRecDepth 100000 in
set_option maxHeartbeats 8000000 in
theorem specDrumLines (K B T F : Int) (w : World) (_ : I64 K ∧ I64 B ∧ I64 T ∧ I64 F) :
    Calls Try.prog 79 #[.agg #[.int .i64 K, .int .i64 B, .int .i64 T, .int .i64 F]] w fun e w' => ∃ A C, e = .returned (.tuple #[.slice A (linesR K B T F).1.length C, .int .i64 (linesR K B T F).2]) ∧
      OwnF textF 9 w' w.heap.size w'.heap.size (.slice A (linesR K B T F).1.length C) (linesR K B T F).1 ∧ Below w.heap.size w w' := by
  obtain ⟨u, hu⟩ : ∃ u, u = w.alloc (.cells #[.int .i64 K, .int .i64 B, .int .i64 T, .int .i64 F] 57) := ⟨_, rfl⟩
  have bx : Bx u w.heap.size 57 #[.int .i64 K, .int .i64 B, .int .i64 T, .int .i64 F] := by rw [hu]; exact Bx.new _ _ _
  have hbel : Below w.heap.size w u := by rw [hu]; exact (by repeat (first | exact Below.refl _ _ | refine Below.setCell ?_ (by first | omega | (simp <;> omega)) _ | refine Below.alloc ?_ (by first | omega | (simp <;> omega)) _ | refine Below.drew ?_))
  have HU := Lib.hid hu
  clear hu
  have c0 := bx.at_ 0 rfl
  have c1 := bx.at_ 1 rfl
  have c2 := bx.at_ 2 rfl
  have c3 := bx.at_ 3 rfl
  have HV := Lib.hid (fun v (hv : DrumAt v w.heap.size K B T F) => l05Ok_any w.heap.size K B T F v hv)
  cases hd : drumB K B T F with
  | false =>
    have HR := Lib.hid (show linesR K B T F = ([], 1) by simp [linesR, hd])
    rw [hd] at HV
    clear hd
    go_enter Try.func79, Try.ntmps79
    go_wp2_with fail
    rw [← HU.out]
    refine (HV.out _ (DrumAt.of_box bx)).mono ?_
    rintro e w1 ⟨rfl, k, hw⟩
    have hb1 : Below u.heap.size u w1 := by rw [hw]; exact bel_drewN (Below.refl _ _) k
    clear hw
    replace bx := bx.below hb1
    replace hbel := hbel.trans (hb1.mono hbel.size)
    clear c0 c1 c2 c3 hb1
    have c0 := bx.at_ 0 rfl
    have c1 := bx.at_ 1 rfl
    have c2 := bx.at_ 2 rfl
    have c3 := bx.at_ 3 rfl
    go_wp2
    refine bodyPost_ret (v := .tuple #[.slice none 0 0, .int .i64 1]) (by simp [results, Try.results79, go_sem]) rfl ?_
    refine ⟨none, 0, ?_, ?_, hbel⟩
    · rw [HR.out]; rfl
    · rw [HR.out]; exact ownF_nil _ _ _ _ _
  | true =>
    have HR := Lib.hid (show linesR K B T F = (linesN K B T F B.toNat, 0) by simp [linesR, hd])
    rw [hd] at HV
    have HD := Lib.hid (drm_of hd)
    clear hd
    have hB1 := HD.out.b1
    have hB2 := HD.out.b2
    have hT1 := HD.out.t1
    have hT2 := HD.out.t2
    obtain ⟨NB, rfl⟩ := Int.eq_ofNat_of_zero_le (show 0 ≤ B by omega)
    obtain ⟨N, rfl⟩ := Int.eq_ofNat_of_zero_le (show 0 ≤ T by omega)
    rw [show ((NB : Int)).toNat = NB by omega] at HR
    have HLB := Lib.hid (fun d => show lineB K NB N F d = ⟨(lineL N (tms K NB N F d)).toArray⟩ by unfold lineB; rw [show ((N : Int)).toNat = N by omega])
    go_enter Try.func79, Try.ntmps79
    go_wp2_with fail
    rw [← HU.out]
    refine (HV.out _ (DrumAt.of_box bx)).mono ?_
    rintro e w1 ⟨rfl, k, hw⟩
    have hb1 : Below u.heap.size u w1 := by rw [hw]; exact bel_drewN (Below.refl _ _) k
    clear hw
    replace bx := bx.below hb1
    replace hbel := hbel.trans (hb1.mono hbel.size)
    clear c0 c1 c2 c3 hb1
    have c0 := bx.at_ 0 rfl
    have c1 := bx.at_ 1 rfl
    have c2 := bx.at_ 2 rfl
    have c3 := bx.at_ 3 rfl
    have hwu : w.heap.size < w1.heap.size := bx.lt
    have hwd := hbel.size
    clear c0 c3
    go_wp2_with fail
    go_loopw [4, 5] (fun l i wr => ∃ (k : Nat) (A : Option Addr) (C : Nat), k ≤ NB ∧ i = .int .i64 k ∧ l = .slice A k C ∧ OwnF textF 9 wr w1.heap.size wr.heap.size (.slice A k C) (linesN K NB N F k) ∧ Below w1.heap.size w1 wr) (fun _ i _ => NB - (intOf i).toNat)
    case atStart => exact ⟨0, _, 0, Nat.zero_le _, rfl, rfl, (ownF_row (F := textF) (n := 0) (xs := []) (row_new 9 1 w1 #[] 0 (by simp) (by omega)) rfl (by simp)).wide (Nat.le_refl _) (by simp), (Below.refl _ _).alloc (Nat.le_refl _) _⟩
    case round =>
      clear c1 c2
      obtain ⟨k, A, C, hk, rfl, rfl, ow, hb⟩ := hrel
      have hsz := hb.size
      have bx4 := bx.below hb
      have hwr := bx4.lt
      have c0 := bx4.at_ 0 rfl
      have c1 := bx4.at_ 1 rfl
      have c2 := bx4.at_ 2 rfl
      have c3 := bx4.at_ 3 rfl
      by_cases hlt : k < NB
      · obtain ⟨HX, hHX⟩ : ∃ HX, HX = wr.heap.size := ⟨_, rfl⟩
        rw [← hHX] at ow
        have hXs : w1.heap.size ≤ HX := by omega
        have HLn := Lib.hid (show (tms K NB N F k).length = k by rw [tms_len]; omega)
        have HSc := Lib.hid (linesN_succ K NB N F k)
        have HLk := Lib.hid (HLB.out k)
        go_wp2_with (at_make; refine wpList_makeF byteF rfl _ _ _ 5 rfl Try.underlying22 (.int .u8 0) 1 info_byte rfl (by omega) N rfl rfl (by omega) ?_; intro w2 own2 hb2)
        obtain ⟨G, hG⟩ : ∃ G, G = wr.heap.size := ⟨_, rfl⟩
        rw [← hG] at own2 ⊢
        have hGX : HX ≤ G := by omega
        have brow : BRow w2 G N (fillL N 0) := by
          have e : padF byteF N [] = fillL N 0 := by simp [padF, fillL, byteF]
          rw [e] at own2
          exact BRow.of_own own2
        have ow2 := ow.below hb2
        have hbw2 := hb.trans (hb2.mono hb.size)
        have HHX := Lib.hid hHX
        have HG := Lib.hid hG
        clear own2 hb2 hG hHX c0 c1 c2 c3 bx4 ow hb
        obtain ⟨wq, hwq⟩ : ∃ wq, wq = wr := ⟨_, rfl⟩
        rw [← hwq] at HHX HG hsz
        clear hwq
        go_wp2_with fail
        go_loopw [7, 24] (fun _ i wr => ∃ j : Nat, j ≤ N ∧ i = .int .i64 j ∧ BRow wr G N (fillL N j) ∧ OwnF textF 9 wr w1.heap.size HX (.slice A k C) (linesN K NB N F k) ∧ Below w1.heap.size w1 wr) (fun _ i _ => N - (intOf i).toNat)
        case atStart => exact ⟨0, Nat.zero_le _, rfl, brow, ow2, hbw2⟩
        case round =>
         clear brow ow2 hbw2
         obtain ⟨j, hj, rfl, brow, ow, hb⟩ := hrel
         have hgg := brow.lt
         by_cases hjN : j < N
         · have g0 := brow.cell hjN
           have f0 := brow.thaw j
           have bp := brow.put hjN 46
           rw [fillL_set hjN] at bp
           have HBp := Lib.hid (show BRow (wr.setCell ⟨G, j, none⟩ (.int .u8 46)) G N (fillL N (j + 1)) from bp)
           have HOw := Lib.hid (ow.setCell (p := ⟨G, j, none⟩) (.inr hGX) (.int .u8 46))
           have HBl := Lib.hid (hb.setCell (p := ⟨G, j, none⟩) (by simp; omega) (.int .u8 46))
           clear bp brow ow hb
           go_wp2
           go_roundw
           case rel => exact ⟨j + 1, by omega, by go_num, HBp.out, HOw.out, HBl.out⟩
           case measure => (simp [intOf]) <;> omega
         · obtain ⟨j0, hj0⟩ : ∃ j0, j0 = N := ⟨_, rfl⟩
           have hjj : j = N := by omega
           rw [hjj, fillL_all] at brow
           subst hj0
           clear hjj
           have bx5 := bx.below hb
           have hG2 : G < wr.heap.size := hgg
           have hb4 := hb
           go_wp2_with fail
           refine (l05Times_any w.heap.size K NB j0 F k _ (DrumAt.of_box bx5) HD.out (by omega) (by omega)).mono ?_

           rintro e w4 ⟨A4, C4, rfl, own4, hb5⟩
           rw [show ((k : Int)).toNat = k by omega] at own4 ⊢
           obtain ⟨L, hL⟩ : ∃ L, L = wr.heap.size := ⟨_, rfl⟩
           obtain ⟨H, hH⟩ : ∃ H, H = w4.heap.size := ⟨_, rfl⟩
           rw [← hL, ← hH] at own4
           have hGL : G < L := by omega
           replace brow := brow.below hb5
           replace ow := ow.below hb5
           have hb6 := hb4.trans (hb5.mono hb4.size)
           clear bx5 hb5 hL hH hb4 hb hgg
           go_wp2_with fail
           go_loopw [9] (fun i wr => ∃ j : Nat, j ≤ k ∧ i = .int .i64 j ∧ BRow wr G j0 (lineL j0 ((tms K NB j0 F k).take j)) ∧ Own 2 wr L H (.slice A4 k C4) (tms K NB j0 F k) ∧ OwnF textF 9 wr w1.heap.size HX (.slice A k C) (linesN K NB j0 F k) ∧ Below w1.heap.size w1 wr) (fun i _ => k - (intOf i).toNat)
           case atStart => exact ⟨0, Nat.zero_le _, rfl, by rw [List.take_zero, lineL_nil]; exact brow, own4, ow, hb6⟩
           case round =>
             clear brow own4 ow hb6
             obtain ⟨j, hj, rfl, brow, own4, ow, hb6⟩ := hrel
             have hgg := brow.lt
             by_cases hjk : j < k
             · have hjl : j < (tms K NB j0 F k).length := by rw [HLn.out]; exact hjk
               obtain ⟨p2, off2, rfl, hc2⟩ := own4.rd.at_ hjl
               have htb := tms_bd HD.out (d := k) (by omega) (k := j) (by omega)
               have HT2 := Lib.hid (take_snocD hjl)
               obtain ⟨q, hq⟩ := Int.eq_ofNat_of_zero_le (show 0 ≤ nth (tms K NB j0 F k) j - 1 by omega)
               have hq' : nth (tms K NB j0 F k) j = (q : Int) + 1 := by omega
               rw [hq'] at hc2 HT2 htb
               clear hq hq'
               have hqN : q < j0 := by omega
               have g0 := brow.cell hqN
               have f0 := brow.thaw q
               have hw1 : IntKind.i64.wrap ((q : Int) + 1 - 1) = (q : Int) := by rw [show (q : Int) + 1 - 1 = (q : Int) by omega]; exact IntWalk.i64_in _ (by omega)
               have bp := brow.put hqN 35
               have HBp := Lib.hid (show BRow (wr.setCell ⟨G, q, none⟩ (.int .u8 35)) G j0 (lineL j0 ((tms K NB j0 F k).take (j + 1))) by
                 rw [HT2.out, lineL_snoc]
                 unfold setP
                 rw [show ((q : Int) + 1 - 1).toNat = q by omega]; exact bp)
               have HOw := Lib.hid (ow.setCell (p := ⟨G, q, none⟩) (.inr hGX) (.int .u8 35))
               have HOn := Lib.hid (own4.setCell (p := ⟨G, q, none⟩) (.inl hGL) (.int .u8 35))
               have HBl := Lib.hid (hb6.setCell (p := ⟨G, q, none⟩) (by simp; omega) (.int .u8 35))
               clear bp brow own4 ow hb6 htb
               go_wp2
               go_roundw
               case rel => exact ⟨j + 1, by omega, by go_num, HBp.out, HOn.out, HOw.out, HBl.out⟩
               case measure => (simp [intOf]) <;> omega
             · obtain rfl : j = k := by omega
               have e : (tms K NB j0 F j).take j = tms K NB j0 F j := List.take_of_length_le (by rw [HLn.out]; exact Nat.le_refl _)
               rw [e] at brow
               have hcv := brow.text (P := Try.prog) j0 22 9 5 Try.underlying22 Try.underlying5 Try.underlying9
               rw [← HLk.out] at hcv
               obtain ⟨X, hX⟩ : ∃ X, X = lineB K NB j0 F j := ⟨_, rfl⟩
               rw [← hX] at hcv HSc
               have ow7 : OwnF textF 9 (wr.alloc (.cells #[.string X] 9)) w1.heap.size HX (.slice A j C) (linesN K NB j0 F j) := ow.alloc _
               have r7 := ow7.row
               rw [linesN_len] at r7
               have hs7 := hb6.size
               clear e hX brow own4 ow ow7
               go_wp2_with (at_builtin; go_must (refine wpList_appR rfl (.tmp 46) (.tmp 49) 34 9 rfl (.string ByteArray.empty) 1 16 Try.underlying34 info_string rfl (by omega) (by omega) rfl r7 ⟨wr.heap.size, 0, none⟩ 1 1 (flat textF [X]) rfl rfl (news_text wr _ _) flat_mem (by omega) (by simp; omega) ?_); intro A7 C7 w7 row7 ht7)
               have ow8 : OwnF textF 9 w7 w1.heap.size w7.heap.size (.slice A7 (j + 1) C7) (linesN K NB j0 F (j + 1)) := by
                 rw [HSc.out]
                 exact ownF_row (n := j + 1) (by rw [flat_append]; exact row7) (by rw [List.length_append, linesN_len]; rfl) (by rw [List.length_append, linesN_len]; simp; omega)
               have hb8 : Below w1.heap.size w1 w7 := (hb6.alloc hs7 _).trans (ht7.below (Nat.le_refl _) (by simp; omega))
               clear row7 ht7 r7 hcv
               go_roundw
               case rel => exact ⟨j + 1, A7, C7, by omega, by go_num, rfl, ow8, hb8⟩
               case measure => (simp [intOf]) <;> omega
      · obtain rfl : k = NB := by omega
        go_wp2
        refine bodyPost_ret (v := .tuple #[.slice A k C, .int .i64 0]) (by simp [results, Try.results79, go_sem]) rfl ?_
        refine ⟨A, C, ?_, ?_, hbel.trans (hb.mono hbel.size)⟩
        · rw [HR.out, linesN_len]
        · rw [HR.out, linesN_len]; exact ow.wide hwd (Nat.le_refl _)
end Go.Proofs.Ytkhfbhphmdcelaa
