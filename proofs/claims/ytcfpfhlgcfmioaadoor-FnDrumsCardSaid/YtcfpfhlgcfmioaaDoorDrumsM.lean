/-
  Several texts in one: LinM, LinI, LinS, SliEq, DigI, SameI, DigS, BusyM, F6.
-/
import Derived.Test.YtcfpfhlgcfmioaaDoorDrumM
import Derived.Test.YtcfpfhlgcfmioaaDoorDrumK
import Derived.Test.YtcfpfhlgcfmioaaDoorRepeat
import Derived.Test.YtcfpfhlgcfmioaaDoorSplitS
import Derived.Test.YtcfpfhlgcfmioaaDoorDrumT
import Derived.Test.YtcfpfhlgcfmioaaDoorProg
import Derived.Test.YtcfpfhlgcfmioaaDoorBase
import Derived.Test.YtcfpfhlgcfmioaaDoorPairS
import Derived.Test.YtcfpfhlgcfmioaaDoorAr
import Derived.Test.YtcfpfhlgcfmioaaDoorStrS

/- LinM -/
namespace Go.Proofs.YtcfpfhlgcfmioaaDoor

/-- A step at the time t. -/
def setP (l : List UInt8) (t : Int) : List UInt8 := l.set (t - 1).toNat 35
/-- A line with steps at these times. -/
def lineL (N : Nat) (ts : List Int) : List UInt8 := ts.foldl setP (List.replicate N 46)
theorem lineL_nil (N : Nat) : lineL N [] = List.replicate N 46 := rfl
theorem lineL_snoc (N : Nat) (ts : List Int) (t : Int) : lineL N (ts ++ [t]) = setP (lineL N ts) t := by simp [lineL]
theorem setP_len (l : List UInt8) (t : Int) : (setP l t).length = l.length := by simp [setP]
theorem lineL_len (N : Nat) (ts : List Int) : (lineL N ts).length = N := by
  have : ∀ l : List UInt8, (ts.foldl setP l).length = l.length := by
    induction ts with
    | nil => intro l; rfl
    | cons t ts ih => intro l; rw [List.foldl_cons, ih, setP_len]
  rw [lineL, this, List.length_replicate]
/-- The line of the digit d. -/
def lineB (K B T F d : Int) : ByteArray := ⟨(lineL T.toNat (tms K B T F d)).toArray⟩
/-- The first n lines. -/
def linesN (K B T F : Int) (n : Nat) : List ByteArray := (List.range n).map fun d : Nat => lineB K B T F (d : Int)
theorem linesN_len (K B T F : Int) (n : Nat) : (linesN K B T F n).length = n := by simp [linesN]
theorem linesN_succ (K B T F : Int) (n : Nat) : linesN K B T F (n + 1) = linesN K B T F n ++ [lineB K B T F (n : Int)] := by simp [linesN, List.range_succ]
/-- DrumLines. -/
def linesR (K B T F : Int) : List ByteArray × Int := if drumB K B T F = true then (linesN K B T F B.toNat, 0) else ([], 1)
/-- A line that is half filled. -/
def fillL (N k : Nat) : List UInt8 := List.replicate k 46 ++ List.replicate (N - k) 0
theorem fillL_len {N k : Nat} (h : k ≤ N) : (fillL N k).length = N := by simp [fillL]; omega
theorem fillL_zero (N : Nat) : fillL N 0 = List.replicate N 0 := by simp [fillL]
theorem fillL_all (N : Nat) : fillL N N = List.replicate N 46 := by simp [fillL]
theorem fillL_set {N k : Nat} (h : k < N) : (fillL N k).set k 46 = fillL N (k + 1) := by
  unfold fillL
  have e : N - k = (N - (k + 1)) + 1 := by omega
  rw [List.set_append_right _ _ (by simp), List.length_replicate, Nat.sub_self, e, List.replicate_succ, List.set_cons_zero, List.replicate_succ' (n := k), List.append_assoc, List.singleton_append]

theorem take_snocD {xs : List Int} {k : Nat} (h : k < xs.length) : xs.take (k + 1) = xs.take k ++ [nth xs k] := by
  rw [List.take_succ_eq_append_getElem h, nth_get h]
end Go.Proofs.YtcfpfhlgcfmioaaDoor

/- LinI -/
namespace Go.Proofs.YtcfpfhlgcfmioaaDoor
open Go.RowKit

set_option maxRecDepth 100000 in
set_option maxHeartbeats 8000000 in
theorem implDrumLines (K B T F : Int) (w : World) (z : I64 K ∧ I64 B ∧ I64 T ∧ I64 F) :
    Calls Tryd.prog 18 #[.agg #[.int .i64 K, .int .i64 B, .int .i64 T, .int .i64 F]] w fun e w' => ∃ A C, e = .returned (.tuple #[.slice A (linesR K B T F).1.length C, .int .i64 (linesR K B T F).2]) ∧
      OwnF textF 9 w' w.heap.size w'.heap.size (.slice A (linesR K B T F).1.length C) (linesR K B T F).1 ∧ Below w.heap.size w w' := by
  obtain ⟨u, hu⟩ : ∃ u, u = w.alloc (.cells #[.int .i64 K, .int .i64 B, .int .i64 T, .int .i64 F] 25) := ⟨_, rfl⟩
  have bx : Bx u w.heap.size 25 #[.int .i64 K, .int .i64 B, .int .i64 T, .int .i64 F] := by rw [hu]; exact Bx.new _ _ _
  have hbel : Below w.heap.size w u := by rw [hu]; exact (by repeat (first | exact Below.refl _ _ | refine Below.setCell ?_ (by first | omega | (simp <;> omega)) _ | refine Below.alloc ?_ (by first | omega | (simp <;> omega)) _ | refine Below.drew ?_))
  have HU := Lib.hid hu
  clear hu
  have c0 := bx.at_ 0 rfl
  have c1 := bx.at_ 1 rfl
  have c2 := bx.at_ 2 rfl
  have c3 := bx.at_ 3 rfl
  have HV := Lib.hid (fun v => implValidDrum K B T F v z)
  clear z
  cases hd : drumB K B T F with
  | false =>
    have HR := Lib.hid (show linesR K B T F = ([], 1) by simp [linesR, hd])
    rw [hd] at HV
    clear hd
    go_enter Tryd.func18, Tryd.ntmps18
    go_wp2_with fail
    rw [← HU.out]
    refine (HV.out _).mono ?_
    rintro e w1 ⟨rfl, hb1⟩
    replace bx := bx.below hb1
    replace hbel := hbel.trans (hb1.mono hbel.size)
    clear c0 c1 c2 c3 hb1
    have c0 := bx.at_ 0 rfl
    have c1 := bx.at_ 1 rfl
    have c2 := bx.at_ 2 rfl
    have c3 := bx.at_ 3 rfl
    go_wp2
    refine bodyPost_ret (v := .tuple #[.slice none 0 0, .int .i64 1]) (by simp [results, Tryd.results18, go_sem]) rfl ?_
    refine ⟨none, 0, ?_, ?_, hbel⟩
    · rw [HR.out]; rfl
    · rw [HR.out]; exact ownF_nil _ _ _ _ _
  | true =>
    have HR := Lib.hid (show linesR K B T F = (linesN K B T F B.toNat, 0) by simp [linesR, hd])
    rw [hd] at HV
    have HD := Lib.hid (drm_of hd)
    clear hd
    have hB1 := HD.out.b1
    have hB2 := HD.out.b2
    have hT1 := HD.out.t1
    have hT2 := HD.out.t2
    obtain ⟨NB, rfl⟩ := Int.eq_ofNat_of_zero_le (show 0 ≤ B by omega)
    obtain ⟨N, rfl⟩ := Int.eq_ofNat_of_zero_le (show 0 ≤ T by omega)
    rw [show ((NB : Int)).toNat = NB by omega] at HR
    have HLB := Lib.hid (fun d => show lineB K NB N F d = ⟨(lineL N (tms K NB N F d)).toArray⟩ by unfold lineB; rw [show ((N : Int)).toNat = N by omega])
    go_enter Tryd.func18, Tryd.ntmps18
    go_wp2_with fail
    rw [← HU.out]
    refine (HV.out _).mono ?_
    rintro e w1 ⟨rfl, hb1⟩
    replace bx := bx.below hb1
    replace hbel := hbel.trans (hb1.mono hbel.size)
    clear c0 c1 c2 c3 hb1
    have c0 := bx.at_ 0 rfl
    have c1 := bx.at_ 1 rfl
    have c2 := bx.at_ 2 rfl
    have c3 := bx.at_ 3 rfl
    have hwu : w.heap.size < w1.heap.size := bx.lt
    have hwd := hbel.size
    clear c0 c3
    go_wp2_with fail
    go_loopw [4, 5, 14] (fun l _ i wr => ∃ (k : Nat) (A : Option Addr) (C : Nat), k ≤ NB ∧ i = .int .i64 k ∧ l = .slice A k C ∧ OwnF textF 9 wr w1.heap.size wr.heap.size (.slice A k C) (linesN K NB N F k) ∧ Below w1.heap.size w1 wr) (fun _ _ i _ => NB - (intOf i).toNat)
    case atStart => exact ⟨0, none, 0, Nat.zero_le _, rfl, rfl, ownF_nil _ _ _ _ _, Below.refl _ _⟩
    case round =>
      clear c1 c2
      obtain ⟨k, A, C, hk, rfl, rfl, ow, hb⟩ := hrel
      have hsz := hb.size
      have bx4 := bx.below hb
      have hwr := bx4.lt
      have c0 := bx4.at_ 0 rfl
      have c1 := bx4.at_ 1 rfl
      have c2 := bx4.at_ 2 rfl
      have c3 := bx4.at_ 3 rfl
      by_cases hlt : k < NB
      · obtain ⟨HX, hHX⟩ : ∃ HX, HX = wr.heap.size := ⟨_, rfl⟩
        rw [← hHX] at ow
        have hXs : w1.heap.size ≤ HX := by omega
        have HLn := Lib.hid (show (tms K NB N F k).length = k by rw [tms_len]; omega)
        have HSc := Lib.hid (linesN_succ K NB N F k)
        have HLk := Lib.hid (HLB.out k)
        go_wp2_with fail
        obtain ⟨v, hv⟩ : ∃ v, v = wr.alloc (.cells #[.int .u8 46] 5) := ⟨_, rfl⟩
        have hbv : Below wr.heap.size wr v := by rw [hv]; exact (Below.refl _ _).alloc (Nat.le_refl _) _
        have pc : v.cell? ⟨wr.heap.size, 0, none⟩ = some (.int .u8 46) := by rw [hv]; exact (Bx.new _ _ _).at_ 0 rfl
        rw [← hv]
        clear hv
        refine (repeat_any wr.heap.size 1 N v pc (by omega) (by omega)).mono ?_
        rintro e w3 ⟨G, rfl, hG1, hG2, brow, hb3⟩
        have hGX : HX ≤ G := by have := hbv.size; omega
        have hbw3 : Below wr.heap.size wr w3 := hbv.trans (hb3.mono hbv.size)
        replace ow := ow.below hbw3
        have hb4 := hb.trans (hbw3.mono hb.size)
        clear c0 c1 c2 c3 bx4 hbv pc hb3 hG1
        have bx5 := bx.below hb4
        have c0 := bx5.at_ 0 rfl
        have c1 := bx5.at_ 1 rfl
        have c2 := bx5.at_ 2 rfl
        have c3 := bx5.at_ 3 rfl
        go_wp2_with fail
        refine (stepTimes_any K NB N F k _ HD.out (by omega) (by omega)).mono ?_

        rintro e w4 ⟨A4, C4, rfl, own4, hb5⟩
        rw [show ((k : Int)).toNat = k by omega] at own4 ⊢
        obtain ⟨L, hL⟩ : ∃ L, L = w3.heap.size := ⟨_, rfl⟩
        obtain ⟨H, hH⟩ : ∃ H, H = w4.heap.size := ⟨_, rfl⟩
        rw [← hL, ← hH] at own4
        have hGL : G < L := by omega
        replace brow := brow.below hb5
        replace ow := ow.below hb5
        have hb6 := hb4.trans (hb5.mono hb4.size)
        clear c0 c1 c2 c3 bx5 hb5 hL hH hb4 hb hbw3 hHX
        go_wp2_with fail
        go_loopw [8, 25] (fun _ i wr => ∃ j : Nat, j ≤ k ∧ i = .int .i64 j ∧ BRow wr G N (lineL N ((tms K NB N F k).take j)) ∧ Own 2 wr L H (.slice A4 k C4) (tms K NB N F k) ∧ OwnF textF 9 wr w1.heap.size HX (.slice A k C) (linesN K NB N F k) ∧ Below w1.heap.size w1 wr) (fun _ i _ => k - (intOf i).toNat)
        case atStart => exact ⟨0, Nat.zero_le _, rfl, by rw [List.take_zero, lineL_nil]; exact brow, own4, ow, hb6⟩
        case round =>
          clear brow own4 ow hb6
          obtain ⟨j, hj, rfl, brow, own4, ow, hb6⟩ := hrel
          have hgg := brow.lt
          by_cases hjk : j < k
          · have hjl : j < (tms K NB N F k).length := by rw [HLn.out]; exact hjk
            obtain ⟨p2, off2, rfl, hc2⟩ := own4.rd.at_ hjl
            have htb := tms_bd HD.out (d := k) (by omega) (k := j) (by omega)
            have HT2 := Lib.hid (take_snocD hjl)
            obtain ⟨q, hq⟩ := Int.eq_ofNat_of_zero_le (show 0 ≤ nth (tms K NB N F k) j - 1 by omega)
            have hq' : nth (tms K NB N F k) j = (q : Int) + 1 := by omega
            rw [hq'] at hc2 HT2 htb
            clear hq hq'
            have hqN : q < N := by omega
            have g0 := brow.cell hqN
            have f0 := brow.thaw q
            have hw1 : IntKind.i64.wrap ((q : Int) + 1 - 1) = (q : Int) := by rw [show (q : Int) + 1 - 1 = (q : Int) by omega]; exact IntWalk.i64_in _ (by omega)
            have bp := brow.put hqN 35
            have HBp := Lib.hid (show BRow (wr.setCell ⟨G, q, none⟩ (.int .u8 35)) G N (lineL N ((tms K NB N F k).take (j + 1))) by
              rw [HT2.out, lineL_snoc]
              unfold setP
              rw [show ((q : Int) + 1 - 1).toNat = q by omega]; exact bp)
            have HOw := Lib.hid (ow.setCell (p := ⟨G, q, none⟩) (.inr hGX) (.int .u8 35))
            have HOn := Lib.hid (own4.setCell (p := ⟨G, q, none⟩) (.inl hGL) (.int .u8 35))
            have HBl := Lib.hid (hb6.setCell (p := ⟨G, q, none⟩) (by simp; omega) (.int .u8 35))
            clear bp brow own4 ow hb6 htb
            go_wp2
            go_roundw
            case rel => exact ⟨j + 1, by omega, by go_num, HBp.out, HOn.out, HOw.out, HBl.out⟩
            case measure => (simp [intOf]) <;> omega
          · obtain rfl : j = k := by omega
            have e : (tms K NB N F j).take j = tms K NB N F j := List.take_of_length_le (by rw [HLn.out]; exact Nat.le_refl _)
            rw [e] at brow
            have hcv := brow.text (P := Tryd.prog) N 22 9 5 Tryd.underlying22 Tryd.underlying5 Tryd.underlying9
            rw [← HLk.out] at hcv
            obtain ⟨X, hX⟩ : ∃ X, X = lineB K NB N F j := ⟨_, rfl⟩
            rw [← hX] at hcv HSc
            have ow7 : OwnF textF 9 (wr.alloc (.cells #[.string X] 9)) w1.heap.size HX (.slice A j C) (linesN K NB N F j) := ow.alloc _
            have r7 := ow7.row
            rw [linesN_len] at r7
            have hs7 := hb6.size
            clear e hX brow own4 ow ow7
            go_wp2_with (at_builtin; go_must (refine wpList_appR rfl (.tmp 34) (.tmp 37) 42 9 rfl (.string ByteArray.empty) 1 16 Tryd.underlying42 info_string rfl (by omega) (by omega) rfl r7 ⟨wr.heap.size, 0, none⟩ 1 1 (flat textF [X]) rfl rfl (news_text wr _ _) flat_mem (by omega) (by simp; omega) ?_); intro A7 C7 w7 row7 ht7)
            have ow8 : OwnF textF 9 w7 w1.heap.size w7.heap.size (.slice A7 (j + 1) C7) (linesN K NB N F (j + 1)) := by
              rw [HSc.out]
              exact ownF_row (n := j + 1) (by rw [flat_append]; exact row7) (by rw [List.length_append, linesN_len]; rfl) (by rw [List.length_append, linesN_len]; simp; omega)
            have hb8 : Below w1.heap.size w1 w7 := (hb6.alloc hs7 _).trans (ht7.below (Nat.le_refl _) (by simp; omega))
            clear row7 ht7 r7 hcv
            go_roundw
            case rel => exact ⟨j + 1, A7, C7, by omega, by go_num, rfl, ow8, hb8⟩
            case measure => (simp [intOf]) <;> omega
      · obtain rfl : k = NB := by omega
        go_wp2
        refine bodyPost_ret (v := .tuple #[.slice A k C, .int .i64 0]) (by simp [results, Tryd.results18, go_sem]) rfl ?_
        refine ⟨A, C, ?_, ?_, hbel.trans (hb.mono hbel.size)⟩
        · rw [HR.out, linesN_len]
        · rw [HR.out, linesN_len]; exact ow.wide hwd (Nat.le_refl _)
end Go.Proofs.YtcfpfhlgcfmioaaDoor

/- LinS -/
namespace Go.Proofs.YtcfpfhlgcfmioaaDoor
open Go.RowKit

theorem BRow.of_own {w : World} {lo hi g n c : Nat} {xs : List UInt8} (h : OwnF byteF 5 w lo hi (.slice (some ⟨g, 0, none⟩) n c) xs) : BRow w g n xs := by
  have hn := h.num
  subst hn
  rcases h.row.row.2 with ⟨h0, _⟩ | ⟨g', cap, cur, hv, _, hh, _, _, _, ht⟩
  · cases h0
  · injection hv with ha _ _
    injection ha with ha
    injection ha with ha _ _
    subst ha
    refine ⟨cur, hh, rfl, ?_⟩
    rw [← flat_byte]
    have e : byteF.sz = 1 := rfl
    rw [e, Nat.mul_one] at ht
    exact ht

set_option maxRecDepth 100000 in
set_option maxHeartbeats 8000000 in
theorem specDrumLines (K B T F : Int) (w : World) (_ : I64 K ∧ I64 B ∧ I64 T ∧ I64 F) :
    Calls Tryd.prog 19 #[.agg #[.int .i64 K, .int .i64 B, .int .i64 T, .int .i64 F]] w fun e w' => ∃ A C, e = .returned (.tuple #[.slice A (linesR K B T F).1.length C, .int .i64 (linesR K B T F).2]) ∧
      OwnF textF 9 w' w.heap.size w'.heap.size (.slice A (linesR K B T F).1.length C) (linesR K B T F).1 ∧ Below w.heap.size w w' := by
  obtain ⟨u, hu⟩ : ∃ u, u = w.alloc (.cells #[.int .i64 K, .int .i64 B, .int .i64 T, .int .i64 F] 25) := ⟨_, rfl⟩
  have bx : Bx u w.heap.size 25 #[.int .i64 K, .int .i64 B, .int .i64 T, .int .i64 F] := by rw [hu]; exact Bx.new _ _ _
  have hbel : Below w.heap.size w u := by rw [hu]; exact (by repeat (first | exact Below.refl _ _ | refine Below.setCell ?_ (by first | omega | (simp <;> omega)) _ | refine Below.alloc ?_ (by first | omega | (simp <;> omega)) _ | refine Below.drew ?_))
  have HU := Lib.hid hu
  clear hu
  have c0 := bx.at_ 0 rfl
  have c1 := bx.at_ 1 rfl
  have c2 := bx.at_ 2 rfl
  have c3 := bx.at_ 3 rfl
  have HV := Lib.hid (fun v (hv : DrumAt v w.heap.size K B T F) => l05Ok_any w.heap.size K B T F v hv)
  cases hd : drumB K B T F with
  | false =>
    have HR := Lib.hid (show linesR K B T F = ([], 1) by simp [linesR, hd])
    rw [hd] at HV
    clear hd
    go_enter Tryd.func19, Tryd.ntmps19
    go_wp2_with fail
    rw [← HU.out]
    refine (HV.out _ (DrumAt.of_box bx)).mono ?_
    rintro e w1 ⟨rfl, k, hw⟩
    have hb1 : Below u.heap.size u w1 := by rw [hw]; exact bel_drewN (Below.refl _ _) k
    clear hw
    replace bx := bx.below hb1
    replace hbel := hbel.trans (hb1.mono hbel.size)
    clear c0 c1 c2 c3 hb1
    have c0 := bx.at_ 0 rfl
    have c1 := bx.at_ 1 rfl
    have c2 := bx.at_ 2 rfl
    have c3 := bx.at_ 3 rfl
    go_wp2
    refine bodyPost_ret (v := .tuple #[.slice none 0 0, .int .i64 1]) (by simp [results, Tryd.results19, go_sem]) rfl ?_
    refine ⟨none, 0, ?_, ?_, hbel⟩
    · rw [HR.out]; rfl
    · rw [HR.out]; exact ownF_nil _ _ _ _ _
  | true =>
    have HR := Lib.hid (show linesR K B T F = (linesN K B T F B.toNat, 0) by simp [linesR, hd])
    rw [hd] at HV
    have HD := Lib.hid (drm_of hd)
    clear hd
    have hB1 := HD.out.b1
    have hB2 := HD.out.b2
    have hT1 := HD.out.t1
    have hT2 := HD.out.t2
    obtain ⟨NB, rfl⟩ := Int.eq_ofNat_of_zero_le (show 0 ≤ B by omega)
    obtain ⟨N, rfl⟩ := Int.eq_ofNat_of_zero_le (show 0 ≤ T by omega)
    rw [show ((NB : Int)).toNat = NB by omega] at HR
    have HLB := Lib.hid (fun d => show lineB K NB N F d = ⟨(lineL N (tms K NB N F d)).toArray⟩ by unfold lineB; rw [show ((N : Int)).toNat = N by omega])
    go_enter Tryd.func19, Tryd.ntmps19
    go_wp2_with fail
    rw [← HU.out]
    refine (HV.out _ (DrumAt.of_box bx)).mono ?_
    rintro e w1 ⟨rfl, k, hw⟩
    have hb1 : Below u.heap.size u w1 := by rw [hw]; exact bel_drewN (Below.refl _ _) k
    clear hw
    replace bx := bx.below hb1
    replace hbel := hbel.trans (hb1.mono hbel.size)
    clear c0 c1 c2 c3 hb1
    have c0 := bx.at_ 0 rfl
    have c1 := bx.at_ 1 rfl
    have c2 := bx.at_ 2 rfl
    have c3 := bx.at_ 3 rfl
    have hwu : w.heap.size < w1.heap.size := bx.lt
    have hwd := hbel.size
    clear c0 c3
    go_wp2_with fail
    go_loopw [4, 5] (fun l i wr => ∃ (k : Nat) (A : Option Addr) (C : Nat), k ≤ NB ∧ i = .int .i64 k ∧ l = .slice A k C ∧ OwnF textF 9 wr w1.heap.size wr.heap.size (.slice A k C) (linesN K NB N F k) ∧ Below w1.heap.size w1 wr) (fun _ i _ => NB - (intOf i).toNat)
    case atStart => exact ⟨0, _, 0, Nat.zero_le _, rfl, rfl, (ownF_row (F := textF) (n := 0) (xs := []) (row_new 9 1 w1 #[] 0 (by simp) (by omega)) rfl (by simp)).wide (Nat.le_refl _) (by simp), (Below.refl _ _).alloc (Nat.le_refl _) _⟩
    case round =>
      clear c1 c2
      obtain ⟨k, A, C, hk, rfl, rfl, ow, hb⟩ := hrel
      have hsz := hb.size
      have bx4 := bx.below hb
      have hwr := bx4.lt
      have c0 := bx4.at_ 0 rfl
      have c1 := bx4.at_ 1 rfl
      have c2 := bx4.at_ 2 rfl
      have c3 := bx4.at_ 3 rfl
      by_cases hlt : k < NB
      · obtain ⟨HX, hHX⟩ : ∃ HX, HX = wr.heap.size := ⟨_, rfl⟩
        rw [← hHX] at ow
        have hXs : w1.heap.size ≤ HX := by omega
        have HLn := Lib.hid (show (tms K NB N F k).length = k by rw [tms_len]; omega)
        have HSc := Lib.hid (linesN_succ K NB N F k)
        have HLk := Lib.hid (HLB.out k)
        go_wp2_with (at_make; refine wpList_makeF byteF rfl _ _ _ 5 rfl Tryd.underlying22 (.int .u8 0) 1 info_byte rfl (by omega) N rfl rfl (by omega) ?_; intro w2 own2 hb2)
        obtain ⟨G, hG⟩ : ∃ G, G = wr.heap.size := ⟨_, rfl⟩
        rw [← hG] at own2 ⊢
        have hGX : HX ≤ G := by omega
        have brow : BRow w2 G N (fillL N 0) := by
          have e : padF byteF N [] = fillL N 0 := by simp [padF, fillL, byteF]
          rw [e] at own2
          exact BRow.of_own own2
        have ow2 := ow.below hb2
        have hbw2 := hb.trans (hb2.mono hb.size)
        have HHX := Lib.hid hHX
        have HG := Lib.hid hG
        clear own2 hb2 hG hHX c0 c1 c2 c3 bx4 ow hb
        obtain ⟨wq, hwq⟩ : ∃ wq, wq = wr := ⟨_, rfl⟩
        rw [← hwq] at HHX HG hsz
        clear hwq
        go_wp2_with fail
        go_loopw [7, 24] (fun _ i wr => ∃ j : Nat, j ≤ N ∧ i = .int .i64 j ∧ BRow wr G N (fillL N j) ∧ OwnF textF 9 wr w1.heap.size HX (.slice A k C) (linesN K NB N F k) ∧ Below w1.heap.size w1 wr) (fun _ i _ => N - (intOf i).toNat)
        case atStart => exact ⟨0, Nat.zero_le _, rfl, brow, ow2, hbw2⟩
        case round =>
         clear brow ow2 hbw2
         obtain ⟨j, hj, rfl, brow, ow, hb⟩ := hrel
         have hgg := brow.lt
         by_cases hjN : j < N
         · have g0 := brow.cell hjN
           have f0 := brow.thaw j
           have bp := brow.put hjN 46
           rw [fillL_set hjN] at bp
           have HBp := Lib.hid (show BRow (wr.setCell ⟨G, j, none⟩ (.int .u8 46)) G N (fillL N (j + 1)) from bp)
           have HOw := Lib.hid (ow.setCell (p := ⟨G, j, none⟩) (.inr hGX) (.int .u8 46))
           have HBl := Lib.hid (hb.setCell (p := ⟨G, j, none⟩) (by simp; omega) (.int .u8 46))
           clear bp brow ow hb
           go_wp2
           go_roundw
           case rel => exact ⟨j + 1, by omega, by go_num, HBp.out, HOw.out, HBl.out⟩
           case measure => (simp [intOf]) <;> omega
         · obtain ⟨j0, hj0⟩ : ∃ j0, j0 = N := ⟨_, rfl⟩
           have hjj : j = N := by omega
           rw [hjj, fillL_all] at brow
           subst hj0
           clear hjj
           have bx5 := bx.below hb
           have hG2 : G < wr.heap.size := hgg
           have hb4 := hb
           go_wp2_with fail
           refine (l05Times_any w.heap.size K NB j0 F k _ (DrumAt.of_box bx5) HD.out (by omega) (by omega)).mono ?_

           rintro e w4 ⟨A4, C4, rfl, own4, hb5⟩
           rw [show ((k : Int)).toNat = k by omega] at own4 ⊢
           obtain ⟨L, hL⟩ : ∃ L, L = wr.heap.size := ⟨_, rfl⟩
           obtain ⟨H, hH⟩ : ∃ H, H = w4.heap.size := ⟨_, rfl⟩
           rw [← hL, ← hH] at own4
           have hGL : G < L := by omega
           replace brow := brow.below hb5
           replace ow := ow.below hb5
           have hb6 := hb4.trans (hb5.mono hb4.size)
           clear bx5 hb5 hL hH hb4 hb hgg
           go_wp2_with fail
           go_loopw [9] (fun i wr => ∃ j : Nat, j ≤ k ∧ i = .int .i64 j ∧ BRow wr G j0 (lineL j0 ((tms K NB j0 F k).take j)) ∧ Own 2 wr L H (.slice A4 k C4) (tms K NB j0 F k) ∧ OwnF textF 9 wr w1.heap.size HX (.slice A k C) (linesN K NB j0 F k) ∧ Below w1.heap.size w1 wr) (fun i _ => k - (intOf i).toNat)
           case atStart => exact ⟨0, Nat.zero_le _, rfl, by rw [List.take_zero, lineL_nil]; exact brow, own4, ow, hb6⟩
           case round =>
             clear brow own4 ow hb6
             obtain ⟨j, hj, rfl, brow, own4, ow, hb6⟩ := hrel
             have hgg := brow.lt
             by_cases hjk : j < k
             · have hjl : j < (tms K NB j0 F k).length := by rw [HLn.out]; exact hjk
               obtain ⟨p2, off2, rfl, hc2⟩ := own4.rd.at_ hjl
               have htb := tms_bd HD.out (d := k) (by omega) (k := j) (by omega)
               have HT2 := Lib.hid (take_snocD hjl)
               obtain ⟨q, hq⟩ := Int.eq_ofNat_of_zero_le (show 0 ≤ nth (tms K NB j0 F k) j - 1 by omega)
               have hq' : nth (tms K NB j0 F k) j = (q : Int) + 1 := by omega
               rw [hq'] at hc2 HT2 htb
               clear hq hq'
               have hqN : q < j0 := by omega
               have g0 := brow.cell hqN
               have f0 := brow.thaw q
               have hw1 : IntKind.i64.wrap ((q : Int) + 1 - 1) = (q : Int) := by rw [show (q : Int) + 1 - 1 = (q : Int) by omega]; exact IntWalk.i64_in _ (by omega)
               have bp := brow.put hqN 35
               have HBp := Lib.hid (show BRow (wr.setCell ⟨G, q, none⟩ (.int .u8 35)) G j0 (lineL j0 ((tms K NB j0 F k).take (j + 1))) by
                 rw [HT2.out, lineL_snoc]
                 unfold setP
                 rw [show ((q : Int) + 1 - 1).toNat = q by omega]; exact bp)
               have HOw := Lib.hid (ow.setCell (p := ⟨G, q, none⟩) (.inr hGX) (.int .u8 35))
               have HOn := Lib.hid (own4.setCell (p := ⟨G, q, none⟩) (.inl hGL) (.int .u8 35))
               have HBl := Lib.hid (hb6.setCell (p := ⟨G, q, none⟩) (by simp; omega) (.int .u8 35))
               clear bp brow own4 ow hb6 htb
               go_wp2
               go_roundw
               case rel => exact ⟨j + 1, by omega, by go_num, HBp.out, HOn.out, HOw.out, HBl.out⟩
               case measure => (simp [intOf]) <;> omega
             · obtain rfl : j = k := by omega
               have e : (tms K NB j0 F j).take j = tms K NB j0 F j := List.take_of_length_le (by rw [HLn.out]; exact Nat.le_refl _)
               rw [e] at brow
               have hcv := brow.text (P := Tryd.prog) j0 22 9 5 Tryd.underlying22 Tryd.underlying5 Tryd.underlying9
               rw [← HLk.out] at hcv
               obtain ⟨X, hX⟩ : ∃ X, X = lineB K NB j0 F j := ⟨_, rfl⟩
               rw [← hX] at hcv HSc
               have ow7 : OwnF textF 9 (wr.alloc (.cells #[.string X] 9)) w1.heap.size HX (.slice A j C) (linesN K NB j0 F j) := ow.alloc _
               have r7 := ow7.row
               rw [linesN_len] at r7
               have hs7 := hb6.size
               clear e hX brow own4 ow ow7
               go_wp2_with (at_builtin; go_must (refine wpList_appR rfl (.tmp 46) (.tmp 49) 42 9 rfl (.string ByteArray.empty) 1 16 Tryd.underlying42 info_string rfl (by omega) (by omega) rfl r7 ⟨wr.heap.size, 0, none⟩ 1 1 (flat textF [X]) rfl rfl (news_text wr _ _) flat_mem (by omega) (by simp; omega) ?_); intro A7 C7 w7 row7 ht7)
               have ow8 : OwnF textF 9 w7 w1.heap.size w7.heap.size (.slice A7 (j + 1) C7) (linesN K NB j0 F (j + 1)) := by
                 rw [HSc.out]
                 exact ownF_row (n := j + 1) (by rw [flat_append]; exact row7) (by rw [List.length_append, linesN_len]; rfl) (by rw [List.length_append, linesN_len]; simp; omega)
               have hb8 : Below w1.heap.size w1 w7 := (hb6.alloc hs7 _).trans (ht7.below (Nat.le_refl _) (by simp; omega))
               clear row7 ht7 r7 hcv
               go_roundw
               case rel => exact ⟨j + 1, A7, C7, by omega, by go_num, rfl, ow8, hb8⟩
               case measure => (simp [intOf]) <;> omega
      · obtain rfl : k = NB := by omega
        go_wp2
        refine bodyPost_ret (v := .tuple #[.slice A k C, .int .i64 0]) (by simp [results, Tryd.results19, go_sem]) rfl ?_
        refine ⟨A, C, ?_, ?_, hbel.trans (hb.mono hbel.size)⟩
        · rw [HR.out, linesN_len]
        · rw [HR.out, linesN_len]; exact ow.wide hwd (Nat.le_refl _)
end Go.Proofs.YtcfpfhlgcfmioaaDoor

/- SliEq -/
namespace Go.Proofs.YtcfpfhlgcfmioaaDoor
open Go.RowKit

set_option maxHeartbeats 400000 in
theorem slicesEqual_any (a b : Option Addr) (c d : Nat) (xs ys : List Int) (w : World) (ha : Rd w a xs) (hb : Rd w b ys) :
    Calls Tryd.prog 42 #[.slice a xs.length c, .slice b ys.length d] w fun e w' => e = .returned (.bool (decide (xs = ys))) ∧ ∃ n, w' = w.drewN n := by
  have hx1 := ha.len
  have hy1 := hb.len
  by_cases hl : xs.length = ys.length
  · have ht : ((xs.length : Int) != (ys.length : Int)) = false := by simp [hl]
    have HL := Lib.hid hl
    clear hl
    go_enter Tryd.func42, Tryd.ntmps42
    go_wp2
    go_loopw [5, 13] (fun _ i wr => ∃ k n : Nat, k ≤ xs.length ∧ i = .int .i64 k ∧ wr = w.drewN n ∧ Hid (xs.take k = ys.take k)) (fun _ i _ => xs.length - (intOf i).toNat)
    case atStart => exact ⟨0, 0, Nat.zero_le _, rfl, rfl, Lib.hid (by simp)⟩
    case round =>
      obtain ⟨k, n, hk, rfl, rfl, HT⟩ := hrel
      by_cases hlt : k < xs.length
      · have hlt' : k < ys.length := by rw [← HL.out]; exact hlt
        obtain ⟨b1, o1, rfl, hc1⟩ := ha.at_ hlt
        obtain ⟨b2, o2, rfl, hc2⟩ := hb.at_ hlt'
        by_cases he : nth xs k = nth ys k
        · have hbe : (nth xs k != nth ys k) = false := by simp [he]
          have HE := Lib.hid he
          clear he
          go_wp2
          go_quiet (fail)
          go_wp2
          go_roundw
          case rel => exact ⟨k + 1, _, by omega, by go_num, rfl, Lib.hid (take_eq_snoc hlt HL.out HT.out HE.out)⟩
          case measure => simp [intOf]; omega
        · have hbe : (nth xs k != nth ys k) = true := by simp [he]
          have HE := Lib.hid he
          clear he
          go_wp2
          go_quiet (fail)
          go_wp2
          go_ret
          exact ⟨ret_bool (by simp [ne_of_at HE.out]), _, drewN_drewN _ _ _⟩
      · obtain rfl : k = xs.length := by omega
        go_wp2
        go_ret
        exact ⟨ret_bool (by simp [take_all_eq HL.out HT.out]), _, rfl⟩
  · have ht : ((xs.length : Int) != (ys.length : Int)) = true := by simp; omega
    have HL := Lib.hid hl
    clear hl
    go_enter Tryd.func42, Tryd.ntmps42
    go_wp2
    go_ret
    exact ⟨ret_bool (by rw [decide_eq_false]; rintro rfl; exact HL.out rfl), 0, rfl⟩
end Go.Proofs.YtcfpfhlgcfmioaaDoor

/- DigI -/
namespace Go.Proofs.YtcfpfhlgcfmioaaDoor
open Go.RowKit

theorem tms_eqlenI (K B T F : Int) (n : Nat) : (tms K B T F (n : Int)).length = n := by rw [tms_len]; omega
set_option maxHeartbeats 2000000 in
theorem implDigitFor (K B T F : Int) (a : Option Addr) (c : Nat) (ts : List Int) (w : World) (z : I64 K ∧ I64 B ∧ I64 T ∧ I64 F) (ha : Rd w a ts) (_ : All64 ts) :
    Calls Tryd.prog 15 #[.agg #[.int .i64 K, .int .i64 B, .int .i64 T, .int .i64 F], .slice a ts.length c] w fun e w' => e = .returned (.tuple #[.int .i64 (dgR K B T F ts).1, .int .i64 (dgR K B T F ts).2]) ∧ Below w.heap.size w w' := by
  have hx := ha.len
  obtain ⟨u, hu⟩ : ∃ u, u = w.alloc (.cells #[.int .i64 K, .int .i64 B, .int .i64 T, .int .i64 F] 25) := ⟨_, rfl⟩
  have bx : Bx u w.heap.size 25 #[.int .i64 K, .int .i64 B, .int .i64 T, .int .i64 F] := by rw [hu]; exact Bx.new _ _ _
  have hbel : Below w.heap.size w u := by rw [hu]; exact (by repeat (first | exact Below.refl _ _ | refine Below.setCell ?_ (by first | omega | (simp <;> omega)) _ | refine Below.alloc ?_ (by first | omega | (simp <;> omega)) _ | refine Below.drew ?_))
  have HU := Lib.hid hu
  clear hu
  have c0 := bx.at_ 0 rfl
  have c1 := bx.at_ 1 rfl
  have c2 := bx.at_ 2 rfl
  have c3 := bx.at_ 3 rfl
  have hr := ha.below hbel
  clear ha

  have HV := Lib.hid (fun v => implValidDrum K B T F v z)
  clear z
  cases hb : drumB K B T F with
  | false =>
    have HR := Lib.hid (show dgR K B T F ts = (0, 1) by simp [dgR, hb])
    rw [hb] at HV
    clear hb
    go_enter Tryd.func15, Tryd.ntmps15
    go_wp2_with fail
    rw [← HU.out]
    refine (HV.out _).mono ?_
    rintro e w1 ⟨rfl, hb1⟩
    replace hr := hr.below hb1
    replace bx := bx.below hb1
    replace hbel := hbel.trans (hb1.mono hbel.size)
    clear c0 c1 c2 c3 hb1
    have c0 := bx.at_ 0 rfl
    have c1 := bx.at_ 1 rfl
    have c2 := bx.at_ 2 rfl
    have c3 := bx.at_ 3 rfl
    go_wp2
    go_ret2
    exact ⟨ret_two HR.out, hbel⟩
  | true =>
    have hD := drm_of hb
    have hB2 := hD.b2
    rw [hb] at HV
    by_cases hlt : (ts.length : Int) < B
    · have HT := Lib.hid (fun v => stepTimes_any K B T F ts.length v hD (by omega) hlt)
      clear hD
      by_cases he : tms K B T F (ts.length : Int) = ts
      · have HR := Lib.hid (show dgR K B T F ts = ((ts.length : Int), 0) by rw [dgR, if_pos hb, if_pos ⟨hlt, he⟩])
        have HE := Lib.hid (show decide (tms K B T F (ts.length : Int) = ts) = true from decide_eq_true he)
        clear hb he
        go_enter Tryd.func15, Tryd.ntmps15
        go_wp2_with fail
        rw [← HU.out]
        refine (HV.out _).mono ?_
        rintro e w1 ⟨rfl, hb1⟩
        replace hr := hr.below hb1
        replace bx := bx.below hb1
        replace hbel := hbel.trans (hb1.mono hbel.size)
        clear c0 c1 c2 c3 hb1
        have c0 := bx.at_ 0 rfl
        have c1 := bx.at_ 1 rfl
        have c2 := bx.at_ 2 rfl
        have c3 := bx.at_ 3 rfl
        go_wp2_with fail
        refine (HT.out _).mono ?_
        rintro e w2 ⟨A, C, rfl, own, hb2⟩
        replace hr := hr.below hb2
        replace hbel := hbel.trans (hb2.mono hbel.size)
        rw [show ((ts.length : Int)).toNat = ts.length by omega] at own ⊢
        have HQ := slicesEqual_any A a C c (tms K B T F ts.length) ts w2 own.rd hr
        rw [tms_eqlenI] at HQ
        clear c0 c1 c2 c3 own hb2
        have HQ' := Lib.hid HQ
        clear HQ
        go_wp2_with fail
        refine HQ'.out.mono ?_
        rw [HE.out]
        rintro e w3 ⟨rfl, q, rfl⟩
        go_wp2
        go_ret2
        exact ⟨ret_two HR.out, bel_drewN hbel q⟩
      · have HR := Lib.hid (show dgR K B T F ts = (0, 3) by rw [dgR, if_pos hb, if_neg (fun x => he x.2)])
        have HE := Lib.hid (show decide (tms K B T F (ts.length : Int) = ts) = false from decide_eq_false he)
        clear hb he
        go_enter Tryd.func15, Tryd.ntmps15
        go_wp2_with fail
        rw [← HU.out]
        refine (HV.out _).mono ?_
        rintro e w1 ⟨rfl, hb1⟩
        replace hr := hr.below hb1
        replace bx := bx.below hb1
        replace hbel := hbel.trans (hb1.mono hbel.size)
        clear c0 c1 c2 c3 hb1
        have c0 := bx.at_ 0 rfl
        have c1 := bx.at_ 1 rfl
        have c2 := bx.at_ 2 rfl
        have c3 := bx.at_ 3 rfl
        go_wp2_with fail
        refine (HT.out _).mono ?_
        rintro e w2 ⟨A, C, rfl, own, hb2⟩
        replace hr := hr.below hb2
        replace hbel := hbel.trans (hb2.mono hbel.size)
        rw [show ((ts.length : Int)).toNat = ts.length by omega] at own ⊢
        have HQ := slicesEqual_any A a C c (tms K B T F ts.length) ts w2 own.rd hr
        rw [tms_eqlenI] at HQ
        clear c0 c1 c2 c3 own hb2
        have HQ' := Lib.hid HQ
        clear HQ
        go_wp2_with fail
        refine HQ'.out.mono ?_
        rw [HE.out]
        rintro e w3 ⟨rfl, q, rfl⟩
        go_wp2
        go_ret2
        exact ⟨ret_two HR.out, bel_drewN hbel q⟩
    · have HR := Lib.hid (show dgR K B T F ts = (0, 3) by rw [dgR, if_pos hb, if_neg (fun x => hlt x.1)])
      clear hb hD
      go_enter Tryd.func15, Tryd.ntmps15
      go_wp2_with fail
      rw [← HU.out]
      refine (HV.out _).mono ?_
      rintro e w1 ⟨rfl, hb1⟩
      replace hr := hr.below hb1
      replace bx := bx.below hb1
      replace hbel := hbel.trans (hb1.mono hbel.size)
      clear c0 c1 c2 c3 hb1
      have c0 := bx.at_ 0 rfl
      have c1 := bx.at_ 1 rfl
      have c2 := bx.at_ 2 rfl
      have c3 := bx.at_ 3 rfl
      go_wp2
      go_ret2
      exact ⟨ret_two HR.out, hbel⟩
end Go.Proofs.YtcfpfhlgcfmioaaDoor

/- SameI -/
namespace Go.Proofs.YtcfpfhlgcfmioaaDoor
open Go.RowKit

set_option maxHeartbeats 400000 in
theorem l00Same_any (a b : Option Addr) (c d : Nat) (xs ys : List Int) (w : World) (ha : Rd w a xs) (hb : Rd w b ys) :
    Calls Tryd.prog 44 #[.slice a xs.length c, .slice b ys.length d] w fun e w' => e = .returned (.bool (decide (xs = ys))) ∧ ∃ n, w' = w.drewN n := by
  have hx1 := ha.len
  have hy1 := hb.len
  by_cases hl : xs.length = ys.length
  · have ht : ((xs.length : Int) != (ys.length : Int)) = false := by simp [hl]
    have HL := Lib.hid hl
    clear hl
    go_enter Tryd.func44, Tryd.ntmps44
    go_wp2
    go_loopw [5] (fun i wr => ∃ k n : Nat, k ≤ xs.length ∧ i = .int .i64 k ∧ wr = w.drewN n ∧ Hid (xs.take k = ys.take k)) (fun i _ => xs.length - (intOf i).toNat)
    case atStart => exact ⟨0, 0, Nat.zero_le _, rfl, rfl, Lib.hid (by simp)⟩
    case round =>
      obtain ⟨k, n, hk, rfl, rfl, HT⟩ := hrel
      by_cases hlt : k < xs.length
      · have hlt' : k < ys.length := by rw [← HL.out]; exact hlt
        obtain ⟨b1, o1, rfl, hc1⟩ := ha.at_ hlt
        obtain ⟨b2, o2, rfl, hc2⟩ := hb.at_ hlt'
        by_cases he : nth xs k = nth ys k
        · have hbe : (nth xs k != nth ys k) = false := by simp [he]
          have HE := Lib.hid he
          clear he
          go_wp2
          go_quiet (fail)
          go_wp2
          go_roundw
          case rel => exact ⟨k + 1, _, by omega, by go_num, rfl, Lib.hid (take_eq_snoc hlt HL.out HT.out HE.out)⟩
          case measure => simp [intOf]; omega
        · have hbe : (nth xs k != nth ys k) = true := by simp [he]
          have HE := Lib.hid he
          clear he
          go_wp2
          go_quiet (fail)
          go_wp2
          go_ret
          exact ⟨ret_bool (by simp [ne_of_at HE.out]), _, drewN_drewN _ _ _⟩
      · obtain rfl : k = xs.length := by omega
        go_wp2
        go_ret
        exact ⟨ret_bool (by simp [take_all_eq HL.out HT.out]), _, rfl⟩
  · have ht : ((xs.length : Int) != (ys.length : Int)) = true := by simp; omega
    have HL := Lib.hid hl
    clear hl
    go_enter Tryd.func44, Tryd.ntmps44
    go_wp2
    go_ret
    exact ⟨ret_bool (by rw [decide_eq_false]; rintro rfl; exact HL.out rfl), 0, rfl⟩
end Go.Proofs.YtcfpfhlgcfmioaaDoor

/- DigS -/
namespace Go.Proofs.YtcfpfhlgcfmioaaDoor
open Go.RowKit

theorem tms_eqlenS (K B T F : Int) (n : Nat) : (tms K B T F (n : Int)).length = n := by rw [tms_len]; omega
set_option maxHeartbeats 2000000 in
theorem specDigitFor (K B T F : Int) (a : Option Addr) (c : Nat) (ts : List Int) (w : World) (_ : I64 K ∧ I64 B ∧ I64 T ∧ I64 F) (ha : Rd w a ts) (_ : All64 ts) :
    Calls Tryd.prog 16 #[.agg #[.int .i64 K, .int .i64 B, .int .i64 T, .int .i64 F], .slice a ts.length c] w fun e w' => e = .returned (.tuple #[.int .i64 (dgR K B T F ts).1, .int .i64 (dgR K B T F ts).2]) ∧ Below w.heap.size w w' := by
  have hx := ha.len
  obtain ⟨u, hu⟩ : ∃ u, u = w.alloc (.cells #[.int .i64 K, .int .i64 B, .int .i64 T, .int .i64 F] 25) := ⟨_, rfl⟩
  have bx : Bx u w.heap.size 25 #[.int .i64 K, .int .i64 B, .int .i64 T, .int .i64 F] := by rw [hu]; exact Bx.new _ _ _
  have hbel : Below w.heap.size w u := by rw [hu]; exact (by repeat (first | exact Below.refl _ _ | refine Below.setCell ?_ (by first | omega | (simp <;> omega)) _ | refine Below.alloc ?_ (by first | omega | (simp <;> omega)) _ | refine Below.drew ?_))
  have HU := Lib.hid hu
  clear hu
  have c0 := bx.at_ 0 rfl
  have c1 := bx.at_ 1 rfl
  have c2 := bx.at_ 2 rfl
  have c3 := bx.at_ 3 rfl
  have hr := ha.below hbel
  clear ha

  have hat := DrumAt.of_box bx
  have HV := Lib.hid (l05Ok_any _ K B T F u hat)
  cases hb : drumB K B T F with
  | false =>
    have HR := Lib.hid (show dgR K B T F ts = (0, 1) by simp [dgR, hb])
    rw [hb] at HV
    clear hb
    go_enter Tryd.func16, Tryd.ntmps16
    go_wp2_with fail
    rw [← HU.out]
    refine HV.out.mono ?_
    rintro e w1 ⟨rfl, k, hw⟩
    replace bx : Bx w1 w.heap.size 25 #[.int .i64 K, .int .i64 B, .int .i64 T, .int .i64 F] := by rw [hw]; exact bx.drewN k
    replace hat := DrumAt.of_box bx
    replace hbel : Below w.heap.size w w1 := by rw [hw]; exact bel_drewN hbel k
    replace hr : Rd w1 a ts := by rw [hw]; exact hr.drewN k
    clear c0 c1 c2 c3 hw
    have c0 := bx.at_ 0 rfl
    have c1 := bx.at_ 1 rfl
    have c2 := bx.at_ 2 rfl
    have c3 := bx.at_ 3 rfl
    go_wp2
    go_ret2
    exact ⟨ret_two HR.out, hbel⟩
  | true =>
    have hD := drm_of hb
    have hB2 := hD.b2
    rw [hb] at HV
    by_cases hlt : (ts.length : Int) < B
    · have HT := Lib.hid (fun v (hv : DrumAt v w.heap.size K B T F) => l05Times_any w.heap.size K B T F ts.length v hv hD (by omega) hlt)
      clear hD
      by_cases he : tms K B T F (ts.length : Int) = ts
      · have HR := Lib.hid (show dgR K B T F ts = ((ts.length : Int), 0) by rw [dgR, if_pos hb, if_pos ⟨hlt, he⟩])
        have HE := Lib.hid (show decide (tms K B T F (ts.length : Int) = ts) = true from decide_eq_true he)
        clear hb he
        go_enter Tryd.func16, Tryd.ntmps16
        go_wp2_with fail
        rw [← HU.out]
        refine HV.out.mono ?_
        rintro e w1 ⟨rfl, k, hw⟩
        replace bx : Bx w1 w.heap.size 25 #[.int .i64 K, .int .i64 B, .int .i64 T, .int .i64 F] := by rw [hw]; exact bx.drewN k
        replace hat := DrumAt.of_box bx
        replace hbel : Below w.heap.size w w1 := by rw [hw]; exact bel_drewN hbel k
        replace hr : Rd w1 a ts := by rw [hw]; exact hr.drewN k
        clear c0 c1 c2 c3 hw
        have c0 := bx.at_ 0 rfl
        have c1 := bx.at_ 1 rfl
        have c2 := bx.at_ 2 rfl
        have c3 := bx.at_ 3 rfl
        go_wp2_with fail
        refine (HT.out _ hat).mono ?_
        rintro e w2 ⟨A, C, rfl, own, hb2⟩
        replace hr := hr.below hb2
        replace hbel := hbel.trans (hb2.mono hbel.size)
        rw [show ((ts.length : Int)).toNat = ts.length by omega] at own ⊢
        have HQ := l00Same_any A a C c (tms K B T F ts.length) ts w2 own.rd hr
        rw [tms_eqlenS] at HQ
        clear c0 c1 c2 c3 own hb2
        have HQ' := Lib.hid HQ
        clear HQ
        go_wp2_with fail
        refine HQ'.out.mono ?_
        rw [HE.out]
        rintro e w3 ⟨rfl, q, rfl⟩
        go_wp2
        go_ret2
        exact ⟨ret_two HR.out, bel_drewN hbel q⟩
      · have HR := Lib.hid (show dgR K B T F ts = (0, 3) by rw [dgR, if_pos hb, if_neg (fun x => he x.2)])
        have HE := Lib.hid (show decide (tms K B T F (ts.length : Int) = ts) = false from decide_eq_false he)
        clear hb he
        go_enter Tryd.func16, Tryd.ntmps16
        go_wp2_with fail
        rw [← HU.out]
        refine HV.out.mono ?_
        rintro e w1 ⟨rfl, k, hw⟩
        replace bx : Bx w1 w.heap.size 25 #[.int .i64 K, .int .i64 B, .int .i64 T, .int .i64 F] := by rw [hw]; exact bx.drewN k
        replace hat := DrumAt.of_box bx
        replace hbel : Below w.heap.size w w1 := by rw [hw]; exact bel_drewN hbel k
        replace hr : Rd w1 a ts := by rw [hw]; exact hr.drewN k
        clear c0 c1 c2 c3 hw
        have c0 := bx.at_ 0 rfl
        have c1 := bx.at_ 1 rfl
        have c2 := bx.at_ 2 rfl
        have c3 := bx.at_ 3 rfl
        go_wp2_with fail
        refine (HT.out _ hat).mono ?_
        rintro e w2 ⟨A, C, rfl, own, hb2⟩
        replace hr := hr.below hb2
        replace hbel := hbel.trans (hb2.mono hbel.size)
        rw [show ((ts.length : Int)).toNat = ts.length by omega] at own ⊢
        have HQ := l00Same_any A a C c (tms K B T F ts.length) ts w2 own.rd hr
        rw [tms_eqlenS] at HQ
        clear c0 c1 c2 c3 own hb2
        have HQ' := Lib.hid HQ
        clear HQ
        go_wp2_with fail
        refine HQ'.out.mono ?_
        rw [HE.out]
        rintro e w3 ⟨rfl, q, rfl⟩
        go_wp2
        go_ret2
        exact ⟨ret_two HR.out, bel_drewN hbel q⟩
    · have HR := Lib.hid (show dgR K B T F ts = (0, 3) by rw [dgR, if_pos hb, if_neg (fun x => hlt x.1)])
      clear hb hD
      go_enter Tryd.func16, Tryd.ntmps16
      go_wp2_with fail
      rw [← HU.out]
      refine HV.out.mono ?_
      rintro e w1 ⟨rfl, k, hw⟩
      replace bx : Bx w1 w.heap.size 25 #[.int .i64 K, .int .i64 B, .int .i64 T, .int .i64 F] := by rw [hw]; exact bx.drewN k
      replace hat := DrumAt.of_box bx
      replace hbel : Below w.heap.size w w1 := by rw [hw]; exact bel_drewN hbel k
      replace hr : Rd w1 a ts := by rw [hw]; exact hr.drewN k
      clear c0 c1 c2 c3 hw
      have c0 := bx.at_ 0 rfl
      have c1 := bx.at_ 1 rfl
      have c2 := bx.at_ 2 rfl
      have c3 := bx.at_ 3 rfl
      go_wp2
      go_ret2
      exact ⟨ret_two HR.out, hbel⟩
end Go.Proofs.YtcfpfhlgcfmioaaDoor

/- BusyM -/
namespace Go.Proofs.YtcfpfhlgcfmioaaDoor

/-- BusiestTime. -/
def busyR (K B T F b : Int) (ds : List Int) : Int × Int × Int :=
  if drumB K B T F = true ∧ okB b ds = true then (if b = B then ((bestTo (cntR K B T F ds) T.toNat : Nat), nth (cntR K B T F ds) (bestTo (cntR K B T F ds) T.toNat), 0) else (0, 0, 6)) else (0, 0, 1)
theorem allT_len {K B T F : Int} : ∀ {ds : List Int}, (∀ d ∈ ds, d < 16) → (allT K B T F ds).length ≤ 16 * ds.length
  | [], _ => by simp [allT]
  | d :: ds, h => by
    have h1 := h d (List.mem_cons_self ..)
    have h2 := allT_len (K := K) (B := B) (T := T) (F := F) (ds := ds) (fun x hx => h x (List.mem_cons_of_mem _ hx))
    have e : allT K B T F (d :: ds) = tms K B T F d ++ allT K B T F ds := by simp [allT]
    rw [e, List.length_append, tms_len, List.length_cons]
    omega
theorem allT_mem {K B T F t : Int} {ds : List Int} (h : Drm K B T F) (hd : ∀ d ∈ ds, d < B) (ht : t ∈ allT K B T F ds) : 1 ≤ t ∧ t ≤ T := by
  unfold allT at ht
  obtain ⟨d, h1, h2⟩ := List.mem_flatMap.1 ht
  exact tms_mem h (hd d h1) h2
theorem rep_nth (n j : Nat) : nth (List.replicate n 0) j = 0 := by
  unfold nth
  rw [List.getElem?_replicate]
  split <;> rfl
theorem cnt_bd {K B T F : Int} {ts : List Int} (h : ∀ t ∈ ts, 1 ≤ t ∧ t ≤ T) (j : Nat) : 0 ≤ nth (cntT K B T F ts) j ∧ nth (cntT K B T F ts) j ≤ ts.length := by
  unfold cntT
  rw [bumps_nth (T := T) ts _ (fun t ht => by have := h t ht; omega) (by rw [List.length_replicate]; omega), rep_nth]
  have := List.length_filter_le (fun t : Int => decide (t.toNat = j)) ts
  omega
theorem take_snocI {xs : List Int} {k : Nat} (h : k < xs.length) : xs.take (k + 1) = xs.take k ++ [nth xs k] := by
  rw [List.take_succ_eq_append_getElem h, nth_get h]
theorem bestTo_cast {cs : List Int} {n : Nat} : bestTo cs n ≤ n := bestTo_le cs n
theorem bestTo_step (cs : List Int) (n : Nat) : nth cs (bestTo cs (n + 1)) = max (nth cs (bestTo cs n)) (nth cs (n + 1)) := by
  rw [bestTo]
  split <;> omega
/-- A filter of a strictly growing list keeps at most one of equal numbers. -/
theorem eq_le_one {j : Nat} : ∀ (l : List Int), (∀ x ∈ l, 0 ≤ x) → l.Pairwise (· < ·) → (l.filter fun t : Int => decide (t.toNat = j)).length ≤ 1
  | [], _, _ => by simp
  | x :: l, h0, hp => by
    rw [List.pairwise_cons] at hp
    have ih := eq_le_one (j := j) l (fun y hy => h0 y (List.mem_cons_of_mem _ hy)) hp.2
    rw [List.filter_cons]
    split
    · rename_i hx
      have hx' : x.toNat = j := by simpa using hx
      have : (l.filter fun t : Int => decide (t.toNat = j)) = [] := by
        rw [List.filter_eq_nil_iff]
        intro y hy
        have := hp.1 y hy
        have := h0 x (List.mem_cons_self ..)
        simp
        omega
      rw [this]; simp
    · exact ih
theorem tms_up {K B T F d : Int} (h : Drm K B T F) (h2 : d < B) : (tms K B T F d).Pairwise (· < ·) := by
  have key : ∀ n : Nat, n ≤ d.toNat → (tmsN K B T F d n).Pairwise (· < ·) ∧ ∀ x ∈ tmsN K B T F d n, ∀ m : Nat, n ≤ m → m < d.toNat → x < tm K B T F d m := by
    intro n
    induction n with
    | zero => intro _; simp [tmsN]
    | succ n ih =>
      intro hn
      obtain ⟨i1, i2⟩ := ih (by omega)
      rw [tmsN_succ]
      have step : ∀ k : Nat, n + k + 1 < d.toNat → tm K B T F d (n : Int) < tm K B T F d ((n + k + 1 : Nat) : Int) := by
        intro k
        induction k with
        | zero => intro hk; have := tm_mono h (k := (n : Int)) (by omega) (by omega) h2; exact_mod_cast this
        | succ k ihk =>
          intro hk
          have a := ihk (by omega)
          have b := tm_mono h (k := ((n + k + 1 : Nat) : Int)) (by omega) (by omega) h2
          have : ((n + k + 1 : Nat) : Int) + 1 = ((n + (k + 1) + 1 : Nat) : Int) := by omega
          rw [this] at b
          omega
      refine ⟨List.pairwise_append.2 ⟨i1, by simp, ?_⟩, ?_⟩
      · intro x hx y hy
        have : y = tm K B T F d (n : Int) := by simpa using hy
        rw [this]; exact i2 x hx n (Nat.le_refl _) (by omega)
      · intro x hx m h1 h3
        rcases List.mem_append.1 hx with hx | hx
        · exact i2 x hx m (by omega) h3
        · have : x = tm K B T F d (n : Int) := by simpa using hx
          rw [this]
          have := step (m - (n + 1)) (by omega)
          rwa [show n + (m - (n + 1)) + 1 = m by omega] at this
  exact (key _ (Nat.le_refl _)).1
/-- No time has more steps than there are wheels. -/
theorem cnt_wheels {K B T F : Int} {ds : List Int} (h : Drm K B T F) (hd : ∀ d ∈ ds, d < B) (j : Nat) : nth (cntR K B T F ds) j ≤ ds.length := by
  unfold cntR cntT
  rw [bumps_nth (T := T) _ _ (fun t ht => by have := allT_mem h hd ht; omega) (by rw [List.length_replicate]; omega), rep_nth]
  have key : ∀ es : List Int, (∀ d ∈ es, d < B) → ((allT K B T F es).filter fun t : Int => decide (t.toNat = j)).length ≤ es.length := by
    intro es
    induction es with
    | nil => intro _; simp [allT]
    | cons e es ih =>
      intro he
      have e1 : allT K B T F (e :: es) = tms K B T F e ++ allT K B T F es := by simp [allT]
      have e2 := ih (fun x hx => he x (List.mem_cons_of_mem _ hx))
      have e3 := eq_le_one (j := j) (tms K B T F e) (fun x hx => by have := tms_mem h (he e (List.mem_cons_self ..)) hx; omega) (tms_up h (he e (List.mem_cons_self ..)))
      rw [e1, List.filter_append, List.length_append, List.length_cons]
      omega
  have := key ds hd
  omega
end Go.Proofs.YtcfpfhlgcfmioaaDoor

/- F6 -/
namespace Go.Proofs.YtcfpfhlgcfmioaaDoor
open Go.RowKit

theorem f6big_any (a : Option Addr) (n c : Nat) (w : World) (hn : n ≤ 9223372036854775807) :
    Calls Tryd.prog 4 #[.slice a n c] w fun e w' => e = .returned (.bool (decide (4096 < n))) ∧ w' = w := by
  go_enter Tryd.func4, Tryd.ntmps4
  go_wp2
  go_ret
  exact ⟨ret_bool (by simp; omega), rfl⟩
set_option maxHeartbeats 1000000 in
theorem f6texts_any (a b : Option Addr) (c d : Nat) (xs ys : List ByteArray) (w : World) (ha : RdF textF w a xs) (hb : RdF textF w b ys) :
    Calls Tryd.prog 22 #[.slice a xs.length c, .slice b ys.length d] w fun e w' => e = .returned (.bool (decide (xs = ys))) ∧ Below w.heap.size w w' := by
  have hx1 := ha.len
  have hy1 := hb.len
  by_cases hl : xs.length = ys.length
  · have ht : ((xs.length : Int) != (ys.length : Int)) = false := by simp [hl]
    have HL := Lib.hid hl
    clear hl
    go_enter Tryd.func22, Tryd.ntmps22
    go_wp2
    go_loopw [5] (fun i wr => ∃ k n : Nat, k ≤ xs.length ∧ i = .int .i64 k ∧ wr = w.drewN n ∧ Hid (xs.take k = ys.take k)) (fun i _ => xs.length - (intOf i).toNat)
    case atStart => exact ⟨0, 0, Nat.zero_le _, rfl, rfl, Lib.hid (by simp)⟩
    case round =>
      obtain ⟨k, n, hk, rfl, rfl, HT⟩ := hrel
      by_cases hlt : k < xs.length
      · have hlt' : k < ys.length := by rw [← HL.out]; exact hlt
        obtain ⟨b1, o1, rfl, hc1⟩ := ha.atT hlt
        obtain ⟨b2, o2, rfl, hc2⟩ := hb.atT hlt'
        by_cases he : elt textF xs k = elt textF ys k
        · have hbe := str_eqB he
          have HE := Lib.hid he
          clear he
          go_wp2
          go_quiet (fail)
          go_wp2
          go_roundw
          case rel => exact ⟨k + 1, _, by omega, by go_num, rfl, Lib.hid (takeE_snoc (F := textF) hlt HL.out HT.out HE.out)⟩
          case measure => (simp [intOf]) <;> omega
        · have hbe := str_neB he
          have HE := Lib.hid he
          clear he
          go_wp2
          go_quiet (fail)
          go_wp2
          go_ret
          exact ⟨ret_bool (decide_eq_false (neE_of_at HE.out)).symm, bel_drewN (bel_drewN (Below.refl _ _) _) _⟩
      · obtain rfl : k = xs.length := by omega
        go_wp2
        go_ret
        exact ⟨ret_bool (decide_eq_true (takeE_all HL.out HT.out)).symm, bel_drewN (Below.refl _ _) _⟩
  · have ht : ((xs.length : Int) != (ys.length : Int)) = true := by simp; omega
    have HL := Lib.hid hl
    clear hl
    go_enter Tryd.func22, Tryd.ntmps22
    go_wp2
    go_ret
    exact ⟨ret_bool (decide_eq_false (by rintro rfl; exact HL.out rfl)).symm, Below.refl _ _⟩
end Go.Proofs.YtcfpfhlgcfmioaaDoor
