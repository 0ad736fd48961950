/-
  impl.BusiestTime.
-/
import Derived.Test.YtkhfbhphmdcelaaSlMax
namespace Go.Proofs.Ytkhfbhphmdcelaa
open Go.RowKit

theorem busy_bad1i {K B T F b : Int} {ds : List Int} (h : drumB K B T F = false) : busyR K B T F b ds = (0, 0, 1) := by simp [busyR, h]
theorem busy_bad2i {K B T F b : Int} {ds : List Int} (h : okB b ds = false) : busyR K B T F b ds = (0, 0, 1) := by simp [busyR, h]
theorem busy_statei {K B T F b : Int} {ds : List Int} (h : drumB K B T F = true) (h1 : okB b ds = true) (h2 : ¬ b = B) : busyR K B T F b ds = (0, 0, 6) := by simp [busyR, h, h1, h2]
theorem busy_oki {K B T F b : Int} {ds : List Int} (h : drumB K B T F = true) (h1 : okB b ds = true) (h2 : b = B) : busyR K B T F b ds = (((bestTo (cntR K B T F ds) T.toNat : Nat) : Int), nth (cntR K B T F ds) (bestTo (cntR K B T F ds) T.toNat), 0) := by subst h2; simp [busyR, h, h1]
theorem ret_threei {R : Int × Int × Int} {x y z : Int} (h : R = (x, y, z)) : Ending.returned (.tuple #[.int .i64 x, .int .i64 y, .int .i64 z]) = .returned (.tuple #[.int .i64 R.1, .int .i64 R.2.1, .int .i64 R.2.2]) := by subst h; rfl

set_option maxRecDepth 100000 in
set_option maxHeartbeats 8000000 in
theorem implBusiestTime (K B T F b : Int) (a : Option Addr) (c : Nat) (ds : List Int) (w : World) (z : I64 K ∧ I64 B ∧ I64 T ∧ I64 F) (ha : Rd w a ds) (zd : All64 ds) (bb : I64 b) :
    Calls Try.prog 56 #[.agg #[.int .i64 K, .int .i64 B, .int .i64 T, .int .i64 F], .agg #[.int .i64 b, .slice a ds.length c]] w fun e w' => e = .returned (.tuple #[.int .i64 (busyR K B T F b ds).1, .int .i64 (busyR K B T F b ds).2.1, .int .i64 (busyR K B T F b ds).2.2]) ∧ Below w.heap.size w w' := by
  have hx := ha.len
  obtain ⟨u, hu⟩ : ∃ u, u = (w.alloc (.cells #[.int .i64 K, .int .i64 B, .int .i64 T, .int .i64 F] 57)).alloc (.cells #[.int .i64 b, .slice a ds.length c] 60) := ⟨_, rfl⟩
  have bx : Bx u w.heap.size 57 #[.int .i64 K, .int .i64 B, .int .i64 T, .int .i64 F] := by rw [hu]; exact (Bx.new _ _ _).alloc _
  have br : Bx u (w.heap.size + 1) 60 #[.int .i64 b, .slice a ds.length c] := by rw [hu]; simpa using Bx.new (w.alloc (.cells #[.int .i64 K, .int .i64 B, .int .i64 T, .int .i64 F] 57)) #[.int .i64 b, .slice a ds.length c] 60
  have hbel : Below w.heap.size w u := by rw [hu]; exact (by repeat (first | exact Below.refl _ _ | refine Below.setCell ?_ (by first | omega | (simp <;> omega)) _ | refine Below.alloc ?_ (by first | omega | (simp <;> omega)) _ | refine Below.drew ?_))
  have HU := Lib.hid hu
  clear hu
  have hr := ha.below hbel
  clear ha
  have HV := Lib.hid (fun v => implValidDrum K B T F v z)
  have HO := Lib.hid (fun v (hv : Rd v a ds) => implValidRegister b a c ds v hv zd bb)
  clear z zd bb
  cases hb : drumB K B T F with
  | false =>
    have HR := Lib.hid (busy_bad1i (b := b) (ds := ds) hb)
    rw [hb] at HV
    clear hb
    have c0 := bx.at_ 0 rfl
    have c1 := bx.at_ 1 rfl
    have c2 := bx.at_ 2 rfl
    have c3 := bx.at_ 3 rfl
    have r0 := br.at_ 0 rfl
    have r1 := br.at_ 1 rfl
    go_enter Try.func56, Try.ntmps56
    go_wp2_with fail
    rw [← HU.out]
    refine (HV.out _).mono ?_
    rintro e w1 ⟨rfl, hb1⟩
    clear c0 c1 c2 c3 r0 r1
    replace bx := bx.below hb1
    replace br := br.below hb1
    replace hr := hr.below hb1
    replace hbel := hbel.trans (hb1.mono hbel.size)
    clear hb1
    have c0 := bx.at_ 0 rfl
    have c1 := bx.at_ 1 rfl
    have c2 := bx.at_ 2 rfl
    have c3 := bx.at_ 3 rfl
    have r0 := br.at_ 0 rfl
    have r1 := br.at_ 1 rfl
    go_wp2
    refine bodyPost_ret (v := .tuple #[.int .i64 0, .int .i64 0, .int .i64 1]) (by simp [results, Try.results56, go_sem]) rfl ⟨ret_threei HR.out, hbel⟩
  | true =>
    rw [hb] at HV
    cases ho : okB b ds with
    | false =>
      have HR := Lib.hid (busy_bad2i (K := K) (B := B) (T := T) (F := F) ho)
      rw [ho] at HO
      clear hb ho
      have c0 := bx.at_ 0 rfl
      have c1 := bx.at_ 1 rfl
      have c2 := bx.at_ 2 rfl
      have c3 := bx.at_ 3 rfl
      have r0 := br.at_ 0 rfl
      have r1 := br.at_ 1 rfl
      go_enter Try.func56, Try.ntmps56
      go_wp2_with fail
      rw [← HU.out]
      refine (HV.out _).mono ?_
      rintro e w1 ⟨rfl, hb1⟩
      clear c0 c1 c2 c3 r0 r1
      replace bx := bx.below hb1
      replace br := br.below hb1
      replace hr := hr.below hb1
      replace hbel := hbel.trans (hb1.mono hbel.size)
      clear hb1
      have c0 := bx.at_ 0 rfl
      have c1 := bx.at_ 1 rfl
      have c2 := bx.at_ 2 rfl
      have c3 := bx.at_ 3 rfl
      have r0 := br.at_ 0 rfl
      have r1 := br.at_ 1 rfl
      go_wp2_with fail
      refine (HO.out _ hr).mono ?_
      rintro e w2 ⟨rfl, hb2⟩
      clear c0 c1 c2 c3 r0 r1
      replace bx := bx.below hb2
      replace br := br.below hb2
      replace hr := hr.below hb2
      replace hbel := hbel.trans (hb2.mono hbel.size)
      clear hb2
      have c0 := bx.at_ 0 rfl
      have c1 := bx.at_ 1 rfl
      have c2 := bx.at_ 2 rfl
      have c3 := bx.at_ 3 rfl
      have r0 := br.at_ 0 rfl
      have r1 := br.at_ 1 rfl
      go_wp2
      refine bodyPost_ret (v := .tuple #[.int .i64 0, .int .i64 0, .int .i64 1]) (by simp [results, Try.results56, go_sem]) rfl ⟨ret_threei HR.out, hbel⟩
    | true =>
      rw [ho] at HO
      by_cases he : b = B
      · have HR := Lib.hid (busy_oki hb ho he)
        have HD := Lib.hid (drm_of hb)
        have HS := Lib.hid (okB_spec ho)
        have hq : (b != B) = false := by simp [he]
        have hT1 : 2 ≤ T := by have := HD.out.b1; have := HD.out.t1; omega
        have hT2 := HD.out.t2
        have HB := Lib.hid (show ∀ d ∈ ds, 0 ≤ d ∧ d < B by rw [← he]; exact HS.out.2.2.2.2.1)
        have hl16 := HS.out.2.2.2.1
        have HE := Lib.hid he
        clear hb ho he
        obtain ⟨N, rfl⟩ := Int.eq_ofNat_of_zero_le (show 0 ≤ T by omega)
        have hTN : ((N : Int)).toNat = N := by omega
        rw [hTN] at HR
        clear hTN
        have hw1 : IntKind.i64.wrap ((N : Int) + 1) = (N : Int) + 1 := IntWalk.i64_in _ (by omega)
        have c0 := bx.at_ 0 rfl
        have c1 := bx.at_ 1 rfl
        have c2 := bx.at_ 2 rfl
        have c3 := bx.at_ 3 rfl
        have r0 := br.at_ 0 rfl
        have r1 := br.at_ 1 rfl
        go_enter Try.func56, Try.ntmps56
        go_wp2_with fail
        rw [← HU.out]
        refine (HV.out _).mono ?_
        rintro e w1 ⟨rfl, hb1⟩
        clear c0 c1 c2 c3 r0 r1
        replace bx := bx.below hb1
        replace br := br.below hb1
        replace hr := hr.below hb1
        replace hbel := hbel.trans (hb1.mono hbel.size)
        clear hb1
        have c0 := bx.at_ 0 rfl
        have c1 := bx.at_ 1 rfl
        have c2 := bx.at_ 2 rfl
        have c3 := bx.at_ 3 rfl
        have r0 := br.at_ 0 rfl
        have r1 := br.at_ 1 rfl
        go_wp2_with fail
        refine (HO.out _ hr).mono ?_
        rintro e w2 ⟨rfl, hb2⟩
        clear c0 c1 c2 c3 r0 r1
        replace bx := bx.below hb2
        replace br := br.below hb2
        replace hr := hr.below hb2
        replace hbel := hbel.trans (hb2.mono hbel.size)
        clear hb2
        have c0 := bx.at_ 0 rfl
        have c1 := bx.at_ 1 rfl
        have c2 := bx.at_ 2 rfl
        have c3 := bx.at_ 3 rfl
        have r0 := br.at_ 0 rfl
        have r1 := br.at_ 1 rfl
        go_wp2_with (at_make; refine wpList_makeI rfl (.tmp 28) (.tmp 28) 58 2 rfl Try.underlying58 info_int64 (N + 1) (by rw [show ((N + 1 : Nat) : Int) = (N : Int) + 1 by omega]; rfl) (by rw [show ((N + 1 : Nat) : Int) = (N : Int) + 1 by omega]; rfl) (by omega) ?_; intro w3 hown3 hb3; have r1m := (br.below hb3).at_ 1 rfl)
        obtain ⟨G, hG⟩ : ∃ G, G = w2.heap.size := ⟨_, rfl⟩
        rw [← hG] at hown3 ⊢
        have hGw : w.heap.size + 1 < G := by rw [hG]; exact br.lt
        have hwG : w.heap.size ≤ w2.heap.size := hbel.size
        have hG3 := hown3.block
        replace hown3 : Own 2 w3 G (G + 1) (.slice (some ⟨G, 0, none⟩) (N + 1) (N + 1)) (cntT K B N F (allT K B N F (ds.take 0))) := by
          have e : cntT K B N F (allT K B N F (ds.take 0)) = pad (N + 1) [] := by simp [cntT, allT, pad]
          rw [e]; exact ⟨hown3.row, fun k hk => by simp [Value.ownBlock] at hk; omega, hown3.len⟩
        have HG := Lib.hid hG
        clear hG hq c0 c1 c2 c3 r0 r1 hw1
        have c1 := (bx.below hb3).at_ 1 rfl
        have c2 := (bx.below hb3).at_ 2 rfl
        have r1 := (br.below hb3).at_ 1 rfl
        go_loopw [9, 33] (fun _ i wr => ∃ k : Nat, k ≤ ds.length ∧ i = .int .i64 k ∧ Own 2 wr G (G + 1) (.slice (some ⟨G, 0, none⟩) (N + 1) (N + 1)) (cntT K B N F (allT K B N F (ds.take k))) ∧ Below w2.heap.size w2 wr) (fun _ i _ => ds.length - (intOf i).toNat)
        case atStart => exact ⟨0, Nat.zero_le _, rfl, hown3, hb3⟩
        case round =>
          clear hown3 hG3 c1 c2 r1
          obtain ⟨k, hk, rfl, hown, hb⟩ := hrel
          have hG4 := hown.block
          have bx4 := bx.below hb
          have br4 := br.below hb
          have hr4 := hr.below hb
          have c0 := bx4.at_ 0 rfl
          have c1 := bx4.at_ 1 rfl
          have c2 := bx4.at_ 2 rfl
          have c3 := bx4.at_ 3 rfl
          have r1 := br4.at_ 1 rfl
          by_cases hlt : k < ds.length
          · have hmem : nth ds k ∈ ds := by rw [nth_get hlt]; exact List.getElem_mem hlt
            obtain ⟨p, off, rfl, hc⟩ := hr4.at_ hlt
            obtain ⟨n, hn⟩ := Int.eq_ofNat_of_zero_le (HB.out _ hmem).1
            have hn16 : n < 16 := by have := (HB.out _ hmem).2; have := HD.out.b2; omega
            have HT := Lib.hid (show allT K B N F (ds.take (k + 1)) = allT K B N F (ds.take k) ++ tms K B N F n by rw [take_snocI hlt, allT_snoc, hn])
            rw [hn] at hc hmem
            clear hn
            go_wp2_with fail
            refine (stepTimes_any K B N F n _ HD.out (by omega) (HB.out _ hmem).2).mono ?_
            rintro e w4 ⟨A, C, rfl, own4, hb4⟩
            rw [show ((n : Int)).toNat = n by omega] at own4 ⊢
            obtain ⟨L, hL⟩ : ∃ L, L = wr.heap.size := ⟨_, rfl⟩
            obtain ⟨H, hH⟩ : ∃ H, H = w4.heap.size := ⟨_, rfl⟩
            rw [← hL, ← hH] at own4
            have hGL : G < L := by omega
            replace hown := hown.below hb4
            have hb5 := hb.trans (hb4.mono hb.size)
            have HLn := Lib.hid (show (tms K B N F n).length = n by rw [tms_len]; omega)
            clear c0 c1 c2 c3 r1 hb4 hL hH hc bx4 br4 hr4 hb hG4
            go_wp2_with fail
            go_loopw [11, 41] (fun _ i wr => ∃ j : Nat, j ≤ n ∧ i = .int .i64 j ∧ Own 2 wr G (G + 1) (.slice (some ⟨G, 0, none⟩) (N + 1) (N + 1)) (cntT K B N F (allT K B N F (ds.take k) ++ (tms K B N F n).take j)) ∧ Own 2 wr L H (.slice A n C) (tms K B N F n) ∧ Below w2.heap.size w2 wr) (fun _ i _ => n - (intOf i).toNat)
            case atStart => exact ⟨0, Nat.zero_le _, rfl, by rw [List.take_zero, List.append_nil]; exact hown, own4, hb5⟩
            case round =>
              clear hown own4 hb5
              obtain ⟨j, hj, rfl, hown, own4, hb5⟩ := hrel
              by_cases hjn : j < n
              · have hjl : j < (tms K B N F n).length := by rw [HLn.out]; exact hjn
                obtain ⟨p2, off2, rfl, hc2⟩ := own4.rd.at_ hjl
                have htb := tms_bd HD.out (HB.out _ hmem).2 (k := j) (by omega)
                have HT2 := Lib.hid (take_snocI hjl)
                obtain ⟨t, ht⟩ := Int.eq_ofNat_of_zero_le (show 0 ≤ nth (tms K B N F n) j by omega)
                rw [ht] at hc2 HT2 htb
                clear ht
                have htN : t < N + 1 := by omega
                have hgg := hown.block
                have hgt := hown.get (j := t) (by rw [cntT_len]; omega)
                have hth := hown.thaw t
                have hcb := cnt_bd (K := K) (B := B) (T := N) (F := F) (ts := allT K B N F (ds.take k) ++ (tms K B N F n).take j) (fun x hx => by
                  rcases List.mem_append.1 hx with hx | hx
                  · exact allT_mem HD.out (fun d hd => (HB.out d (List.mem_of_mem_take hd)).2) hx
                  · exact tms_mem HD.out (HB.out _ hmem).2 (List.mem_of_mem_take hx)) t
                have hln : (allT K B N F (ds.take k) ++ (tms K B N F n).take j).length ≤ 1000 := by
                  have h1 := allT_len (K := K) (B := B) (T := N) (F := F) (ds := ds.take k) (fun d hd => by have := (HB.out d (List.mem_of_mem_take hd)).2; have := HD.out.b2; omega)
                  have h2 : (ds.take k).length ≤ 16 := by rw [List.length_take]; omega
                  have h3 : ((tms K B N F n).take j).length ≤ 16 := by rw [List.length_take, HLn.out]; omega
                  rw [List.length_append]; omega
                obtain ⟨y, hy⟩ : ∃ y, y = nth (cntT K B N F (allT K B N F (ds.take k) ++ (tms K B N F n).take j)) t := ⟨_, rfl⟩
                rw [← hy] at hgt hcb
                have hy1 : 0 ≤ y ∧ y ≤ 1000 := by omega
                have HP := Lib.hid (show Own 2 (wr.setCell ⟨G, t, none⟩ (.int .i64 (y + 1))) G (G + 1) (.slice (some ⟨G, 0, none⟩) (N + 1) (N + 1)) (cntT K B N F (allT K B N F (ds.take k) ++ (tms K B N F n).take (j + 1))) by
                  have e := hown.put t (y + 1)
                  rw [HT2.out, ← List.append_assoc, cntT_snoc]
                  unfold bump
                  rw [Int.toNat_natCast, ← hy]; exact e)
                have HQ := Lib.hid (own4.setCell (p := ⟨G, t, none⟩) (.inl hGL) (.int .i64 (y + 1)))
                have HZ := Lib.hid (hb5.setCell (p := ⟨G, t, none⟩) (by have := HG.out; simp; omega) (.int .i64 (y + 1)))
                clear hy hcb hln hown own4 hb5 htb
                go_wp2
                go_roundw
                case rel => exact ⟨j + 1, by omega, by go_num, HP.out, HQ.out, HZ.out⟩
                case measure => (simp [intOf]) <;> omega
              · obtain rfl : j = n := by omega
                have e : (tms K B N F j).take j = tms K B N F j := List.take_of_length_le (by rw [HLn.out]; exact Nat.le_refl _)
                rw [e, ← HT.out] at hown
                clear e
                go_wp2
                go_roundw
                case rel => exact ⟨k + 1, by omega, by go_num, hown, hb5⟩
                case measure => (simp [intOf]) <;> omega
          · obtain rfl : k = ds.length := by omega
            rw [List.take_of_length_le (Nat.le_refl _)] at hown
            have HLn := Lib.hid (cntT_len K B N F (allT K B N F ds))
            have hfin := hbel.trans (hb.mono hwG)
            have HM := Lib.hid (fun v (hv : Rd v (some ⟨G, 0, none⟩) (cntR K B N F ds)) => slicesMax_any _ (N + 1) N _ v hv HLn.out)
            have HI := Lib.hid (fun v (hv : Rd v (some ⟨G, 0, none⟩) (cntR K B N F ds)) => slicesIndex_any _ (N + 1) N _ v hv HLn.out)
            have hrd := hown.rd
            clear c0 c1 c2 c3 r1 hown hlt
            go_wp2_with fail
            refine (HM.out _ hrd).mono ?_
            rintro e w4 ⟨rfl, hq4⟩
            subst hq4
            go_wp2_with fail
            refine (HI.out _ hrd).mono ?_
            rintro e w5 ⟨rfl, hq5⟩
            subst hq5
            go_wp2
            refine bodyPost_ret (v := .tuple #[.int .i64 (bestTo (cntR K B N F ds) N : Nat), .int .i64 (nth (cntR K B N F ds) (bestTo (cntR K B N F ds) N)), .int .i64 0]) (by simp [results, Try.results56, go_sem]) rfl ⟨ret_threei HR.out, hfin⟩
      · have HR := Lib.hid (busy_statei hb ho he)
        have hq : (b != B) = true := by simp; omega
        clear hb ho he
        have c0 := bx.at_ 0 rfl
        have c1 := bx.at_ 1 rfl
        have c2 := bx.at_ 2 rfl
        have c3 := bx.at_ 3 rfl
        have r0 := br.at_ 0 rfl
        have r1 := br.at_ 1 rfl
        go_enter Try.func56, Try.ntmps56
        go_wp2_with fail
        rw [← HU.out]
        refine (HV.out _).mono ?_
        rintro e w1 ⟨rfl, hb1⟩
        clear c0 c1 c2 c3 r0 r1
        replace bx := bx.below hb1
        replace br := br.below hb1
        replace hr := hr.below hb1
        replace hbel := hbel.trans (hb1.mono hbel.size)
        clear hb1
        have c0 := bx.at_ 0 rfl
        have c1 := bx.at_ 1 rfl
        have c2 := bx.at_ 2 rfl
        have c3 := bx.at_ 3 rfl
        have r0 := br.at_ 0 rfl
        have r1 := br.at_ 1 rfl
        go_wp2_with fail
        refine (HO.out _ hr).mono ?_
        rintro e w2 ⟨rfl, hb2⟩
        clear c0 c1 c2 c3 r0 r1
        replace bx := bx.below hb2
        replace br := br.below hb2
        replace hr := hr.below hb2
        replace hbel := hbel.trans (hb2.mono hbel.size)
        clear hb2
        have c0 := bx.at_ 0 rfl
        have c1 := bx.at_ 1 rfl
        have c2 := bx.at_ 2 rfl
        have c3 := bx.at_ 3 rfl
        have r0 := br.at_ 0 rfl
        have r1 := br.at_ 1 rfl
        go_wp2
        refine bodyPost_ret (v := .tuple #[.int .i64 0, .int .i64 0, .int .i64 6]) (by simp [results, Try.results56, go_sem]) rfl ⟨ret_threei HR.out, hbel⟩
end Go.Proofs.Ytkhfbhphmdcelaa
