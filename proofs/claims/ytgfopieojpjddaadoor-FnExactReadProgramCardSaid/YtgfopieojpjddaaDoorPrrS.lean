/-
  CheckProgram, ReadProgram, in the model: l11Line, l11Read.
-/
import Derived.Test.YtgfopieojpjddaaDoorPlnS
import Derived.Test.YtgfopieojpjddaaDoorSplitS
import Derived.Test.YtgfopieojpjddaaDoorReadS
import Derived.Test.YtgfopieojpjddaaDoorInstrS
namespace Go.Proofs.YtgfopieojpjddaaDoor
open Go.RowKit

theorem splitF_sizeP {s : ByteArray} {c : UInt8} : ∀ (n i f : Nat), ∀ x ∈ splitGo s c n i f, x.size ≤ s.size
  | 0, i, f, x, hx => by
    rw [splitGo, List.mem_singleton] at hx
    subst hx
    (simp) <;> omega
  | n + 1, i, f, x, hx => by
    rw [splitGo] at hx
    split at hx
    · rcases List.mem_cons.1 hx with rfl | hx
      · (simp) <;> omega
      · exact splitF_sizeP n _ _ x hx
    · exact splitF_sizeP n _ _ x hx
/-- The model's search for a word. -/
theorem opT_step {s : ByteArray} {k : Nat} : opT s (k + 1) = if wdO (k + 1) = s then k + 1 else opT s k := by
  rw [opT]

set_option maxRecDepth 100000 in
set_option maxHeartbeats 8000000 in
theorem l11Line_any (s : ByteArray) (w : World) (hs : s.size ≤ 1048576) :
    Calls Tryd.prog 111 #[.string s] w fun e w' => e = .returned (.tuple #[.agg #[.int .i64 (lnR s).1.1, .int .i64 (lnR s).1.2], .int .i64 (lnR s).2]) ∧ Below w.heap.size w w' := by
  obtain ⟨V, hV⟩ : ∃ V, V = w.alloc (.cells #[.int .i64 0, .int .i64 0] 83) := ⟨_, rfl⟩
  have bx : Bx V w.heap.size 83 #[.int .i64 0, .int .i64 0] := by rw [hV]; exact Bx.new _ _ _
  have hbV : Below w.heap.size w V := by rw [hV]; exact (Below.refl _ _).alloc (Nat.le_refl _) _
  have c1 := l01Split_any s 32 V hs
  rw [show ((32 : UInt8).toNat : Int) = 32 from rfl] at c1
  have HR := Lib.hid (show lnR s = lnL (splitL s 32) from rfl)
  have HZ := Lib.hid (show ∀ x ∈ splitL s 32, x.size ≤ s.size from splitF_sizeP _ _ _)
  have hL := splitL_len s 32
  have hL1 : 1 ≤ (splitL s 32).length := splitGo_pos _ _ _
  obtain ⟨L, eL⟩ : ∃ L, L = splitL s 32 := ⟨_, rfl⟩
  rw [← eL] at c1 HR HZ hL hL1
  clear eL
  obtain ⟨H, R, rfl⟩ : ∃ h r, L = h :: r := by
    match L, hL1 with
    | h :: r, _ => exact ⟨h, r, rfl⟩
  have HV := Lib.hid hV
  clear hV hL1
  go_enter Tryd.func111, Tryd.ntmps111
  go_wp2_with fail
  rw [← HV.out]
  refine c1.mono ?_
  rintro e w1 ⟨A, C, rfl, ow, hb⟩
  obtain ⟨g, rfl, hg1, hg2, hg3⟩ := ow.head (by simp)
  replace bx := bx.below hb
  have hb1 := hbV.trans (hb.mono hbV.size)
  have t0 : w1.cell? ⟨g, 0, none⟩ = some (.string H) := ow.getT (k := 0) (by simp)
  have HT1 := Lib.hid (show ∀ t r, R = t :: r → w1.cell? ⟨g, 1, none⟩ = some (.string t) from fun t r h => by
    have := ow.getT (k := 1) (by rw [h]; simp)
    rw [h] at this
    exact this)
  have hRl : R.length + 1 ≤ s.size + 1 := by simpa using hL
  clear ow hb HV hbV c1 hg1 hg2 hL
  go_wp2_with fail
  refine (words_any w1).mono ?_
  rintro e w2 ⟨rfl, hq⟩
  have hb2 : Below w1.heap.size w1 w2 := by rw [hq]; exact (Below.refl _ _).alloc (Nat.le_refl _) _
  have HW := Lib.hid (show ∀ k, k < 10 → w2.cell? ⟨w1.heap.size, k, none⟩ = some (.string (wdO (k + 1))) from fun k hk => by rw [hq]; exact (Bx.new w1 wdC 9).at_ k (wdC_at hk))
  clear hq
  replace bx := bx.below hb2
  replace hb1 := hb1.trans (hb2.mono hb1.size)
  replace t0 := kept hb2 t0
  replace HT1 := Lib.hid (fun t r h => kept hb2 (HT1.out t r h))
  clear hb2
  go_wp2
  have hg2 : w1.heap.size < w2.heap.size := World.block_lt_of_cell? _ _ (HW.out 0 (by omega))
  go_loopw [6, 7] (fun q i wr => ∃ k : Nat, k ≤ 10 ∧ i = .int .i64 k ∧ q = .int .i64 (opT H k : Nat) ∧ Below w2.heap.size w2 wr) (fun _ i _ => 10 - (intOf i).toNat)
  case atStart => exact ⟨0, by omega, rfl, rfl, Below.refl _ _⟩
  case round =>
    obtain ⟨k, hk, rfl, rfl, hbr⟩ := hrel
    have u0 := kept hbr t0
    by_cases hlt : k < 10
    · have u1 := kept hbr (HW.out k hlt)
      have HS := Lib.hid (opT_step (s := H) (k := k))
      generalize wdO (k + 1) = W at *
      by_cases he : W = H
      · have e1 := str_eqB he
        have HN := Lib.hid (HS.out.trans (if_pos he))
        clear he HS
        go_wp2
        go_quiet (fail)
        go_wp2
        go_roundw
        case rel => exact ⟨k + 1, by omega, by go_num, by rw [HN.out]; go_num, bel_drewN hbr _⟩
        case measure => (simp [intOf]) <;> omega
      · have e1 := str_neB he
        have HN := Lib.hid (HS.out.trans (if_neg he))
        clear he HS
        go_wp2
        go_quiet (fail)
        go_wp2
        go_roundw
        case rel => exact ⟨k + 1, by omega, by go_num, by rw [HN.out], bel_drewN hbr _⟩
        case measure => (simp [intOf]) <;> omega
    · obtain rfl : k = 10 := by omega
      replace bx := bx.below hbr
      replace hb1 := hb1.trans (hbr.mono hb1.size)
      replace HT1 := Lib.hid (fun t r h => kept hbr (HT1.out t r h))
      have f0 := bx.thaw 0
      have f1 := bx.thaw 1
      have c0 := bx.at_ 0 rfl
      have c1 := bx.at_ 1 rfl
      clear hbr HW u0 t0
      have hsz := bx.lt
      by_cases h0 : opT H 10 = 0
      · have HF := Lib.hid (HR.out.trans (lnL_word h0))
        rw [h0]
        go_wp2
        exact bodyPost_ret (v := .tuple #[.agg #[.int .i64 0, .int .i64 0], .int .i64 1]) (by simp [results, Tryd.results111, go_sem, c0, c1]) rfl ⟨by rw [HF.out] <;> rfl, (by repeat (first | exact hb1 | refine Below.setCell ?_ (by first | omega | (simp <;> omega)) _ | refine Below.alloc ?_ (by first | omega | (simp <;> omega)) _ | refine Below.drew ?_))⟩
      · have hle := opT_le H 10
        rcases R with _ | ⟨T, R2⟩
        · have HL := Lib.hid (HR.out.trans (lnL_one h0))
          clear HR HZ HT1
          have hn0 : ¬ ((opT H 10 : Nat) : Int) = 0 := by omega
          clear h0
          generalize opT H 10 = o at *
          have HI := Lib.hid (fun (W : World) => l00In_any (o : Int) 2 5 W)
          by_cases h1 : (o : Int) = 1
          · obtain rfl : o = 1 := by omega
            have HF := Lib.hid (HL.out.trans (lnW_no (.inl (by decide))))
            rw [show inB ((1 : Nat) : Int) 2 5 = false by decide] at HI
            clear HL
            go_wp2_with (go_at_call 69; refine (HI.out _).mono ?_; rintro e w5 ⟨rfl, hq⟩; subst w5)
            exact bodyPost_ret (v := .tuple #[.agg #[.int .i64 0, .int .i64 0], .int .i64 2]) (by simp [results, Tryd.results111, go_sem, c0, c1, hsz]) rfl ⟨by rw [HF.out] <;> rfl, (by repeat (first | exact hb1 | refine Below.setCell ?_ (by first | omega | (simp <;> omega)) _ | refine Below.alloc ?_ (by first | omega | (simp <;> omega)) _ | refine Below.drew ?_))⟩
          · cases hi : inB (o : Int) 2 5 with
            | true =>
              have HL1 := Lib.hid (show lnR s = lnW (o : Int) 1 (decide (¬ (o : Int) = 1)) by rw [HL.out, impN, hi, if_pos rfl])
              have HA := Lib.hid (fun (W : World) => l11Arg_any (o : Int) 1 W)
              rw [hi] at HI
              clear HL hi
              cases ha : argB (o : Int) 1 with
              | false =>
                have HF := Lib.hid (HL1.out.trans (lnW_no (.inr ha)))
                rw [ha] at HA
                clear ha
                go_wp2_with (first | (go_at_call 69; refine (HI.out _).mono ?_; rintro e w5 ⟨rfl, hq⟩; subst w5) | (go_at_call 115; refine (HA.out _).mono ?_; rintro e w5 ⟨rfl, hq⟩; subst w5))
                exact bodyPost_ret (v := .tuple #[.agg #[.int .i64 0, .int .i64 0], .int .i64 2]) (by simp [results, Tryd.results111, go_sem, c0, c1, hsz]) rfl ⟨by rw [HF.out] <;> rfl, (by repeat (first | exact hb1 | refine Below.setCell ?_ (by first | omega | (simp <;> omega)) _ | refine Below.alloc ?_ (by first | omega | (simp <;> omega)) _ | refine Below.drew ?_))⟩
              | true =>
                have HF := Lib.hid (HL1.out.trans (lnW_ok (decide_eq_true h1) ha))
                rw [ha] at HA
                clear ha
                go_wp2_with (first | (go_at_call 69; refine (HI.out _).mono ?_; rintro e w5 ⟨rfl, hq⟩; subst w5) | (go_at_call 115; refine (HA.out _).mono ?_; rintro e w5 ⟨rfl, hq⟩; subst w5))
                exact bodyPost_ret (v := .tuple #[.agg #[.int .i64 (o : Int), .int .i64 1], .int .i64 0]) (by simp [results, Tryd.results111, go_sem, c0, c1, hsz]) rfl ⟨by rw [HF.out] <;> rfl, (by repeat (first | exact hb1 | refine Below.setCell ?_ (by first | omega | (simp <;> omega)) _ | refine Below.alloc ?_ (by first | omega | (simp <;> omega)) _ | refine Below.drew ?_))⟩
            | false =>
              have HL1 := Lib.hid (show lnR s = lnW (o : Int) 0 (decide (¬ (o : Int) = 1)) by rw [HL.out, impN, hi, if_neg (by simp)])
              have HA := Lib.hid (fun (W : World) => l11Arg_any (o : Int) 0 W)
              rw [hi] at HI
              clear HL hi
              cases ha : argB (o : Int) 0 with
              | false =>
                have HF := Lib.hid (HL1.out.trans (lnW_no (.inr ha)))
                rw [ha] at HA
                clear ha
                go_wp2_with (first | (go_at_call 69; refine (HI.out _).mono ?_; rintro e w5 ⟨rfl, hq⟩; subst w5) | (go_at_call 115; refine (HA.out _).mono ?_; rintro e w5 ⟨rfl, hq⟩; subst w5))
                exact bodyPost_ret (v := .tuple #[.agg #[.int .i64 0, .int .i64 0], .int .i64 2]) (by simp [results, Tryd.results111, go_sem, c0, c1, hsz]) rfl ⟨by rw [HF.out] <;> rfl, (by repeat (first | exact hb1 | refine Below.setCell ?_ (by first | omega | (simp <;> omega)) _ | refine Below.alloc ?_ (by first | omega | (simp <;> omega)) _ | refine Below.drew ?_))⟩
              | true =>
                have HF := Lib.hid (HL1.out.trans (lnW_ok (decide_eq_true h1) ha))
                rw [ha] at HA
                clear ha
                go_wp2_with (first | (go_at_call 69; refine (HI.out _).mono ?_; rintro e w5 ⟨rfl, hq⟩; subst w5) | (go_at_call 115; refine (HA.out _).mono ?_; rintro e w5 ⟨rfl, hq⟩; subst w5))
                exact bodyPost_ret (v := .tuple #[.agg #[.int .i64 (o : Int), .int .i64 0], .int .i64 0]) (by simp [results, Tryd.results111, go_sem, c0, c1, hsz]) rfl ⟨by rw [HF.out] <;> rfl, (by repeat (first | exact hb1 | refine Below.setCell ?_ (by first | omega | (simp <;> omega)) _ | refine Below.alloc ?_ (by first | omega | (simp <;> omega)) _ | refine Below.drew ?_))⟩
        · rcases R2 with _ | ⟨T2, R3⟩
          · have HL := Lib.hid (HR.out.trans (lnL_two h0))
            have t1 := HT1.out T [] rfl
            have hT := HZ.out T (by simp)
            clear HR HZ HT1
            have hn0 : ¬ ((opT H 10 : Nat) : Int) = 0 := by omega
            clear h0
            generalize opT H 10 = o at *
            have c5 := fun W => l01Number_any T W (by omega)
            generalize rdR T = r at c5 HL
            obtain ⟨n, fine⟩ := r
            simp only at c5 HL
            have hgr := World.block_lt_of_cell? _ _ t1
            simp only at hgr
            go_wp2_with fail
            obtain ⟨U, hU⟩ : ∃ U, U = wr.alloc (.cells #[.int .i64 (o : Int), .int .i64 0] 83) := ⟨_, rfl⟩
            have hbU : Below wr.heap.size wr U := by rw [hU]; exact (Below.refl _ _).alloc (Nat.le_refl _) _
            have bo : Bx U wr.heap.size 83 #[.int .i64 (o : Int), .int .i64 0] := by rw [hU]; exact Bx.new _ _ _
            rw [← hU]
            clear hU
            refine (c5 U).mono ?_
            rintro e w6 ⟨rfl, hb6⟩
            clear c5 f0 f1 c0 c1
            have hbR := hbU.trans (hb6.mono hbU.size)
            replace bx := bx.below hbR
            replace bo := bo.below hb6
            have hne : w.heap.size ≠ wr.heap.size := by omega
            have hlo : w.heap.size < wr.heap.size := hsz
            replace hb1 := hb1.trans (hbR.mono hb1.size)
            have f0 := bx.thaw 0
            have f1 := bx.thaw 1
            have c0 := bx.at_ 0 rfl
            have c1 := bx.at_ 1 rfl
            have o0 := bo.at_ 0 rfl
            have o1 := bo.at_ 1 rfl
            have of := bo.thaw 1
            have hwl := bo.lt
            replace hsz := bx.lt
            clear hbU hb6 hbR bo t1
            cases fine with
            | false =>
              have HF := Lib.hid (HL.out.trans (lnW_no (.inl (by simp [numK]))))
              go_wp2
              exact bodyPost_ret (v := .tuple #[.agg #[.int .i64 0, .int .i64 0], .int .i64 2]) (by simp [results, Tryd.results111, go_sem, c0, c1]) rfl ⟨by rw [HF.out] <;> rfl, (by repeat (first | exact hb1 | refine Below.setCell ?_ (by first | omega | (simp <;> omega)) _ | refine Below.alloc ?_ (by first | omega | (simp <;> omega)) _ | refine Below.drew ?_))⟩
            | true =>
              by_cases g1 : (o : Int) = 1
              · obtain rfl : o = 1 := by omega
                have HK := Lib.hid (show numK ((1 : Nat) : Int) (n, true) = true by simp [numK])
                by_cases n1 : n = 1
                · subst n1
                  have HA := Lib.hid (fun (W : World) => l11Arg_any ((1 : Nat) : Int) 1 W)
                  have HF := Lib.hid (HL.out.trans (lnW_ok HK.out (by decide)))
                  rw [show argB ((1 : Nat) : Int) 1 = true by decide] at HA
                  go_wp2_with (go_at_call 115; refine (HA.out _).mono ?_; rintro e w5 ⟨rfl, hq⟩; subst w5)
                  exact bodyPost_ret (v := .tuple #[.agg #[.int .i64 1, .int .i64 1], .int .i64 0]) (by simp [results, Tryd.results111, go_sem, c0, c1]) rfl ⟨by rw [HF.out] <;> rfl, (by repeat (first | exact hb1 | refine Below.setCell ?_ (by first | omega | (simp <;> omega)) _ | refine Below.alloc ?_ (by first | omega | (simp <;> omega)) _ | refine Below.drew ?_))⟩
                · have n1b : (n != 1) = true := by simpa using n1
                  by_cases n0 : n = 0
                  · subst n0
                    have HA := Lib.hid (fun (W : World) => l11Arg_any ((1 : Nat) : Int) 0 W)
                    have HF := Lib.hid (HL.out.trans (lnW_ok HK.out (by decide)))
                    rw [show argB ((1 : Nat) : Int) 0 = true by decide] at HA
                    go_wp2_with (go_at_call 115; refine (HA.out _).mono ?_; rintro e w5 ⟨rfl, hq⟩; subst w5)
                    exact bodyPost_ret (v := .tuple #[.agg #[.int .i64 1, .int .i64 0], .int .i64 0]) (by simp [results, Tryd.results111, go_sem, c0, c1]) rfl ⟨by rw [HF.out] <;> rfl, (by repeat (first | exact hb1 | refine Below.setCell ?_ (by first | omega | (simp <;> omega)) _ | refine Below.alloc ?_ (by first | omega | (simp <;> omega)) _ | refine Below.drew ?_))⟩
                  · have n0b : (n != 0) = true := by simpa using n0
                    have HA := Lib.hid (fun (W : World) => l11Arg_any ((1 : Nat) : Int) n W)
                    cases ha : argB ((1 : Nat) : Int) n with
                    | false =>
                      have HF := Lib.hid (HL.out.trans (lnW_no (.inr ha)))
                      rw [ha] at HA
                      clear ha
                      go_wp2_with (go_at_call 115; refine (HA.out _).mono ?_; rintro e w5 ⟨rfl, hq⟩; subst w5)
                      exact bodyPost_ret (v := .tuple #[.agg #[.int .i64 0, .int .i64 0], .int .i64 2]) (by simp [results, Tryd.results111, go_sem, c0, c1]) rfl ⟨by rw [HF.out] <;> rfl, (by repeat (first | exact hb1 | refine Below.setCell ?_ (by first | omega | (simp <;> omega)) _ | refine Below.alloc ?_ (by first | omega | (simp <;> omega)) _ | refine Below.drew ?_))⟩
                    | true =>
                      have HF := Lib.hid (HL.out.trans (lnW_ok HK.out ha))
                      rw [ha] at HA
                      clear ha
                      go_wp2_with (go_at_call 115; refine (HA.out _).mono ?_; rintro e w5 ⟨rfl, hq⟩; subst w5)
                      exact bodyPost_ret (v := .tuple #[.agg #[.int .i64 1, .int .i64 n], .int .i64 0]) (by simp [results, Tryd.results111, go_sem, c0, c1]) rfl ⟨by rw [HF.out] <;> rfl, (by repeat (first | exact hb1 | refine Below.setCell ?_ (by first | omega | (simp <;> omega)) _ | refine Below.alloc ?_ (by first | omega | (simp <;> omega)) _ | refine Below.drew ?_))⟩
              · by_cases g0 : n = 0
                · subst g0
                  have HF := Lib.hid (HL.out.trans (lnW_no (.inl (by simp only [numK, decide_eq_false g1]; simp))))
                  go_wp2
                  exact bodyPost_ret (v := .tuple #[.agg #[.int .i64 0, .int .i64 0], .int .i64 2]) (by simp [results, Tryd.results111, go_sem, c0, c1]) rfl ⟨by rw [HF.out] <;> rfl, (by repeat (first | exact hb1 | refine Below.setCell ?_ (by first | omega | (simp <;> omega)) _ | refine Below.alloc ?_ (by first | omega | (simp <;> omega)) _ | refine Below.drew ?_))⟩
                · have n0b : (n != 0) = true := by simpa using g0
                  by_cases g8 : (o : Int) = 8
                  · obtain rfl : o = 8 := by omega
                    by_cases n1 : n = 1
                    · subst n1
                      have HA := Lib.hid (fun (W : World) => l11Arg_any ((8 : Nat) : Int) 1 W)
                      have HF := Lib.hid (HL.out.trans (lnW_ok (by decide) (by decide)))
                      rw [show argB ((8 : Nat) : Int) 1 = true by decide] at HA
                      go_wp2_with (go_at_call 115; refine (HA.out _).mono ?_; rintro e w5 ⟨rfl, hq⟩; subst w5)
                      exact bodyPost_ret (v := .tuple #[.agg #[.int .i64 8, .int .i64 1], .int .i64 0]) (by simp [results, Tryd.results111, go_sem, c0, c1]) rfl ⟨by rw [HF.out] <;> rfl, (by repeat (first | exact hb1 | refine Below.setCell ?_ (by first | omega | (simp <;> omega)) _ | refine Below.alloc ?_ (by first | omega | (simp <;> omega)) _ | refine Below.drew ?_))⟩
                    · have n1b : (n != 1) = true := by simpa using n1
                      have HK := Lib.hid (show numK ((8 : Nat) : Int) (n, true) = true by simp [numK, g0])
                      have HA := Lib.hid (fun (W : World) => l11Arg_any ((8 : Nat) : Int) n W)
                      cases ha : argB ((8 : Nat) : Int) n with
                      | false =>
                        have HF := Lib.hid (HL.out.trans (lnW_no (.inr ha)))
                        rw [ha] at HA
                        clear ha
                        go_wp2_with (go_at_call 115; refine (HA.out _).mono ?_; rintro e w5 ⟨rfl, hq⟩; subst w5)
                        exact bodyPost_ret (v := .tuple #[.agg #[.int .i64 0, .int .i64 0], .int .i64 2]) (by simp [results, Tryd.results111, go_sem, c0, c1]) rfl ⟨by rw [HF.out] <;> rfl, (by repeat (first | exact hb1 | refine Below.setCell ?_ (by first | omega | (simp <;> omega)) _ | refine Below.alloc ?_ (by first | omega | (simp <;> omega)) _ | refine Below.drew ?_))⟩
                      | true =>
                        have HF := Lib.hid (HL.out.trans (lnW_ok HK.out ha))
                        rw [ha] at HA
                        clear ha
                        go_wp2_with (go_at_call 115; refine (HA.out _).mono ?_; rintro e w5 ⟨rfl, hq⟩; subst w5)
                        exact bodyPost_ret (v := .tuple #[.agg #[.int .i64 8, .int .i64 n], .int .i64 0]) (by simp [results, Tryd.results111, go_sem, c0, c1]) rfl ⟨by rw [HF.out] <;> rfl, (by repeat (first | exact hb1 | refine Below.setCell ?_ (by first | omega | (simp <;> omega)) _ | refine Below.alloc ?_ (by first | omega | (simp <;> omega)) _ | refine Below.drew ?_))⟩
                  · by_cases n1 : n = 1
                    · subst n1
                      have HF := Lib.hid (HL.out.trans (lnW_no (.inl (by simp only [numK, decide_eq_false g1, decide_eq_false g8]; simp))))
                      go_wp2
                      exact bodyPost_ret (v := .tuple #[.agg #[.int .i64 0, .int .i64 0], .int .i64 2]) (by simp [results, Tryd.results111, go_sem, c0, c1]) rfl ⟨by rw [HF.out] <;> rfl, (by repeat (first | exact hb1 | refine Below.setCell ?_ (by first | omega | (simp <;> omega)) _ | refine Below.alloc ?_ (by first | omega | (simp <;> omega)) _ | refine Below.drew ?_))⟩
                    · have n1b : (n != 1) = true := by simpa using n1
                      have HK := Lib.hid (show numK (o : Int) (n, true) = true by simp [numK, g0, n1])
                      have HA := Lib.hid (fun (W : World) => l11Arg_any (o : Int) n W)
                      cases ha : argB (o : Int) n with
                      | false =>
                        have HF := Lib.hid (HL.out.trans (lnW_no (.inr ha)))
                        rw [ha] at HA
                        clear ha
                        go_wp2_with (go_at_call 115; refine (HA.out _).mono ?_; rintro e w5 ⟨rfl, hq⟩; subst w5)
                        exact bodyPost_ret (v := .tuple #[.agg #[.int .i64 0, .int .i64 0], .int .i64 2]) (by simp [results, Tryd.results111, go_sem, c0, c1]) rfl ⟨by rw [HF.out] <;> rfl, (by repeat (first | exact hb1 | refine Below.setCell ?_ (by first | omega | (simp <;> omega)) _ | refine Below.alloc ?_ (by first | omega | (simp <;> omega)) _ | refine Below.drew ?_))⟩
                      | true =>
                        have HF := Lib.hid (HL.out.trans (lnW_ok HK.out ha))
                        rw [ha] at HA
                        clear ha
                        go_wp2_with (go_at_call 115; refine (HA.out _).mono ?_; rintro e w5 ⟨rfl, hq⟩; subst w5)
                        exact bodyPost_ret (v := .tuple #[.agg #[.int .i64 (o : Int), .int .i64 n], .int .i64 0]) (by simp [results, Tryd.results111, go_sem, c0, c1]) rfl ⟨by rw [HF.out] <;> rfl, (by repeat (first | exact hb1 | refine Below.setCell ?_ (by first | omega | (simp <;> omega)) _ | refine Below.alloc ?_ (by first | omega | (simp <;> omega)) _ | refine Below.drew ?_))⟩
          · have HF := Lib.hid (HR.out.trans (lnL_more h0 (by simp)))
            clear HR HZ HT1
            have hn0 : ¬ ((opT H 10 : Nat) : Int) = 0 := by omega
            clear h0
            generalize opT H 10 = o at *
            go_wp2
            exact bodyPost_ret (v := .tuple #[.agg #[.int .i64 0, .int .i64 0], .int .i64 2]) (by simp [results, Tryd.results111, go_sem, c0, c1, hsz]) rfl ⟨by rw [HF.out] <;> rfl, (by repeat (first | exact hb1 | refine Below.setCell ?_ (by first | omega | (simp <;> omega)) _ | refine Below.alloc ?_ (by first | omega | (simp <;> omega)) _ | refine Below.drew ?_))⟩
end Go.Proofs.YtgfopieojpjddaaDoor
