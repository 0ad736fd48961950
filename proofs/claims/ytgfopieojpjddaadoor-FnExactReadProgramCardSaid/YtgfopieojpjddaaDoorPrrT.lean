/-
  CheckProgram, ReadProgram, in the model.
-/
import Derived.Test.YtgfopieojpjddaaDoorPrrS
namespace Go.Proofs.YtgfopieojpjddaaDoor
open Go.RowKit

set_option maxRecDepth 100000 in
set_option maxHeartbeats 8000000 in
theorem l11Read_any (a : Option Addr) (c : Nat) (l : List ByteArray) (w : World) (ha : RdF textF w a l) (hz : ∀ s ∈ l, s.size ≤ 1048576) (hl : l.length ≤ 1000000) :
    Calls Tryd.prog 60 #[.slice a l.length c] w (ReadPost l w) := by
  have row0 := row_new 83 2 w #[] 0 rfl (by omega)
  go_enter Tryd.func60, Tryd.ntmps60
  go_wp2
  go_loopw [5, 6, 7] (fun p q i wr => ∃ (j d : Nat) (A : Option Addr) (C : Nat) (acc : List (Int × Int)), j ≤ l.length ∧ i = .int .i64 j ∧ q = .int .i64 d ∧ p = .slice A j C ∧ d ≤ 4 ∧ acc.length = j ∧ Row 83 2 wr w.heap.size wr.heap.size (.slice A j C) j (flat pairF acc) ∧ Below w.heap.size w wr ∧
    Hid (rdF 0 0 l [] = rdF d j (l.drop j) acc)) (fun _ _ i _ => l.length - (intOf i).toNat)
  case atStart => exact ⟨0, 0, _, _, [], Nat.zero_le _, rfl, rfl, rfl, by omega, rfl, row0.wide (Nat.le_refl _) (by simp), (Below.refl _ _).alloc (Nat.le_refl _) _, Lib.hid rfl⟩
  case round =>
    clear row0
    obtain ⟨j, d, A, C, acc, hj, rfl, rfl, rfl, hd4, hacc, row, hb, HI⟩ := hrel
    have hs := hb.size
    by_cases hlt : j < l.length
    · obtain ⟨b, off, rfl, p0⟩ := (ha.below hb).atT hlt
      have hsz := hz _ (elt_mem (F := textF) hlt)
      have HN := Lib.hid (HI.out.trans (rdF_drop hlt))
      clear HI
      generalize elt textF l j = s at *
      go_wp2_with fail
      refine (l11Line_any s wr hsz).mono ?_
      rintro e w2 ⟨rfl, hb2⟩
      have hbw := hb.trans (hb2.mono hs)
      replace row := row.below hb2
      have hs2 := hbw.size
      obtain ⟨x, hx⟩ : ∃ x, x = (lnR s).1 := ⟨_, rfl⟩
      obtain ⟨f, hf⟩ : ∃ f, f = (lnR s).2 := ⟨_, rfl⟩
      have HX := Lib.hid (show lnR s = (x, f) by rw [hx, hf])
      rw [← hx, ← hf]
      clear hx hf p0 hb2
      by_cases h0 : f = 0
      · subst h0
        have HO := Lib.hid (fun (W : World) => opens_any x.1 W)
        have hbx := hbw.alloc hs2 (.cells #[.int .i64 x.1, .int .i64 x.2] 83)
        have row2 := (row.alloc (.cells #[.int .i64 x.1, .int .i64 x.2] 83)).alloc (.cells #[.int .i64 x.1, .int .i64 x.2] 83)
        have hnews := newsP (w2.alloc (.cells #[.int .i64 x.1, .int .i64 x.2] 83)) x 83
        have hlast : Below w.heap.size w ((w2.alloc (.cells #[.int .i64 x.1, .int .i64 x.2] 83)).alloc (.cells #[.int .i64 x.1, .int .i64 x.2] 83)) := hbx.alloc (by simp; omega) _
        have HB := Lib.hid hbx
        clear hbx
        cases h3 : opnB x.1 with
        | true =>
          have hne : ¬ x.1 = 10 := by have := opnB_t h3; omega
          have he : decide (x.1 = 10) = false := decide_eq_false hne
          by_cases h4 : d < 4
          · have HM := Lib.hid (HN.out.trans (rdF_open HX.out h3 h4))
            rw [h3] at HO
            clear h3 HN
            go_wp2_with (first | (go_at_call 112; refine (HO.out _).mono ?_; rintro e w5 ⟨rfl, hq⟩; subst w5) | (at_builtin; refine wpList_appR rfl (.tmp 45) (.tmp 47) 29 83 rfl (.agg #[.int .i64 0, .int .i64 0]) 2 16 Tryd.underlying29 info_Instr rfl (by omega) (by omega) rfl row2 ⟨w2.heap.size + 1, 0, none⟩ 1 1 (flat pairF [x]) rfl rfl (by simpa using hnews) (by intro u hu; simp [flat, pairF] at hu; rcases hu with rfl | rfl <;> rfl) (by omega) (by simp; omega) ?_; intro A' C' w6 row6 ht6))
            go_roundw
            case rel => exact ⟨j + 1, d + 1, A', C', acc ++ [x], by omega, by go_num, by first | go_num | (congr 1; omega), rfl, by omega, by simp [hacc], by rw [flat_append]; exact row6, hlast.trans (ht6.below (Nat.le_refl _) (by simp; omega)), HM⟩
            case measure => (simp [intOf]) <;> omega
          · have HM := Lib.hid (HN.out.trans (rdF_deep HX.out h3 h4))
            obtain rfl : d = 4 := by omega
            rw [h3] at HO
            clear h3 HN h4
            go_wp2_with (go_at_call 112; refine (HO.out _).mono ?_; rintro e w5 ⟨rfl, hq⟩; subst w5)
            exact bodyPost_ret (v := .tuple #[.slice none 0 0, .int .i64 (j : Int), .int .i64 5]) (by simp [results, Tryd.results60, go_sem]) rfl (readPost_bad HM.out HB.out)
        | false =>
          rw [h3] at HO
          by_cases h5 : x.1 = 10
          · obtain ⟨op, n⟩ := x
            simp only at h5
            subst h5
            rcases Nat.eq_zero_or_pos d with hd0 | hd0
            · subst hd0
              have HM := Lib.hid (HN.out.trans (rdF_loose HX.out rfl))
              clear h3 HN
              go_wp2_with (go_at_call 112; refine (HO.out _).mono ?_; rintro e w5 ⟨rfl, hq⟩; subst w5)
              exact bodyPost_ret (v := .tuple #[.slice none 0 0, .int .i64 (j : Int), .int .i64 4]) (by simp [results, Tryd.results60, go_sem]) rfl (readPost_bad HM.out HB.out)
            · have HM := Lib.hid (HN.out.trans (rdF_end HX.out rfl hd0))
              clear h3 HN
              go_wp2_with (first | (go_at_call 112; refine (HO.out _).mono ?_; rintro e w5 ⟨rfl, hq⟩; subst w5) | (at_builtin; refine wpList_appR rfl (.tmp 45) (.tmp 47) 29 83 rfl (.agg #[.int .i64 0, .int .i64 0]) 2 16 Tryd.underlying29 info_Instr rfl (by omega) (by omega) rfl row2 ⟨w2.heap.size + 1, 0, none⟩ 1 1 (flat pairF [(10, n)]) rfl rfl (by simpa using hnews) (by intro u hu; simp [flat, pairF] at hu; rcases hu with rfl | rfl <;> rfl) (by omega) (by simp; omega) ?_; intro A' C' w6 row6 ht6))
              go_roundw
              case rel => exact ⟨j + 1, d - 1, A', C', acc ++ [(10, n)], by omega, by go_num, by first | go_num | (congr 1; omega), rfl, by omega, by simp [hacc], by rw [flat_append]; exact row6, hlast.trans (ht6.below (Nat.le_refl _) (by simp; omega)), HM⟩
              case measure => (simp [intOf]) <;> omega
          · have he : decide (x.1 = 10) = false := decide_eq_false h5
            have HM := Lib.hid (HN.out.trans (rdF_plain HX.out h3 h5))
            clear h3 HN
            go_wp2_with (first | (go_at_call 112; refine (HO.out _).mono ?_; rintro e w5 ⟨rfl, hq⟩; subst w5) | (at_builtin; refine wpList_appR rfl (.tmp 45) (.tmp 47) 29 83 rfl (.agg #[.int .i64 0, .int .i64 0]) 2 16 Tryd.underlying29 info_Instr rfl (by omega) (by omega) rfl row2 ⟨w2.heap.size + 1, 0, none⟩ 1 1 (flat pairF [x]) rfl rfl (by simpa using hnews) (by intro u hu; simp [flat, pairF] at hu; rcases hu with rfl | rfl <;> rfl) (by omega) (by simp; omega) ?_; intro A' C' w6 row6 ht6))
            go_roundw
            case rel => exact ⟨j + 1, d, A', C', acc ++ [x], by omega, by go_num, by first | go_num | (congr 1; omega), rfl, by omega, by simp [hacc], by rw [flat_append]; exact row6, hlast.trans (ht6.below (Nat.le_refl _) (by simp; omega)), HM⟩
            case measure => (simp [intOf]) <;> omega
      · have HM := Lib.hid (HN.out.trans (rdF_bad HX.out h0))
        have hb0 : (f != 0) = true := by simpa using h0
        have hbx := hbw.alloc hs2 (.cells #[.int .i64 x.1, .int .i64 x.2] 83)
        go_wp2
        exact bodyPost_ret (v := .tuple #[.slice none 0 0, .int .i64 (j : Int), .int .i64 f]) (by simp [results, Tryd.results60, go_sem]) rfl (readPost_bad HM.out hbx)
    · obtain rfl : j = l.length := by omega
      rw [List.drop_length] at HI
      rcases Nat.eq_zero_or_pos d with hd0 | hd0
      · subst hd0
        have HM := Lib.hid (HI.out.trans rdF_done)
        go_wp2
        refine bodyPost_ret (v := .tuple #[.slice A l.length C, .int .i64 (-1), .int .i64 0]) (by simp [results, Tryd.results60, go_sem]) rfl ?_
        unfold ReadPost
        rw [HM.out]
        exact ⟨A, C, by rw [hacc], by rw [hacc]; exact ownF_row (F := pairF) row hacc.symm (by show acc.length ≤ _; omega), hb⟩
      · have HM := Lib.hid (HI.out.trans (rdF_left (by omega)))
        have hd1 : (0 : Int) < (d : Int) := by omega
        go_wp2
        exact bodyPost_ret (v := .tuple #[.slice none 0 0, .int .i64 (l.length : Int), .int .i64 3]) (by simp [results, Tryd.results60, go_sem]) rfl (readPost_bad HM.out hb)

set_option maxRecDepth 100000 in
set_option maxHeartbeats 4000000 in
theorem specCheckProgram (a : Option Addr) (c : Nat) (l : List ByteArray) (w : World) (ha : RdF textF w a l) (hz : ∀ s ∈ l, s.size ≤ 1048576) :
    Calls Tryd.prog 13 #[.slice a l.length c] w fun e w' => e = .returned (.tuple #[.int .i64 (chR l).1, .int .i64 (chR l).2.1, .int .i64 (chR l).2.2]) ∧ Below w.heap.size w w' := by
  have hx := ha.len
  by_cases hn : 120 < l.length
  · have HF := Lib.hid (show chR l = (0, 0, 5) by rw [chR, if_pos hn])
    have h1 : (120 : Int) < (l.length : Int) := by omega
    have h2 : decide ((l.length : Int) > 120) = true := decide_eq_true (by omega)
    go_enter Tryd.func13, Tryd.ntmps13
    go_wp2
    exact bodyPost_ret (v := .tuple #[.int .i64 0, .int .i64 0, .int .i64 5]) (by simp [results, Tryd.results13, go_sem]) rfl ⟨by rw [HF.out], Below.refl _ _⟩
  · have HF := Lib.hid (show chR l = ((rdF 0 0 l []).2.1, (rdF 0 0 l []).2.2, 0) by rw [chR, if_neg hn])
    have h1 : ¬ (120 : Int) < (l.length : Int) := by omega
    have h2 : decide ((l.length : Int) > 120) = false := decide_eq_false (by omega)
    go_enter Tryd.func13, Tryd.ntmps13
    go_wp2_with fail
    refine (l11Read_any a c l w ha hz (by omega)).mono ?_
    rintro e w1 ⟨A, C, rfl, ow, hb⟩
    generalize rdF 0 0 l [] = r at *
    go_wp2
    exact bodyPost_ret (v := .tuple #[.int .i64 r.2.1, .int .i64 r.2.2, .int .i64 0]) (by simp [results, Tryd.results13, go_sem]) rfl ⟨by rw [HF.out], hb⟩

set_option maxRecDepth 100000 in
set_option maxHeartbeats 4000000 in
theorem specReadProgram (a : Option Addr) (c : Nat) (l : List ByteArray) (w : World) (ha : RdF textF w a l) (hz : ∀ s ∈ l, s.size ≤ 1048576) :
    Calls Tryd.prog 17 #[.slice a l.length c] w fun e w' => ∃ A C, e = .returned (.tuple #[.slice A (rpR l).1.length C, .int .i64 (rpR l).2]) ∧
      OwnF pairF 83 w' w.heap.size w'.heap.size (.slice A (rpR l).1.length C) (rpR l).1 ∧ Below w.heap.size w w' := by
  have hx := ha.len
  by_cases hn : 120 < l.length
  · have HF := Lib.hid (show rpR l = ([], 5) by rw [rpR, if_pos hn])
    have h1 : (120 : Int) < (l.length : Int) := by omega
    have h2 : decide ((l.length : Int) > 120) = true := decide_eq_true (by omega)
    go_enter Tryd.func17, Tryd.ntmps17
    go_wp2
    rw [HF.out]
    exact bodyPost_ret (v := .tuple #[.slice none 0 0, .int .i64 5]) (by simp [results, Tryd.results17, go_sem]) rfl ⟨none, 0, rfl, ownF_nil _ _ _ _ _, Below.refl _ _⟩
  · have HF := Lib.hid (show rpR l = if ¬ (rdF 0 0 l []).2.2 = 0 then ([], 7) else ((rdF 0 0 l []).1, 0) by rw [rpR, if_neg hn])
    have h1 : ¬ (120 : Int) < (l.length : Int) := by omega
    have h2 : decide ((l.length : Int) > 120) = false := decide_eq_false (by omega)
    go_enter Tryd.func17, Tryd.ntmps17
    go_wp2_with fail
    refine (l11Read_any a c l w ha hz (by omega)).mono ?_
    rintro e w1 ⟨A, C, rfl, ow, hb⟩
    generalize rdF 0 0 l [] = r at *
    obtain ⟨xs, p, f⟩ := r
    simp only at *
    by_cases hf : f = 0
    · have HG := Lib.hid (HF.out.trans (if_neg (by simpa using hf)))
      subst hf
      go_wp2
      rw [HG.out]
      exact bodyPost_ret (v := .tuple #[.slice A xs.length C, .int .i64 0]) (by simp [results, Tryd.results17, go_sem]) rfl ⟨A, C, rfl, ow, hb⟩
    · have HG := Lib.hid (HF.out.trans (if_pos hf))
      have hfb : (f != 0) = true := by simpa using hf
      go_wp2
      rw [HG.out]
      exact bodyPost_ret (v := .tuple #[.slice none 0 0, .int .i64 7]) (by simp [results, Tryd.results17, go_sem]) rfl ⟨none, 0, rfl, ownF_nil _ _ _ _ _, hb⟩
end Go.Proofs.YtgfopieojpjddaaDoor
