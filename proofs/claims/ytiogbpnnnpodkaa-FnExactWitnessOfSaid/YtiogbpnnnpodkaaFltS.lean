/-
  spec.l08Ok, ValidFaults.
-/
import Derived.Test.YtiogbpnnnpodkaaLevM
import Derived.Test.YtiogbpnnnpodkaaWid3
import Derived.Test.YtiogbpnnnpodkaaInB
namespace Go.Proofs.Ytiogbpnnnpodkaa
open Go.RowKit

theorem faultsB_out {n : Int} {fs : List (Int × Int)} (h : inB n 1 16 = false) : faultsB n fs = false := by simp [faultsB, h]
theorem faultsB_bad {n : Int} {fs : List (Int × Int)} {i : Nat} (hi : i < fs.length) (h : faultAt n fs i = false) : faultsB n fs = false := by simp [faultsB, faultsTo_bad hi h]
theorem faultsB_all {n : Int} {fs : List (Int × Int)} (h : inB n 1 16 = true) (h2 : faultsTo n fs fs.length = true) : faultsB n fs = true := by simp [faultsB, h, h2]
theorem ask_kind {n : Int} {fs : List (Int × Int)} {j : Nat} (h : faultsTo n fs j = true) (h1 : inB (elt pairF fs j).1 1 3 = false) : faultAt n fs j = false := by rw [← faultAsk_is h, faultAsk, h1]; rfl
theorem ask_lever {n : Int} {fs : List (Int × Int)} {j : Nat} (h : faultsTo n fs j = true) (h1 : inB (elt pairF fs j).2 0 (n - 1) = false) : faultAt n fs j = false := by rw [← faultAsk_is h, faultAsk, h1, Bool.and_false]; rfl
theorem ask_prev {n : Int} {fs : List (Int × Int)} {j : Nat} (h : faultsTo n fs j = true) (h0 : 0 < j) (h1 : (elt pairF fs j).2 ≤ (elt pairF fs (j - 1)).2) : faultAt n fs j = false := by rw [← faultAsk_is h, faultAsk]; simp [h0, h1]
theorem ask_first {n : Int} {fs : List (Int × Int)} {j : Nat} (h : faultsTo n fs j = true) (h0 : j = 0) (h1 : inB (elt pairF fs j).1 1 3 = true) (h2 : inB (elt pairF fs j).2 0 (n - 1) = true) : faultAt n fs j = true := by rw [← faultAsk_is h, faultAsk, h1, h2]; simp [h0]
theorem ask_later {n : Int} {fs : List (Int × Int)} {j : Nat} (h : faultsTo n fs j = true) (h3 : ¬ (elt pairF fs j).2 ≤ (elt pairF fs (j - 1)).2) (h1 : inB (elt pairF fs j).1 1 3 = true) (h2 : inB (elt pairF fs j).2 0 (n - 1) = true) : faultAt n fs j = true := by rw [← faultAsk_is h, faultAsk, h1, h2]; simp [h3]

set_option maxRecDepth 100000 in
set_option maxHeartbeats 4000000 in
theorem l08Ok_any (n : Int) (a : Option Addr) (c : Nat) (xs : List (Int × Int)) (w : World) (ha : RdF pairF w a xs) :
    Calls Try.prog 43 #[.int .i64 n, .slice a xs.length c] w fun e w' => e = .returned (.bool (faultsB n xs)) ∧ Below w.heap.size w w' := by
  have hx := ha.len
  cases hn : inB n 1 16 with
  | false =>
    have HF := Lib.hid (faultsB_out (fs := xs) hn)
    have HN := Lib.hid hn
    clear hn
    go_enter Try.func43, Try.ntmps43
    go_wp2_with (go_at_call 71; refine (l07Size_at n _ HN.out).mono ?_; rintro e w1 ⟨rfl, hq⟩; subst w1)
    go_ret
    exact ⟨ret_bool HF.out.symm, Below.refl _ _⟩
  | true =>
    have hn' := inB_true hn
    have HN := Lib.hid hn
    clear hn
    go_enter Try.func43, Try.ntmps43
    go_wp2_with (go_at_call 71; refine (l07Size_at n _ HN.out).mono ?_; rintro e w1 ⟨rfl, hq⟩; subst w1)
    go_loopw [5] (fun i wr => ∃ j : Nat, j ≤ xs.length ∧ i = .int .i64 j ∧ Below w.heap.size w wr ∧ Hid (faultsTo n xs j = true)) (fun i _ => xs.length - (intOf i).toNat)
    case atStart => exact ⟨0, Nat.zero_le _, rfl, Below.refl _ _, Lib.hid rfl⟩
    case round =>
      obtain ⟨j, hj, rfl, hbel, HT⟩ := hrel
      have hsz := hbel.size
      by_cases hlt : j < xs.length
      · obtain ⟨b, off, rfl, p0, p1⟩ := (ha.below hbel).at2 hlt
        have q0 := kept_after p0
        have q1 := kept_after p1
        clear p0 p1
        have v1 : IntKind.i64.wrap (n - 1) = n - 1 := fits_int _ (by omega) (by omega)
        have HK := Lib.hid (l00In_b (elt pairF xs j).1 1 3)
        have HL := Lib.hid (l00In_b (elt pairF xs j).2 0 (n - 1))
        cases h1 : inB (elt pairF xs j).1 1 3 with
        | false =>
          rw [h1] at HK
          have HF := Lib.hid (faultsB_bad hlt (ask_kind HT.out h1))
          clear h1
          go_wp2
          refine wp_region_after (by kernel_rfl) (by kernel_rfl) ?_
          repeat (go_big_quiet_step ((go_at_call 63; with_reducible (first | exact calls_after (HK.out _) | exact calls_after (HL.out _)))))
          refine wpQuiet_nil ?_
          intro q
          go_wp2
          go_ret
          exact ⟨ret_bool HF.out.symm, hbel.trans (q.ok.mono hsz)⟩
        | true =>
          rw [h1] at HK
          cases h2 : inB (elt pairF xs j).2 0 (n - 1) with
          | false =>
            rw [h2] at HL
            have HF := Lib.hid (faultsB_bad hlt (ask_lever HT.out h2))
            clear h1 h2
            go_wp2
            refine wp_region_after (by kernel_rfl) (by kernel_rfl) ?_
            repeat (go_big_quiet_step ((go_at_call 63; with_reducible (first | exact calls_after (HK.out _) | exact calls_after (HL.out _)))))
            refine wpQuiet_nil ?_
            intro q
            go_wp2
            go_ret
            exact ⟨ret_bool HF.out.symm, hbel.trans (q.ok.mono hsz)⟩
          | true =>
            rw [h2] at HL
            by_cases h0 : j = 0
            · have hd : decide (0 < j) = false := decide_eq_false (by omega)
              have HT' := Lib.hid (faultsTo_succ HT.out (ask_first HT.out h0 h1 h2))
              clear h0 h1 h2
              go_wp2
              refine wp_region_after (by kernel_rfl) (by kernel_rfl) ?_
              repeat (go_big_quiet_step ((go_at_call 63; with_reducible (first | exact calls_after (HK.out _) | exact calls_after (HL.out _)))))
              refine wpQuiet_nil ?_
              intro q
              go_wp2
              go_roundw
              case rel => exact ⟨j + 1, by omega, by go_num, hbel.trans (q.ok.mono hsz), HT'⟩
              case measure => (simp [intOf]) <;> omega
            · have hd : decide (0 < j) = true := decide_eq_true (by omega)
              obtain ⟨m, hm⟩ : ∃ m, m = j - 1 := ⟨_, rfl⟩
              have hvm : IntKind.i64.wrap ((j : Int) - 1) = (m : Int) := by rw [fits_int _ (by omega) (by omega)]; omega
              have hlm : m < xs.length := by omega
              obtain ⟨b', off', e, _, p3⟩ := (ha.below hbel).at2 hlm
              cases e
              have q3 := kept_after p3
              clear p3
              by_cases h3 : (elt pairF xs j).2 ≤ (elt pairF xs m).2
              · have hd2 : decide ((elt pairF xs j).2 ≤ (elt pairF xs m).2) = true := decide_eq_true h3
                have HF := Lib.hid (faultsB_bad hlt (ask_prev HT.out (by omega) (by rw [← hm]; exact h3)))
                clear h0 h1 h2 h3 hm
                go_wp2
                refine wp_region_after (by kernel_rfl) (by kernel_rfl) ?_
                repeat (go_big_quiet_step ((go_at_call 63; with_reducible (first | exact calls_after (HK.out _) | exact calls_after (HL.out _)))))
                refine wpQuiet_nil ?_
                intro q
                go_wp2
                go_ret
                exact ⟨ret_bool HF.out.symm, hbel.trans (q.ok.mono hsz)⟩
              · have hd2 : decide ((elt pairF xs j).2 ≤ (elt pairF xs m).2) = false := decide_eq_false h3
                have HT' := Lib.hid (faultsTo_succ HT.out (ask_later HT.out (by rw [← hm]; exact h3) h1 h2))
                clear h0 h1 h2 h3 hm
                go_wp2
                refine wp_region_after (by kernel_rfl) (by kernel_rfl) ?_
                repeat (go_big_quiet_step ((go_at_call 63; with_reducible (first | exact calls_after (HK.out _) | exact calls_after (HL.out _)))))
                refine wpQuiet_nil ?_
                intro q
                go_wp2
                go_roundw
                case rel => exact ⟨j + 1, by omega, by go_num, hbel.trans (q.ok.mono hsz), HT'⟩
                case measure => (simp [intOf]) <;> omega
      · obtain rfl : j = xs.length := by omega
        have HF := Lib.hid (faultsB_all HN.out HT.out)
        go_wp2
        go_ret
        exact ⟨ret_bool HF.out.symm, hbel⟩

theorem l08Ok_at {v : Bool} (n : Int) (a : Option Addr) (c : Nat) (xs : List (Int × Int)) (w : World) (hv : faultsB n xs = v) (ha : RdF pairF w a xs) :
    Calls Try.prog 43 #[.int .i64 n, .slice a xs.length c] w fun e w' => e = .returned (.bool v) ∧ Below w.heap.size w w' := by
  subst hv; exact l08Ok_any n a c xs w ha
end Go.Proofs.Ytiogbpnnnpodkaa
