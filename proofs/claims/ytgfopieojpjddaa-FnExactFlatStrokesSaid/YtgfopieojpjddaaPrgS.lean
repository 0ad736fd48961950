/-
  Programs, in the model: l11Opens, l11Arg, l11Ok.
-/
import Derived.Test.YtgfopieojpjddaaPrgM
import Derived.IntWalk
namespace Go.Proofs.Ytgfopieojpjddaa
open Go.RowKit

theorem opens_any (op : Int) (w : World) : Calls Try.prog 31 #[.int .i64 op] w fun e w' => e = .returned (.bool (opnB op)) ∧ w' = w := by
  by_cases h1 : op = 8
  · subst h1
    go_enter Try.func31, Try.ntmps31
    go_wp2
    go_ret
    exact ⟨rfl, rfl⟩
  · by_cases h2 : op = 9
    · subst h2
      go_enter Try.func31, Try.ntmps31
      go_wp2
      go_ret
      exact ⟨rfl, rfl⟩
    · have d1 : decide (op = 8) = false := decide_eq_false h1
      have d2 : decide (op = 9) = false := decide_eq_false h2
      have HR := Lib.hid (show opnB op = false by rw [opnB, d1, d2]; rfl)
      go_enter Try.func31, Try.ntmps31
      go_wp2
      go_ret
      exact ⟨rfl, rfl⟩

set_option maxHeartbeats 1000000 in
theorem l11Arg_any (op n : Int) (w : World) : Calls Try.prog 40 #[.int .i64 op, .int .i64 n] w fun e w' => e = .returned (.bool (argB op n)) ∧ w' = w := by
  by_cases h1 : op = 1
  · subst h1
    have HR := Lib.hid (argB_set n)
    go_enter Try.func40, Try.ntmps40
    go_wp2_with (go_at_call 30; refine (l00In_any _ _ _ _).mono ?_; rintro e w1 ⟨rfl, hq⟩; subst w1)
    go_ret
    exact ⟨ret_bool HR.out.symm, rfl⟩
  · by_cases h2 : op = 2 ∨ op = 3 ∨ op = 4 ∨ op = 5 ∨ op = 8
    · have HR := Lib.hid (argB_num (n := n) h2)
      clear h1
      rcases h2 with rfl | rfl | rfl | rfl | rfl
      all_goals
        go_enter Try.func40, Try.ntmps40
        go_wp2_with (go_at_call 30; refine (l00In_any _ _ _ _).mono ?_; rintro e w1 ⟨rfl, hq⟩; subst w1)
        go_ret
        exact ⟨ret_bool HR.out.symm, rfl⟩
    · have HR := Lib.hid (argB_else (n := n) h1 h2)
      have d1 : decide (op = 1) = false := decide_eq_false h1
      have d2 : decide (op = 2) = false := decide_eq_false (by omega)
      have d3 : decide (op = 3) = false := decide_eq_false (by omega)
      have d4 : decide (op = 4) = false := decide_eq_false (by omega)
      have d5 : decide (op = 5) = false := decide_eq_false (by omega)
      have d8 : decide (op = 8) = false := decide_eq_false (by omega)
      have n2 : ¬ op = 2 := by omega
      have n3 : ¬ op = 3 := by omega
      have n4 : ¬ op = 4 := by omega
      have n5 : ¬ op = 5 := by omega
      have n8 : ¬ op = 8 := by omega
      clear h2
      go_enter Try.func40, Try.ntmps40
      go_wp2
      go_ret
      exact ⟨ret_bool HR.out.symm, rfl⟩

set_option maxHeartbeats 2000000 in
theorem l11Ok_any (a : Option Addr) (c : Nat) (xs : List (Int × Int)) (w : World) (ha : RdF pairF w a xs) :
    Calls Try.prog 25 #[.slice a xs.length c] w fun e w' => e = .returned (.bool (prgB xs)) ∧ ∃ k, w' = w.drewN k := by
  have hx := ha.len
  go_enter Try.func25, Try.ntmps25
  go_wp2
  go_loopw [3, 4] (fun q i wr => ∃ j d m : Nat, j ≤ xs.length ∧ i = .int .i64 j ∧ q = .int .i64 d ∧ d ≤ 4 ∧ Hid (wr = w.drewN m) ∧ Hid (okF 0 xs = okF d (xs.drop j))) (fun _ i _ => xs.length - (intOf i).toNat)
  case atStart => exact ⟨0, 0, 0, Nat.zero_le _, rfl, rfl, by omega, Lib.hid rfl, Lib.hid rfl⟩
  case round =>
    obtain ⟨j, d, m, hj, rfl, rfl, hd4, HW, HT⟩ := hrel
    have hb : Below w.heap.size w wr := by rw [HW.out]; exact bel_drewN (Below.refl _ _) m
    have ha' := ha.below hb
    clear hb
    by_cases hlt : j < xs.length
    · obtain ⟨b, off, rfl, p0, p1⟩ := ha'.at2 hlt
      have HT2 := Lib.hid (HT.out.trans (okF_drop hlt))
      clear HT
      have HI := Lib.hid (fun (W : World) => l00In_any (elt pairF xs j).1 1 10 W)
      have HA := Lib.hid (fun (W : World) => l11Arg_any (elt pairF xs j).1 (elt pairF xs j).2 W)
      have HO := Lib.hid (fun (W : World) => opens_any (elt pairF xs j).1 W)
      obtain ⟨x, hx'⟩ : ∃ x, x = elt pairF xs j := ⟨_, rfl⟩
      rw [← hx'] at p0 p1 HT2 HI HA HO
      clear hx'
      cases h1 : inB x.1 1 10 with
      | false =>
        have HF := Lib.hid (prgB_no (HT2.out.trans (okF_bad (by rw [insB, h1, Bool.false_and]))))
        rw [h1] at HI
        clear h1
        go_wp2
        go_quiet (first | (go_at_call 30; exact Calls.quiet_of_same (HI.out _)) | (go_at_call 40; exact Calls.quiet_of_same (HA.out _)))
        go_wp2_with (first | (go_at_call 31; refine (HO.out _).mono ?_; rintro e w1 ⟨rfl, hq⟩; subst w1))
        go_ret
        exact ⟨ret_bool HF.out.symm, _, by first | exact HW.out | rw [HW.out, drewN_drewN]⟩
      | true =>
        rw [h1] at HI
        cases h2 : argB x.1 x.2 with
        | false =>
          have HF := Lib.hid (prgB_no (HT2.out.trans (okF_bad (by rw [insB, h1, h2]; rfl))))
          rw [h2] at HA
          clear h1 h2
          go_wp2
          go_quiet (first | (go_at_call 30; exact Calls.quiet_of_same (HI.out _)) | (go_at_call 40; exact Calls.quiet_of_same (HA.out _)))
          go_wp2_with (first | (go_at_call 31; refine (HO.out _).mono ?_; rintro e w1 ⟨rfl, hq⟩; subst w1))
          go_ret
          exact ⟨ret_bool HF.out.symm, _, by first | exact HW.out | rw [HW.out, drewN_drewN]⟩
        | true =>
          have hi : insB x = true := by rw [insB, h1, h2]; rfl
          rw [h2] at HA
          clear h1 h2
          go_wp2
          go_quiet (first | (go_at_call 30; exact Calls.quiet_of_same (HI.out _)) | (go_at_call 40; exact Calls.quiet_of_same (HA.out _)))
          go_wp2_with fail
          refine (HO.out _).mono ?_
          rintro e w1 ⟨rfl, hq⟩
          subst w1
          clear HO HI HA
          cases h3 : opnB x.1 with
          | true =>
            have hne : ¬ x.1 = 10 := by have := opnB_t h3; omega
            have he : decide (x.1 = 10) = false := decide_eq_false hne
            by_cases h4 : d < 4
            · have HN := Lib.hid (HT2.out.trans (okF_open hi h3 h4))
              clear hi h3
              go_wp2
              go_roundw
              case rel => exact ⟨j + 1, d + 1, _, by omega, by go_num, by go_num, by omega, Lib.hid (by rw [HW.out, drewN_drewN]), HN⟩
              case measure => (simp [intOf]) <;> omega
            · have HF := Lib.hid (prgB_no (HT2.out.trans (okF_deep h3 h4)))
              obtain rfl : d = 4 := by omega
              clear hi h3 h4
              go_wp2
              go_ret
              exact ⟨ret_bool HF.out.symm, _, by first | exact HW.out | rw [HW.out, drewN_drewN]⟩
          | false =>
            obtain ⟨op, n⟩ := x
            simp only at *
            by_cases h5 : op = 10
            · rcases Nat.eq_zero_or_pos d with h0 | h0
              · subst h0
                have HF := Lib.hid (prgB_no (HT2.out.trans (okF_loose h5)))
                subst h5
                clear hi h3
                go_wp2
                go_ret
                exact ⟨ret_bool HF.out.symm, _, by first | exact HW.out | rw [HW.out, drewN_drewN]⟩
              · have HN := Lib.hid (HT2.out.trans (okF_end hi h5 h0))
                subst h5
                clear hi h3
                go_wp2
                go_roundw
                case rel => exact ⟨j + 1, d - 1, _, by omega, by go_num, by first | go_num | (congr 1; omega), by omega, Lib.hid (by rw [HW.out, drewN_drewN]), HN⟩
                case measure => (simp [intOf]) <;> omega
            · have he : decide (op = 10) = false := decide_eq_false h5
              have HN := Lib.hid (HT2.out.trans (okF_plain hi h3 h5))
              clear hi h3
              go_wp2
              go_roundw
              case rel => exact ⟨j + 1, d, _, by omega, by go_num, rfl, hd4, Lib.hid (by rw [HW.out, drewN_drewN]), HN⟩
              case measure => (simp [intOf]) <;> omega
    · obtain rfl : j = xs.length := by omega
      have HE := Lib.hid (show okF 0 xs = decide (d = 0) by rw [HT.out, List.drop_length, okF_nil])
      rcases Nat.eq_zero_or_pos d with h0 | h0
      · subst h0
        have HF := Lib.hid (show prgB xs = decide ((xs.length : Int) ≤ 120) by rw [prgB, HE.out, decide_eq_true rfl, Bool.true_and, decide_eq_decide]; omega)
        go_wp2
        go_ret
        exact ⟨ret_bool HF.out.symm, _, by first | exact HW.out | rw [HW.out, drewN_drewN]⟩
      · have HF := Lib.hid (show prgB xs = false from prgB_no (by rw [HE.out]; exact decide_eq_false (by omega)))
        have hd : decide ((d : Int) = 0) = false := decide_eq_false (by omega)
        go_wp2
        go_ret
        exact ⟨ret_bool HF.out.symm, _, by first | exact HW.out | rw [HW.out, drewN_drewN]⟩

theorem l11Ok_at (a : Option Addr) (c : Nat) (xs : List (Int × Int)) (w : World) {b : Bool} (hb : prgB xs = b) (ha : RdF pairF w a xs) :
    Calls Try.prog 25 #[.slice a xs.length c] w fun e w' => e = .returned (.bool b) ∧ Below w.heap.size w w' := by
  subst hb
  refine (l11Ok_any a c xs w ha).mono ?_
  rintro e w' ⟨rfl, k, rfl⟩
  exact ⟨rfl, bel_drewN (Below.refl _ _) k⟩

theorem specValidProgram (a : Option Addr) (c : Nat) (xs : List (Int × Int)) (w : World) (ha : RdF pairF w a xs) (_ : All2 xs) :
    Calls Try.prog 9 #[.slice a xs.length c] w fun e w' => e = .returned (.bool (prgB xs)) ∧ Below w.heap.size w w' := by
  go_enter Try.func9, Try.ntmps9
  go_wp2_with (go_at_call 25; refine (l11Ok_at a c xs _ rfl ha).mono ?_; rintro e w1 ⟨rfl, hb⟩)
  go_ret
  exact ⟨rfl, hb⟩
end Go.Proofs.Ytgfopieojpjddaa
