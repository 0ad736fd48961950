/-
  spec.l04Ok, ValidTrain.
-/
import Derived.Test.YtaefgkhbgljkoaaGear
import Derived.IntWalk
namespace Go.Proofs.Ytaefgkhbgljkoaa
open Go.RowKit

theorem trainB_pairs {xs : List (Int × Int)} (h : pairsB xs = false) : trainB xs = false := by simp [trainB, h]
theorem trainB_len {xs : List (Int × Int)} (h : pairsB xs = true) : trainB xs = inB (xs.length : Int) 1 6 := by rw [trainB, h, Bool.and_true, lenB_in]

set_option maxHeartbeats 1000000 in
theorem l04Ok_any (a : Option Addr) (c : Nat) (xs : List (Int × Int)) (w : World) (ha : RdF pairF w a xs) :
    Calls Try.prog 61 #[.slice a xs.length c] w fun e w' => e = .returned (.bool (trainB xs)) ∧ ∃ k, w' = w.drewN k := by
  have hx := ha.len
  go_enter Try.func61, Try.ntmps61
  go_wp2
  go_loopw [3] (fun i wr => ∃ j m : Nat, j ≤ xs.length ∧ i = .int .i64 j ∧ Hid (wr = w.drewN m) ∧ Hid (∀ r ∈ xs.take j, teethB r = true)) (fun i _ => xs.length - (intOf i).toNat)
  case atStart => exact ⟨0, 0, Nat.zero_le _, rfl, Lib.hid rfl, Lib.hid (by simp)⟩
  case round =>
    obtain ⟨j, m, hj, rfl, HW, HT⟩ := hrel
    have hb : Below w.heap.size w wr := by rw [HW.out]; exact bel_drewN (Below.refl _ _) m
    have ha' := ha.below hb
    clear hb
    by_cases hlt : j < xs.length
    · obtain ⟨b, off, rfl, p0, p1⟩ := ha'.at2 hlt
      cases hr : teethB (elt pairF xs j) with
      | true =>
        have hr' := teethB_true hr
        have j0 := inB_yes hr'.1.1 hr'.1.2
        have j1 := inB_yes hr'.2.1 hr'.2.2
        have HT' := Lib.hid (allE_succ (F := pairF) (p := fun r => teethB r = true) hlt HT.out hr)
        clear hr hr'
        go_wp2_with (go_at_call 78; refine (l00In_any _ _ _ _).mono ?_; rintro e w1 ⟨rfl, hq⟩; subst w1)
        go_roundw
        case rel => exact ⟨j + 1, _, by omega, by go_num, HW, HT'⟩
        case measure => (simp [intOf]) <;> omega
      | false =>
        have HF := Lib.hid (trainB_pairs (pairsB_bad hlt hr))
        have hr' := teethB_false hr
        clear hr
        rcases hr' with h0 | ⟨h0, h1⟩
        · have j0 := inB_no h0
          clear h0
          go_wp2_with (go_at_call 78; refine (l00In_any _ _ _ _).mono ?_; rintro e w1 ⟨rfl, hq⟩; subst w1)
          go_ret
          exact ⟨ret_bool HF.out.symm, _, HW.out⟩
        · have j0 := inB_yes h0.1 h0.2
          have j1 := inB_no h1
          clear h0 h1
          go_wp2_with (go_at_call 78; refine (l00In_any _ _ _ _).mono ?_; rintro e w1 ⟨rfl, hq⟩; subst w1)
          go_ret
          exact ⟨ret_bool HF.out.symm, _, HW.out⟩
    · obtain rfl : j = xs.length := by omega
      have HF := Lib.hid (trainB_len (pairsB_allT HT.out))
      go_wp2_with (go_at_call 78; refine (l00In_any _ _ _ _).mono ?_; rintro e w1 ⟨rfl, hq⟩; subst w1)
      go_ret
      exact ⟨ret_bool HF.out.symm, _, HW.out⟩

theorem l04Ok_at (a : Option Addr) (c : Nat) (xs : List (Int × Int)) (w : World) {b : Bool} (hb : trainB xs = b) (ha : RdF pairF w a xs) :
    Calls Try.prog 61 #[.slice a xs.length c] w fun e w' => e = .returned (.bool b) ∧ Below w.heap.size w w' := by
  subst hb
  refine (l04Ok_any a c xs w ha).mono ?_
  rintro e w' ⟨rfl, k, rfl⟩
  exact ⟨rfl, bel_drewN (Below.refl _ _) k⟩

theorem specValidTrain (a : Option Addr) (c : Nat) (xs : List (Int × Int)) (w : World) (ha : RdF pairF w a xs) (_ : All2 xs) :
    Calls Try.prog 23 #[.slice a xs.length c] w fun e w' => e = .returned (.bool (trainB xs)) ∧ Below w.heap.size w w' := by
  go_enter Try.func23, Try.ntmps23
  go_wp2_with (go_at_call 61; refine (l04Ok_at a c xs _ rfl ha).mono ?_; rintro e w1 ⟨rfl, hb⟩)
  go_ret
  exact ⟨rfl, hb⟩
end Go.Proofs.Ytaefgkhbgljkoaa
