/-
  impl.ValidTrain.
-/
import Derived.Test.YtaefgkhbgljkoaaWithin
import Derived.Test.YtaefgkhbgljkoaaTrainS
namespace Go.Proofs.Ytaefgkhbgljkoaa
open Go.RowKit

theorem teethB_and (x : Int × Int) : (inB x.1 2 120 && inB x.2 2 120) = teethB x := rfl
theorem trainB_no {xs : List (Int × Int)} (h : inB (xs.length : Int) 1 6 = false) : trainB xs = false := by rw [trainB, lenB_in, h, Bool.false_and]
theorem trainB_yes {xs : List (Int × Int)} (h : inB (xs.length : Int) 1 6 = true) (h2 : pairsB xs = true) : trainB xs = true := by rw [trainB, lenB_in, h, h2]; rfl

set_option maxHeartbeats 1000000 in
theorem implValidTrain (a : Option Addr) (c : Nat) (xs : List (Int × Int)) (w : World) (ha : RdF pairF w a xs) (_ : All2 xs) :
    Calls Try.prog 37 #[.slice a xs.length c] w fun e w' => e = .returned (.bool (trainB xs)) ∧ Below w.heap.size w w' := by
  have hx := ha.len
  cases hn : inB (xs.length : Int) 1 6 with
  | false =>
    have HF := Lib.hid (trainB_no hn)
    have HN := Lib.hid hn
    clear hn
    go_enter Try.func37, Try.ntmps37
    go_wp2_with (go_at_call 76; refine (withinN1_at _ _ (xs.length : Int) _ _ _ (by go_simp)).mono ?_; rintro e w1 ⟨rfl, hq⟩; subst w1; rw [HN.out])
    go_ret
    exact ⟨ret_bool HF.out.symm, (by repeat (first | exact Below.refl _ _ | refine Below.setCell ?_ (by first | omega | (simp <;> omega)) _ | refine Below.alloc ?_ (by first | omega | (simp <;> omega)) _ | refine Below.drew ?_))⟩
  | true =>
    have HN := Lib.hid hn
    clear hn
    go_enter Try.func37, Try.ntmps37
    go_wp2_with (go_at_call 76; refine (withinN1_at _ _ (xs.length : Int) _ _ _ (by go_simp)).mono ?_; rintro e w1 ⟨rfl, hq⟩; subst w1; rw [HN.out])
    go_loopw [12] (fun i wr => ∃ j : Nat, j ≤ xs.length ∧ i = .int .i64 j ∧ Below w.heap.size w wr ∧ Hid (∀ r ∈ xs.take j, teethB r = true)) (fun i _ => xs.length - (intOf i).toNat)
    case atStart => exact ⟨0, Nat.zero_le _, rfl, (by repeat (first | exact Below.refl _ _ | refine Below.setCell ?_ (by first | omega | (simp <;> omega)) _ | refine Below.alloc ?_ (by first | omega | (simp <;> omega)) _ | refine Below.drew ?_)), Lib.hid (by simp)⟩
    case round =>
      obtain ⟨j, hj, rfl, hbel, HT⟩ := hrel
      have hsz := hbel.size
      by_cases hlt : j < xs.length
      · obtain ⟨b, off, rfl, p0, p1⟩ := (ha.below hbel).at2 hlt
        cases hr : teethB (elt pairF xs j) with
        | true =>
          have HR := Lib.hid hr
          have HT' := Lib.hid (allE_succ (F := pairF) (p := fun r => teethB r = true) hlt HT.out hr)
          clear hr
          go_wp2_with (go_at_call 67; refine (within2_at _ _ (elt pairF xs j).1 (elt pairF xs j).2 _ _ _ (by go_simp) (by go_simp)).mono ?_; rintro e w1 ⟨rfl, hq⟩; subst w1; rw [teethB_and, HR.out])
          go_roundw
          case rel => exact ⟨j + 1, by omega, by go_num, (by repeat (first | exact hbel | refine Below.setCell ?_ (by first | omega | (simp <;> omega)) _ | refine Below.alloc ?_ (by first | omega | (simp <;> omega)) _ | refine Below.drew ?_)), HT'⟩
          case measure => (simp [intOf]) <;> omega
        | false =>
          have HR := Lib.hid hr
          have HF := Lib.hid (trainB_pairs (pairsB_bad hlt hr))
          clear hr
          go_wp2_with (go_at_call 67; refine (within2_at _ _ (elt pairF xs j).1 (elt pairF xs j).2 _ _ _ (by go_simp) (by go_simp)).mono ?_; rintro e w1 ⟨rfl, hq⟩; subst w1; rw [teethB_and, HR.out])
          go_ret
          exact ⟨ret_bool HF.out.symm, (by repeat (first | exact hbel | refine Below.setCell ?_ (by first | omega | (simp <;> omega)) _ | refine Below.alloc ?_ (by first | omega | (simp <;> omega)) _ | refine Below.drew ?_))⟩
      · obtain rfl : j = xs.length := by omega
        have HF := Lib.hid (trainB_yes HN.out (pairsB_allT HT.out))
        go_wp2
        go_ret
        exact ⟨ret_bool HF.out.symm, hbel⟩

theorem implValidTrain_at (a : Option Addr) (c : Nat) (xs : List (Int × Int)) (w : World) {b : Bool} (hb : trainB xs = b) (ha : RdF pairF w a xs) (hz : All2 xs) :
    Calls Try.prog 37 #[.slice a xs.length c] w fun e w' => e = .returned (.bool b) ∧ Below w.heap.size w w' := by
  subst hb; exact implValidTrain a c xs w ha hz
end Go.Proofs.Ytaefgkhbgljkoaa
