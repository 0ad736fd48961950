/-
  impl.isFaultKind, ValidFaults.
-/
import Derived.Test.YtgfopieojpjddaaDoorFltS
import Derived.Test.YtgfopieojpjddaaDoorWithin
namespace Go.Proofs.YtgfopieojpjddaaDoor
open Go.RowKit

theorem isFaultKind_at {b : Bool} (k : Int) (w : World) (h : inB k 1 3 = b) : Calls Tryd.prog 83 #[.int .i64 k] w fun e w' => e = .returned (.bool b) ∧ w' = w.alloc (.cells #[.int .i64 k] 2) := by
  subst h
  go_enter Tryd.func83, Tryd.ntmps83
  go_wp2_with (go_at_call 70; refine (within1_at _ _ k _ _ _ (by go_simp)).mono ?_; rintro e w1 ⟨rfl, hq⟩; subst w1)
  go_ret
  exact ⟨rfl, rfl⟩

theorem faultAt_two {n : Int} {fs : List (Int × Int)} {j : Nat} (h : inB (elt pairF fs j).1 1 3 = true) : faultAt n fs j = inB (elt pairF fs j).2 (nxtL fs j) (n - 1) := by rw [faultAt, h, Bool.true_and]
theorem faultAt_one {n : Int} {fs : List (Int × Int)} {j : Nat} (h : inB (elt pairF fs j).1 1 3 = false) : faultAt n fs j = false := by rw [faultAt, h, Bool.false_and]

set_option maxHeartbeats 2000000 in
theorem implValidFaults (n : Int) (a : Option Addr) (c : Nat) (xs : List (Int × Int)) (w : World) (_ : I64 n) (ha : RdF pairF w a xs) (_ : All2 xs) :
    Calls Tryd.prog 58 #[.int .i64 n, .slice a xs.length c] w fun e w' => e = .returned (.bool (faultsB n xs)) ∧ Below w.heap.size w w' := by
  have hx := ha.len
  cases hn : inB n 1 16 with
  | false =>
    have HF := Lib.hid (faultsB_out (fs := xs) hn)
    have HN := Lib.hid hn
    clear hn
    go_enter Tryd.func58, Tryd.ntmps58
    go_wp2_with (go_at_call 89; refine (isWidth_at n _ HN.out).mono ?_; rintro e w1 ⟨rfl, hq⟩; subst w1)
    go_ret
    exact ⟨ret_bool HF.out.symm, Below.refl _ _⟩
  | true =>
    have hn' := inB_true hn
    have HN := Lib.hid hn
    clear hn
    go_enter Tryd.func58, Tryd.ntmps58
    go_wp2_with (go_at_call 89; refine (isWidth_at n _ HN.out).mono ?_; rintro e w1 ⟨rfl, hq⟩; subst w1)
    go_loopw [5, 7, 13] (fun l _ i wr => ∃ j : Nat, j ≤ xs.length ∧ l = .int .i64 (nxtL xs j) ∧ i = .int .i64 j ∧ Below w.heap.size w wr ∧ Hid (faultsTo n xs j = true)) (fun _ _ i _ => xs.length - (intOf i).toNat)
    case atStart => exact ⟨0, Nat.zero_le _, rfl, rfl, Below.refl _ _, Lib.hid rfl⟩
    case round =>
      obtain ⟨j, hj, hl, hi, hbel, HT⟩ := hrel
      subst hl hi
      have hsz := hbel.size
      by_cases hlt : j < xs.length
      · obtain ⟨b, off, rfl, p0, p1⟩ := (ha.below hbel).at2 hlt
        cases h1 : inB (elt pairF xs j).1 1 3 with
        | false =>
          have HK := fun v => Lib.hid (isFaultKind_at (elt pairF xs j).1 v h1)
          have HF := Lib.hid (faultsB_bad hlt (faultAt_one (n := n) h1))
          clear h1
          go_wp2_with (go_at_call 83; refine (HK _).out.mono ?_; rintro e w1 ⟨rfl, hq⟩; subst w1)
          go_ret
          exact ⟨ret_bool HF.out.symm, (by repeat (first | exact hbel | refine Below.setCell ?_ (by first | omega | (simp <;> omega)) _ | refine Below.alloc ?_ (by first | omega | (simp <;> omega)) _ | refine Below.drew ?_))⟩
        | true =>
          have HK := fun v => Lib.hid (isFaultKind_at (elt pairF xs j).1 v h1)
          cases h2 : inB (elt pairF xs j).2 (nxtL xs j) (n - 1) with
          | false =>
            have HL := Lib.hid h2
            have HF := Lib.hid (faultsB_bad hlt ((faultAt_two (n := n) h1).trans h2))
            clear h1 h2
            go_wp2_with (first | (go_at_call 83; refine (HK _).out.mono ?_; rintro e w1 ⟨rfl, hq⟩; subst w1) | (go_at_call 70; refine (within1_at _ _ (elt pairF xs j).2 _ _ _ (by go_simp)).mono ?_; rintro e w2 ⟨rfl, hq⟩; subst w2; rw [HL.out]))
            go_ret
            exact ⟨ret_bool HF.out.symm, (by repeat (first | exact hbel | refine Below.setCell ?_ (by first | omega | (simp <;> omega)) _ | refine Below.alloc ?_ (by first | omega | (simp <;> omega)) _ | refine Below.drew ?_))⟩
          | true =>
            have HL := Lib.hid h2
            have hL := inB_true h2
            have h0 := nxtL_pos HT.out j (Nat.le_refl _)
            have HT' := Lib.hid (faultsTo_succ HT.out ((faultAt_two (n := n) h1).trans h2))
            clear h1 h2
            go_wp2_with (first | (go_at_call 83; refine (HK _).out.mono ?_; rintro e w1 ⟨rfl, hq⟩; subst w1) | (go_at_call 70; refine (within1_at _ _ (elt pairF xs j).2 _ _ _ (by go_simp)).mono ?_; rintro e w2 ⟨rfl, hq⟩; subst w2; rw [HL.out]))
            go_roundw
            case rel => exact ⟨j + 1, by omega, by rw [nxtL_succ], by go_num, (by repeat (first | exact hbel | refine Below.setCell ?_ (by first | omega | (simp <;> omega)) _ | refine Below.alloc ?_ (by first | omega | (simp <;> omega)) _ | refine Below.drew ?_)), HT'⟩
            case measure => (simp [intOf]) <;> omega
      · obtain rfl : j = xs.length := by omega
        have HF := Lib.hid (faultsB_all HN.out HT.out)
        go_wp2
        go_ret
        exact ⟨ret_bool HF.out.symm, hbel⟩

theorem implValidFaults_at {v : Bool} (n : Int) (a : Option Addr) (c : Nat) (xs : List (Int × Int)) (w : World) (hv : faultsB n xs = v) (hn : I64 n) (ha : RdF pairF w a xs) (hz : All2 xs) :
    Calls Tryd.prog 58 #[.int .i64 n, .slice a xs.length c] w fun e w' => e = .returned (.bool v) ∧ Below w.heap.size w w' := by
  subst hv; exact implValidFaults n a c xs w hn ha hz
end Go.Proofs.YtgfopieojpjddaaDoor
