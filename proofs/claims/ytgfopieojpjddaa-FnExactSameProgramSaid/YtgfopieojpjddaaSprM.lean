/-
  SameProgram, in the model and in the program.
-/
import Derived.Test.YtgfopieojpjddaaFlat
import Derived.Test.YtgfopieojpjddaaProg
namespace Go.Proofs.Ytgfopieojpjddaa
open Go.RowKit

set_option maxHeartbeats 1000000 in
theorem instrEqual_any (a b : Option Addr) (c d : Nat) (xs ys : List (Int × Int)) (w : World) (ha : RdF pairF w a xs) (hb : RdF pairF w b ys) :
    Calls Try.prog 29 #[.slice a xs.length c, .slice b ys.length d] w fun e w' => e = .returned (.bool (decide (xs = ys))) ∧ Below w.heap.size w w' := by
  have hx1 := ha.len
  have hy1 := hb.len
  by_cases hl : xs.length = ys.length
  · have ht : ((xs.length : Int) != (ys.length : Int)) = false := by simp [hl]
    have HL := Lib.hid hl
    clear hl
    go_enter Try.func29, Try.ntmps29
    go_wp2
    go_loopw [5, 13] (fun _ i wr => ∃ k : Nat, k ≤ xs.length ∧ i = .int .i64 k ∧ Below w.heap.size w wr ∧ Hid (xs.take k = ys.take k)) (fun _ i _ => xs.length - (intOf i).toNat)
    case atStart => exact ⟨0, Nat.zero_le _, rfl, Below.refl _ _, Lib.hid (by simp)⟩
    case round =>
      obtain ⟨k, hk, rfl, hbel, HT⟩ := hrel
      by_cases hlt : k < xs.length
      · have hlt' : k < ys.length := by rw [← HL.out]; exact hlt
        obtain ⟨b1, o1, rfl, p0, p1⟩ := (ha.below hbel).at2 hlt
        obtain ⟨b2, o2, rfl, q0, q1⟩ := (hb.below hbel).at2 hlt'
        have HN := Lib.hid (fun (he : elt pairF xs k = elt pairF ys k) => takeE_snoc (F := pairF) hlt HL.out HT.out he)
        have HM := Lib.hid (fun (he : ¬ elt pairF xs k = elt pairF ys k) => neE_of_at (F := pairF) he)
        generalize elt pairF xs k = x at *
        generalize elt pairF ys k = y at *
        by_cases he : x = y
        · have HN2 := Lib.hid (HN.out he)
          clear HN HM
          subst he
          have e0 : (x.1 != x.1) = false := by simp
          have e1 : (x.2 != x.2) = false := by simp
          have hbx := hbel.drew
          go_wp2
          go_quiet (fail)
          go_wp2
          go_roundw
          case rel => exact ⟨k + 1, by omega, by go_num, bel_drewN hbel _, HN2⟩
          case measure => (simp [intOf]) <;> omega
        · by_cases h0 : x.1 = y.1
          · have h1 : ¬ x.2 = y.2 := fun h1 => he (Prod.ext h0 h1)
            have e0 : (x.1 == y.1) = true := by simp [h0]
            have e1 : (x.2 == y.2) = false := by simp [h1]
            have HE := Lib.hid (HM.out he)
            clear he
            go_wp2
            go_quiet (fail)
            go_wp2
            go_ret
            exact ⟨ret_bool (decide_eq_false HE.out).symm, bel_drewN hbel _⟩
          · have e0 : (x.1 == y.1) = false := by simp [h0]
            have HE := Lib.hid (HM.out he)
            clear he
            go_wp2
            go_quiet (fail)
            go_wp2
            go_ret
            exact ⟨ret_bool (decide_eq_false HE.out).symm, bel_drewN hbel _⟩
      · obtain rfl : k = xs.length := by omega
        have HE := Lib.hid (takeE_all HL.out HT.out)
        go_wp2
        go_ret
        exact ⟨ret_bool (decide_eq_true HE.out).symm, hbel⟩
  · have ht : ((xs.length : Int) != (ys.length : Int)) = true := by simp; omega
    have HL := Lib.hid (show ¬ xs = ys from fun h => hl (by rw [h]))
    clear hl
    go_enter Try.func29, Try.ntmps29
    go_wp2
    go_ret
    exact ⟨ret_bool (decide_eq_false HL.out).symm, Below.refl _ _⟩

set_option maxHeartbeats 1000000 in
theorem sameProgramS_any (a b : Option Addr) (c d : Nat) (xs ys : List (Int × Int)) (w : World) (ha : RdF pairF w a xs) (hb : RdF pairF w b ys) :
    Calls Try.prog 13 #[.slice a xs.length c, .slice b ys.length d] w fun e w' => e = .returned (.bool (decide (xs = ys))) ∧ Below w.heap.size w w' := by
  have hx1 := ha.len
  have hy1 := hb.len
  by_cases hl : xs.length = ys.length
  · have ht : ((xs.length : Int) != (ys.length : Int)) = false := by simp [hl]
    have HL := Lib.hid hl
    clear hl
    go_enter Try.func13, Try.ntmps13
    go_wp2
    go_loopw [5] (fun i wr => ∃ k : Nat, k ≤ xs.length ∧ i = .int .i64 k ∧ Below w.heap.size w wr ∧ Hid (xs.take k = ys.take k)) (fun i _ => xs.length - (intOf i).toNat)
    case atStart => exact ⟨0, Nat.zero_le _, rfl, Below.refl _ _, Lib.hid (by simp)⟩
    case round =>
      obtain ⟨k, hk, rfl, hbel, HT⟩ := hrel
      by_cases hlt : k < xs.length
      · have hlt' : k < ys.length := by rw [← HL.out]; exact hlt
        obtain ⟨b1, o1, rfl, p0, p1⟩ := (ha.below hbel).at2 hlt
        obtain ⟨b2, o2, rfl, q0, q1⟩ := (hb.below hbel).at2 hlt'
        have HN := Lib.hid (fun (he : elt pairF xs k = elt pairF ys k) => takeE_snoc (F := pairF) hlt HL.out HT.out he)
        have HM := Lib.hid (fun (he : ¬ elt pairF xs k = elt pairF ys k) => neE_of_at (F := pairF) he)
        generalize elt pairF xs k = x at *
        generalize elt pairF ys k = y at *
        by_cases he : x = y
        · have HN2 := Lib.hid (HN.out he)
          clear HN HM
          subst he
          have e0 : (x.1 != x.1) = false := by simp
          have e1 : (x.2 != x.2) = false := by simp
          have hbx := hbel.drew
          go_wp2
          go_quiet (fail)
          go_wp2
          go_roundw
          case rel => exact ⟨k + 1, by omega, by go_num, bel_drewN hbel _, HN2⟩
          case measure => (simp [intOf]) <;> omega
        · by_cases h0 : x.1 = y.1
          · have h1 : ¬ x.2 = y.2 := fun h1 => he (Prod.ext h0 h1)
            have e0 : (x.1 == y.1) = true := by simp [h0]
            have e1 : (x.2 == y.2) = false := by simp [h1]
            have HE := Lib.hid (HM.out he)
            clear he
            go_wp2
            go_quiet (fail)
            go_wp2
            go_ret
            exact ⟨ret_bool (decide_eq_false HE.out).symm, bel_drewN hbel _⟩
          · have e0 : (x.1 == y.1) = false := by simp [h0]
            have HE := Lib.hid (HM.out he)
            clear he
            go_wp2
            go_quiet (fail)
            go_wp2
            go_ret
            exact ⟨ret_bool (decide_eq_false HE.out).symm, bel_drewN hbel _⟩
      · obtain rfl : k = xs.length := by omega
        have HE := Lib.hid (takeE_all HL.out HT.out)
        go_wp2
        go_ret
        exact ⟨ret_bool (decide_eq_true HE.out).symm, hbel⟩
  · have ht : ((xs.length : Int) != (ys.length : Int)) = true := by simp; omega
    have HL := Lib.hid (show ¬ xs = ys from fun h => hl (by rw [h]))
    clear hl
    go_enter Try.func13, Try.ntmps13
    go_wp2
    go_ret
    exact ⟨ret_bool (decide_eq_false HL.out).symm, Below.refl _ _⟩

theorem specSameProgram (a : Option Addr) (c : Nat) (xs : List (Int × Int)) (b : Option Addr) (d : Nat) (ys : List (Int × Int)) (w : World) (ha : RdF pairF w a xs) (_ : All2 xs) (hb : RdF pairF w b ys) (_ : All2 ys) :
    Calls Try.prog 13 #[.slice a xs.length c, .slice b ys.length d] w fun e w' => e = .returned (.bool (decide (xs = ys))) ∧ Below w.heap.size w w' := sameProgramS_any a b c d xs ys w ha hb

theorem implSameProgram (a : Option Addr) (c : Nat) (xs : List (Int × Int)) (b : Option Addr) (d : Nat) (ys : List (Int × Int)) (w : World) (ha : RdF pairF w a xs) (_ : All2 xs) (hb : RdF pairF w b ys) (_ : All2 ys) :
    Calls Try.prog 14 #[.slice a xs.length c, .slice b ys.length d] w fun e w' => e = .returned (.bool (decide (xs = ys))) ∧ Below w.heap.size w w' := by
  go_enter Try.func14, Try.ntmps14
  go_wp2_with fail
  refine (instrEqual_any a b c d xs ys w ha hb).mono ?_
  rintro e w1 ⟨rfl, hb1⟩
  go_wp2
  go_ret
  exact ⟨rfl, hb1⟩
end Go.Proofs.Ytgfopieojpjddaa
