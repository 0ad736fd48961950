/-
  spec.l04Chain, ValidChain.
-/
import Derived.Test.YtaefgkhbgljkoaaOwn2
import Derived.Test.YtaefgkhbgljkoaaGear
import Derived.Test.YtaefgkhbgljkoaaGcdS
import Derived.Deep.Cut
import Derived.IntWalk
namespace Go.Proofs.Ytaefgkhbgljkoaa
open Go.RowKit

theorem l04Place_any (n : Int) (w : World) : Calls Try.prog 87 #[.int .i64 n] w fun e w' => e = .returned (.bool (inB n (-1000000) 1000000)) ∧ w' = w := by
  go_enter Try.func87, Try.ntmps87
  go_wp2_with (go_at_call 78; refine (l00In_any _ _ _ _).mono ?_; rintro e w1 ⟨rfl, hq⟩; subst w1)
  go_ret
  exact ⟨rfl, rfl⟩

theorem joinedAt_trueS {pl ps : List Int} {k : Nat} (h : joinedAt pl ps k = true) : ((nth ps k - nth ps (k + 1)).natAbs : Int) ≤ nth pl k := by simp [joinedAt] at h; omega
theorem joinedAt_falseS {pl ps : List Int} {k : Nat} (h : joinedAt pl ps k = false) : nth pl k < ((nth ps k - nth ps (k + 1)).natAbs : Int) := by simp [joinedAt] at h; omega
theorem chainB_at {p q : List Int} (hK : linksB p q = true) (hq : rangeB (-1000000) 1000000 q = true) : chainB p q = (rangeB 0 100 p && joinedTo p q p.length) := by rw [chainB, hK, hq]; simp

set_option maxHeartbeats 4000000 in
theorem l04Chain_any (g : Nat) (a : Option Addr) (c : Nat) (p : List Int) (b : Option Addr) (d : Nat) (q : List Int) (w : World) (h : Rd2 w a p b q) (h0 : w.cell? ⟨g, 0, none⟩ = some (.slice a p.length c)) (h1 : w.cell? ⟨g, 1, none⟩ = some (.slice b q.length d)) :
    Calls Try.prog 73 #[.pointer (some ⟨g, 0, none⟩)] w fun e w' => e = .returned (.bool (chainB p q)) ∧ ∃ m, w' = w.drewN m := by
  have hx := h.len
  cases hn : inB (p.length : Int) 1 10 with
  | false =>
    have HF := Lib.hid (show chainB p q = false by
      rw [chainB, show linksB p q = false by rw [linksB, decide_eq_false]; have := inB_false hn; omega, Bool.false_and])
    go_enter Try.func73, Try.ntmps73
    go_upto_region 1 with fail
    go_quiet ((go_at_call 78; exact Calls.quiet_of_same (l00In_any _ _ _ _)))
    go_wp2
    go_ret
    exact ⟨ret_bool HF.out.symm, _, rfl⟩
  | true =>
    obtain ⟨n0, n1⟩ := inB_true hn
    have hw1 : IntKind.i64.wrap ((p.length : Int) + 1) = (p.length : Int) + 1 := IntWalk.i64_in _ (by omega)
    by_cases hl : q.length = p.length + 1
    · have HL := Lib.hid hl
      have hne : ((q.length : Int) != (p.length : Int) + 1) = false := by simp; omega
      have HK := Lib.hid (show linksB p q = true by rw [linksB, decide_eq_true]; omega)
      clear hl
      go_enter Try.func73, Try.ntmps73
      go_upto_region 1 with fail
      go_quiet ((go_at_call 78; exact Calls.quiet_of_same (l00In_any _ _ _ _)))
      go_wp2
      clear hn hne hw1
      go_loopw [3] (fun i wr => ∃ j m : Nat, j ≤ q.length ∧ i = .int .i64 j ∧ Hid (wr = w.drewN m) ∧ Hid (∀ z ∈ q.take j, inB z (-1000000) 1000000 = true)) (fun i _ => q.length - (intOf i).toNat)
      case atStart => exact ⟨0, _, Nat.zero_le _, rfl, Lib.hid rfl, Lib.hid (by simp)⟩
      case round =>
        obtain ⟨j, m, hj, rfl, HW, HT⟩ := hrel
        have hb : Below w.heap.size w wr := by rw [HW.out]; exact bel_drewN (Below.refl _ _) m
        have e0 := kept hb h0
        have e1 := kept hb h1
        by_cases hlt : j < q.length
        · obtain ⟨b1, o1, rfl, hc⟩ := (h.q.below hb).at_ hlt
          cases hr : inB (nth q j) (-1000000) 1000000 with
          | true =>
            have HR := Lib.hid hr
            have HT' := Lib.hid (all_takeZ (p := fun z => inB z (-1000000) 1000000 = true) hlt HT.out hr)
            clear hr
            go_wp2_with (go_at_call 87; refine (l04Place_any _ _).mono ?_; rintro e w1 ⟨rfl, hq⟩; subst w1; rw [HR.out])
            go_roundw
            case rel => exact ⟨j + 1, _, by omega, by go_num, HW, HT'⟩
            case measure => (simp [intOf]) <;> omega
          | false =>
            have HR := Lib.hid hr
            have HF := Lib.hid (show chainB p q = false by rw [chainB, rangeB_bad hlt hr, Bool.false_and, Bool.and_false, Bool.and_false])
            clear hr
            go_wp2_with (go_at_call 87; refine (l04Place_any _ _).mono ?_; rintro e w1 ⟨rfl, hq⟩; subst w1; rw [HR.out])
            go_ret
            exact ⟨ret_bool HF.out.symm, _, HW.out⟩
        · obtain rfl : j = q.length := by omega
          have HQ := Lib.hid (rangeB_allT HT.out)
          have HC := Lib.hid (chainB_at HK.out HQ.out)
          clear HT
          go_wp2
          go_loopw [4] (fun i wr => ∃ j m : Nat, j ≤ p.length ∧ i = .int .i64 j ∧ Hid (wr = w.drewN m) ∧ Hid (∀ z ∈ p.take j, inB z 0 100 = true) ∧ Hid (∀ k, k < j → joinedAt p q k = true)) (fun i _ => p.length - (intOf i).toNat)
          case atStart => exact ⟨0, _, Nat.zero_le _, rfl, HW, Lib.hid (by simp), Lib.hid (fun k hk => absurd hk (Nat.not_lt_zero k))⟩
          case round =>
            clear e0 e1 hb HW m
            obtain ⟨j, m, hj, rfl, HW, HT, HJ⟩ := hrel
            have hb : Below w.heap.size w wr := by rw [HW.out]; exact bel_drewN (Below.refl _ _) m
            have e0 := kept hb h0
            have e1 := kept hb h1
            by_cases hlt : j < p.length
            · have hq1 : j < q.length := by have := HL.out; omega
              have hq2 : j + 1 < q.length := by have := HL.out; omega
              obtain ⟨b1, o1, rfl, hc1⟩ := (h.p.below hb).at_ hlt
              obtain ⟨b2, o2, rfl, hc2⟩ := (h.q.below hb).at_ hq1
              obtain ⟨b3, o3, e3, hc3⟩ := (h.q.below hb).at_ hq2
              injection e3 with e3
              injection e3 with e4 e5 _
              subst e4 e5
              have r1 := rangeB_at HQ.out hq1
              have r2 := rangeB_at HQ.out hq2
              have hw1 : IntKind.i64.wrap (nth q j - nth q (j + 1)) = nth q j - nth q (j + 1) := IntWalk.i64_in _ (by omega)
              have HA := Lib.hid (fun v => size_any (nth q j - nth q (j + 1)) v (by omega))
              clear r1 r2
              cases hr : inB (nth p j) 0 100 with
              | true =>
                have HR := Lib.hid hr
                cases hk : joinedAt p q j with
                | true =>
                  have HT' := Lib.hid (all_takeZ (p := fun z => inB z 0 100 = true) hlt HT.out hr)
                  have HJ' := Lib.hid (show ∀ k, k < j + 1 → joinedAt p q k = true from fun k hkj => by
                    rcases Nat.lt_or_ge k j with h1 | h1
                    · exact HJ.out k h1
                    · obtain rfl : k = j := by omega
                      exact hk)
                  have hle := joinedAt_trueS hk
                  have hd : decide (((nth q j - nth q (j + 1)).natAbs : Int) > nth p j) = false := decide_eq_false (by omega)
                  clear hk hle
                  go_upto_region 11 with fail
                  go_quiet (first | (go_at_call 78; exact Calls.quiet_of_same (l00In_any _ _ _ _)) | (go_at_call 99; exact Calls.quiet_of_same (HA.out _)))
                  go_wp2
                  go_roundw
                  case rel => exact ⟨j + 1, _, by omega, by go_num, Lib.hid (by rw [HW.out, drewN_drewN]), HT', HJ'⟩
                  case measure => (simp [intOf]) <;> omega
                | false =>
                  have HF := Lib.hid (show chainB p q = false by rw [HC.out, joinedTo_bad hlt hk, Bool.and_false])
                  have hle := joinedAt_falseS hk
                  have hd : decide (((nth q j - nth q (j + 1)).natAbs : Int) > nth p j) = true := decide_eq_true (by omega)
                  clear hk hle
                  go_upto_region 11 with fail
                  go_quiet (first | (go_at_call 78; exact Calls.quiet_of_same (l00In_any _ _ _ _)) | (go_at_call 99; exact Calls.quiet_of_same (HA.out _)))
                  go_wp2
                  go_ret
                  exact ⟨ret_bool HF.out.symm, _, by rw [HW.out, drewN_drewN]⟩
              | false =>
                have HF := Lib.hid (show chainB p q = false by rw [HC.out, rangeB_bad hlt hr, Bool.false_and])
                go_upto_region 11 with fail
                go_quiet (first | (go_at_call 78; exact Calls.quiet_of_same (l00In_any _ _ _ _)) | (go_at_call 99; exact Calls.quiet_of_same (HA.out _)))
                go_wp2
                go_ret
                exact ⟨ret_bool HF.out.symm, _, by rw [HW.out, drewN_drewN]⟩
            · obtain rfl : j = p.length := by omega
              have HF := Lib.hid (show chainB p q = true by rw [HC.out, rangeB_allT HT.out, joinedTo_all.2 HJ.out]; rfl)
              go_wp2
              go_ret
              exact ⟨ret_bool HF.out.symm, _, HW.out⟩
    · have hne : ((q.length : Int) != (p.length : Int) + 1) = true := by simp; omega
      have HF := Lib.hid (show chainB p q = false by
        rw [chainB, show linksB p q = false by rw [linksB, decide_eq_false]; omega, Bool.false_and])
      clear hl
      go_enter Try.func73, Try.ntmps73
      go_upto_region 1 with fail
      go_quiet ((go_at_call 78; exact Calls.quiet_of_same (l00In_any _ _ _ _)))
      go_wp2
      go_ret
      exact ⟨ret_bool HF.out.symm, _, rfl⟩

theorem l04Chain_at (g : Nat) (a : Option Addr) (c : Nat) (p : List Int) (b : Option Addr) (d : Nat) (q : List Int) (w : World) {x : Bool} (hx : chainB p q = x) (h : Rd2 w a p b q) (h0 : w.cell? ⟨g, 0, none⟩ = some (.slice a p.length c)) (h1 : w.cell? ⟨g, 1, none⟩ = some (.slice b q.length d)) :
    Calls Try.prog 73 #[.pointer (some ⟨g, 0, none⟩)] w fun e w' => e = .returned (.bool x) ∧ Below w.heap.size w w' := by
  subst hx
  refine (l04Chain_any g a c p b d q w h h0 h1).mono ?_
  rintro e w' ⟨rfl, k, rfl⟩
  exact ⟨rfl, bel_drewN (Below.refl _ _) k⟩

theorem specValidChain (a : Option Addr) (c : Nat) (p : List Int) (b : Option Addr) (d : Nat) (q : List Int) (w : World) (h : Rd2 w a p b q) (_ : All64 p ∧ All64 q) :
    Calls Try.prog 31 #[.agg #[.slice a p.length c, .slice b q.length d]] w fun e w' => e = .returned (.bool (chainB p q)) ∧ Below w.heap.size w w' := by
  have hbel : Below w.heap.size w (w.alloc (.cells #[.slice a p.length c, .slice b q.length d] 41)) := (by repeat (first | exact Below.refl _ _ | refine Below.setCell ?_ (by first | omega | (simp <;> omega)) _ | refine Below.alloc ?_ (by first | omega | (simp <;> omega)) _ | refine Below.drew ?_))
  go_enter Try.func31, Try.ntmps31
  go_wp2_with fail
  refine (l04Chain_at w.heap.size a c p b d q _ rfl (h.below hbel) ((Bx.new _ _ _).at_ 0 rfl) ((Bx.new _ _ _).at_ 1 rfl)).mono ?_
  rintro e w1 ⟨rfl, hb⟩
  go_wp2
  go_ret
  exact ⟨rfl, hbel.trans (hb.mono hbel.size)⟩
end Go.Proofs.Ytaefgkhbgljkoaa
