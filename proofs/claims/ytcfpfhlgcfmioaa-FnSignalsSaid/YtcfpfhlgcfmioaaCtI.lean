/-
  CarryThrough: the program's and the model's.
-/
import Derived.Test.YtcfpfhlgcfmioaaSigI
namespace Go.Proofs.Ytcfpfhlgcfmioaa
open Go.RowKit

set_option maxHeartbeats 1000000 in
theorem specCarryThrough (x : Bool × Bool) (c : Int) (w : World) (_ : I64 c) : Calls Try.prog 36 #[.agg #[.bool x.1, .bool x.2], .int .i64 c] w fun e w' => e = .returned (.tuple #[.int .i64 (ctR x c).1, .int .i64 (ctR x c).2]) ∧ Below w.heap.size w w' := by
  cases h : inB c 0 1 with
  | true =>
    have HR := Lib.hid (ctR_in (x := x) h)
    have HI := fun v => Lib.hid (l00In_true c 0 1 v (inB_true h).1 (inB_true h).2)
    clear h
    go_enter Try.func36, Try.ntmps36
    go_wp2_with fail
    refine (HI _).out.mono ?_
    rintro e w1 ⟨rfl, hq⟩
    subst w1
    go_wp2_with fail
    refine (l07Through_any x c _).mono ?_
    rintro e w1 ⟨rfl, hb⟩
    go_wp2
    exact bodyPost_ret (v := .tuple #[.int .i64 (thr x c), .int .i64 0]) (by simp [results, Try.results36, go_sem]) rfl ⟨by rw [HR.out], ((Below.refl _ _).alloc (Nat.le_refl _) _).trans (hb.mono (by simp))⟩
  | false =>
    have HR := Lib.hid (ctR_out (x := x) h)
    have HI := fun v => Lib.hid (l00In_false c 0 1 v (inB_false h))
    clear h
    go_enter Try.func36, Try.ntmps36
    go_wp2_with fail
    refine (HI _).out.mono ?_
    rintro e w1 ⟨rfl, hq⟩
    subst w1
    go_wp2
    exact bodyPost_ret (v := .tuple #[.int .i64 0, .int .i64 2]) (by simp [results, Try.results36, go_sem]) rfl ⟨by rw [HR.out], (by repeat (first | exact Below.refl _ _ | refine Below.setCell ?_ (by first | omega | (simp <;> omega)) _ | refine Below.alloc ?_ (by first | omega | (simp <;> omega)) _ | refine Below.drew ?_))⟩

set_option maxHeartbeats 1000000 in
theorem implCarryThrough (x : Bool × Bool) (c : Int) (w : World) (_ : I64 c) : Calls Try.prog 35 #[.agg #[.bool x.1, .bool x.2], .int .i64 c] w fun e w' => e = .returned (.tuple #[.int .i64 (ctR x c).1, .int .i64 (ctR x c).2]) ∧ Below w.heap.size w w' := by
  have hbel : Below w.heap.size w ((w.alloc (.cells #[.bool x.1, .bool x.2] 51)).alloc (.cells #[.int .i64 c] 2)) := (by repeat (first | exact Below.refl _ _ | refine Below.setCell ?_ (by first | omega | (simp <;> omega)) _ | refine Below.alloc ?_ (by first | omega | (simp <;> omega)) _ | refine Below.drew ?_))
  cases h : inB c 0 1 with
  | true =>
    have HR := Lib.hid (ctR_in (x := x) h)
    go_enter Try.func35, Try.ntmps35
    go_wp2_with fail
    refine (within1_at 0 1 c _ (w.heap.size + 1) 1 (by go_simp)).mono ?_
    rw [h]
    clear h
    rintro e w1 ⟨rfl, hq⟩
    subst w1
    go_wp2_with fail
    refine (carryOut_any x c _).mono ?_
    rintro e w1 ⟨rfl, hb⟩
    go_wp2
    exact bodyPost_ret (v := .tuple #[.int .i64 (thr x c), .int .i64 0]) (by simp [results, Try.results35, go_sem]) rfl ⟨by rw [HR.out], hbel.trans (hb.mono hbel.size)⟩
  | false =>
    have HR := Lib.hid (ctR_out (x := x) h)
    go_enter Try.func35, Try.ntmps35
    go_wp2_with fail
    refine (within1_at 0 1 c _ (w.heap.size + 1) 1 (by go_simp)).mono ?_
    rw [h]
    clear h
    rintro e w1 ⟨rfl, hq⟩
    subst w1
    go_wp2
    exact bodyPost_ret (v := .tuple #[.int .i64 0, .int .i64 2]) (by simp [results, Try.results35, go_sem]) rfl ⟨by rw [HR.out], hbel⟩
end Go.Proofs.Ytcfpfhlgcfmioaa
