/-
  JoinSignals, CarryThrough: the program's and the model's; the sign of a signal.
-/
import Derived.Test.YtcfpfhlgcfmioaaSigM
import Derived.Test.YtcfpfhlgcfmioaaWithin
namespace Go.Proofs.Ytcfpfhlgcfmioaa
open Go.RowKit

/-- A signal as a value. -/
def sgV (x : Bool × Bool) : Value := .agg #[.bool x.1, .bool x.2]

set_option maxHeartbeats 4000000 in
theorem joinI_any (x y : Bool × Bool) (w : World) : Calls Try.prog 33 #[.agg #[.bool x.1, .bool x.2], .agg #[.bool y.1, .bool y.2]] w fun e w' => e = .returned (sgV (jn x y)) ∧ Below w.heap.size w w' := by
  obtain ⟨x0, x1⟩ := x
  obtain ⟨y0, y1⟩ := y
  cases x0 <;> cases x1 <;> cases y0 <;> cases y1
  all_goals
    go_enter Try.func33, Try.ntmps33
    go_wp2
    first
      | exact bodyPost_ret (v := .agg #[.bool false, .bool false]) (by simp [results, Try.results33, go_sem]) rfl ⟨rfl, (by repeat (first | exact Below.refl _ _ | refine Below.setCell ?_ (by first | omega | (simp <;> omega)) _ | refine Below.alloc ?_ (by first | omega | (simp <;> omega)) _ | refine Below.drew ?_))⟩
      | exact bodyPost_ret (v := .agg #[.bool true, .bool false]) (by simp [results, Try.results33, go_sem]) rfl ⟨rfl, (by repeat (first | exact Below.refl _ _ | refine Below.setCell ?_ (by first | omega | (simp <;> omega)) _ | refine Below.alloc ?_ (by first | omega | (simp <;> omega)) _ | refine Below.drew ?_))⟩
      | exact bodyPost_ret (v := .agg #[.bool false, .bool true]) (by simp [results, Try.results33, go_sem]) rfl ⟨rfl, (by repeat (first | exact Below.refl _ _ | refine Below.setCell ?_ (by first | omega | (simp <;> omega)) _ | refine Below.alloc ?_ (by first | omega | (simp <;> omega)) _ | refine Below.drew ?_))⟩
      | exact bodyPost_ret (v := .agg #[.bool true, .bool true]) (by simp [results, Try.results33, go_sem]) rfl ⟨rfl, (by repeat (first | exact Below.refl _ _ | refine Below.setCell ?_ (by first | omega | (simp <;> omega)) _ | refine Below.alloc ?_ (by first | omega | (simp <;> omega)) _ | refine Below.drew ?_))⟩
theorem implJoinSignals (x y : Bool × Bool) (w : World) : Calls Try.prog 33 #[.agg #[.bool x.1, .bool x.2], .agg #[.bool y.1, .bool y.2]] w fun e w' => e = .returned (.agg #[.bool (jn x y).1, .bool (jn x y).2]) ∧ Below w.heap.size w w' := joinI_any x y w

set_option maxHeartbeats 4000000 in
theorem specJoinSignals (x y : Bool × Bool) (w : World) : Calls Try.prog 37 #[.agg #[.bool x.1, .bool x.2], .agg #[.bool y.1, .bool y.2]] w fun e w' => e = .returned (.agg #[.bool (jn x y).1, .bool (jn x y).2]) ∧ Below w.heap.size w w' := by
  obtain ⟨x0, x1⟩ := x
  obtain ⟨y0, y1⟩ := y
  cases x0 <;> cases x1 <;> cases y0 <;> cases y1
  all_goals
    go_enter Try.func37, Try.ntmps37
    go_wp2
    first
      | exact bodyPost_ret (v := .agg #[.bool false, .bool false]) (by simp [results, Try.results37, go_sem]) rfl ⟨rfl, (by repeat (first | exact Below.refl _ _ | refine Below.setCell ?_ (by first | omega | (simp <;> omega)) _ | refine Below.alloc ?_ (by first | omega | (simp <;> omega)) _ | refine Below.drew ?_))⟩
      | exact bodyPost_ret (v := .agg #[.bool true, .bool false]) (by simp [results, Try.results37, go_sem]) rfl ⟨rfl, (by repeat (first | exact Below.refl _ _ | refine Below.setCell ?_ (by first | omega | (simp <;> omega)) _ | refine Below.alloc ?_ (by first | omega | (simp <;> omega)) _ | refine Below.drew ?_))⟩
      | exact bodyPost_ret (v := .agg #[.bool false, .bool true]) (by simp [results, Try.results37, go_sem]) rfl ⟨rfl, (by repeat (first | exact Below.refl _ _ | refine Below.setCell ?_ (by first | omega | (simp <;> omega)) _ | refine Below.alloc ?_ (by first | omega | (simp <;> omega)) _ | refine Below.drew ?_))⟩
      | exact bodyPost_ret (v := .agg #[.bool true, .bool true]) (by simp [results, Try.results37, go_sem]) rfl ⟨rfl, (by repeat (first | exact Below.refl _ _ | refine Below.setCell ?_ (by first | omega | (simp <;> omega)) _ | refine Below.alloc ?_ (by first | omega | (simp <;> omega)) _ | refine Below.drew ?_))⟩

set_option maxHeartbeats 4000000 in
theorem l07Through_any (x : Bool × Bool) (c : Int) (w : World) : Calls Try.prog 98 #[.agg #[.bool x.1, .bool x.2], .int .i64 c] w fun e w' => e = .returned (.int .i64 (thr x c)) ∧ Below w.heap.size w w' := by
  obtain ⟨x0, x1⟩ := x
  by_cases h : c = 1
  · subst h
    cases x0 <;> cases x1
    all_goals
      go_enter Try.func98, Try.ntmps98
      go_wp2
      go_ret
      exact ⟨rfl, (by repeat (first | exact Below.refl _ _ | refine Below.setCell ?_ (by first | omega | (simp <;> omega)) _ | refine Below.alloc ?_ (by first | omega | (simp <;> omega)) _ | refine Below.drew ?_))⟩
  · have hc : (c == 1) = false := by simp [h]
    clear h
    cases x0 <;> cases x1
    all_goals
      go_enter Try.func98, Try.ntmps98
      go_wp2
      go_ret
      exact ⟨ret_int (by simp [thr, hc]), (by repeat (first | exact Below.refl _ _ | refine Below.setCell ?_ (by first | omega | (simp <;> omega)) _ | refine Below.alloc ?_ (by first | omega | (simp <;> omega)) _ | refine Below.drew ?_))⟩

set_option maxHeartbeats 4000000 in
theorem carryOut_any (x : Bool × Bool) (c : Int) (w : World) : Calls Try.prog 97 #[.agg #[.bool x.1, .bool x.2], .int .i64 c] w fun e w' => e = .returned (.int .i64 (thr x c)) ∧ Below w.heap.size w w' := by
  obtain ⟨x0, x1⟩ := x
  by_cases h : c = 1
  · subst h
    cases x0 <;> cases x1
    all_goals
      go_enter Try.func97, Try.ntmps97
      go_wp2
      go_ret
      exact ⟨rfl, (by repeat (first | exact Below.refl _ _ | refine Below.setCell ?_ (by first | omega | (simp <;> omega)) _ | refine Below.alloc ?_ (by first | omega | (simp <;> omega)) _ | refine Below.drew ?_))⟩
  · have hc : (c == 1) = false := by simp [h]
    clear h
    cases x0 <;> cases x1
    all_goals
      go_enter Try.func97, Try.ntmps97
      go_wp2
      go_ret
      exact ⟨ret_int (by simp [thr, hc]), (by repeat (first | exact Below.refl _ _ | refine Below.setCell ?_ (by first | omega | (simp <;> omega)) _ | refine Below.alloc ?_ (by first | omega | (simp <;> omega)) _ | refine Below.drew ?_))⟩

theorem ctR_in {x : Bool × Bool} {c : Int} (h : inB c 0 1 = true) : ctR x c = (thr x c, 0) := by simp [ctR, h]
theorem ctR_out {x : Bool × Bool} {c : Int} (h : inB c 0 1 = false) : ctR x c = (0, 2) := by simp [ctR, h]
end Go.Proofs.Ytcfpfhlgcfmioaa
