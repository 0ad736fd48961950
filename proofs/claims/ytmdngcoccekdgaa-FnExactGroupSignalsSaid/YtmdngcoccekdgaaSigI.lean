/-
  JoinSignals, CarryThrough: the program's and the model's; the sign of a signal.
-/
import Derived.Test.YtmdngcoccekdgaaSigM
import Derived.Test.YtmdngcoccekdgaaWithin
namespace Go.Proofs.Ytmdngcoccekdgaa
open Go.RowKit

/-- A signal as a value. -/
def sgV (x : Bool × Bool) : Value := .agg #[.bool x.1, .bool x.2]

set_option maxHeartbeats 4000000 in
theorem joinI_any (x y : Bool × Bool) (w : World) : Calls Try.prog 141 #[.agg #[.bool x.1, .bool x.2], .agg #[.bool y.1, .bool y.2]] w fun e w' => e = .returned (sgV (jn x y)) ∧ Below w.heap.size w w' := by
  obtain ⟨x0, x1⟩ := x
  obtain ⟨y0, y1⟩ := y
  cases x0 <;> cases x1 <;> cases y0 <;> cases y1
  all_goals
    go_enter Try.func141, Try.ntmps141
    go_wp2
    first
      | exact bodyPost_ret (v := .agg #[.bool false, .bool false]) (by simp [results, Try.results141, go_sem]) rfl ⟨rfl, (by repeat (first | exact Below.refl _ _ | refine Below.setCell ?_ (by first | omega | (simp <;> omega)) _ | refine Below.alloc ?_ (by first | omega | (simp <;> omega)) _ | refine Below.drew ?_))⟩
      | exact bodyPost_ret (v := .agg #[.bool true, .bool false]) (by simp [results, Try.results141, go_sem]) rfl ⟨rfl, (by repeat (first | exact Below.refl _ _ | refine Below.setCell ?_ (by first | omega | (simp <;> omega)) _ | refine Below.alloc ?_ (by first | omega | (simp <;> omega)) _ | refine Below.drew ?_))⟩
      | exact bodyPost_ret (v := .agg #[.bool false, .bool true]) (by simp [results, Try.results141, go_sem]) rfl ⟨rfl, (by repeat (first | exact Below.refl _ _ | refine Below.setCell ?_ (by first | omega | (simp <;> omega)) _ | refine Below.alloc ?_ (by first | omega | (simp <;> omega)) _ | refine Below.drew ?_))⟩
      | exact bodyPost_ret (v := .agg #[.bool true, .bool true]) (by simp [results, Try.results141, go_sem]) rfl ⟨rfl, (by repeat (first | exact Below.refl _ _ | refine Below.setCell ?_ (by first | omega | (simp <;> omega)) _ | refine Below.alloc ?_ (by first | omega | (simp <;> omega)) _ | refine Below.drew ?_))⟩
theorem implJoinSignals (x y : Bool × Bool) (w : World) : Calls Try.prog 141 #[.agg #[.bool x.1, .bool x.2], .agg #[.bool y.1, .bool y.2]] w fun e w' => e = .returned (.agg #[.bool (jn x y).1, .bool (jn x y).2]) ∧ Below w.heap.size w w' := joinI_any x y w

set_option maxHeartbeats 4000000 in
theorem specJoinSignals (x y : Bool × Bool) (w : World) : Calls Try.prog 122 #[.agg #[.bool x.1, .bool x.2], .agg #[.bool y.1, .bool y.2]] w fun e w' => e = .returned (.agg #[.bool (jn x y).1, .bool (jn x y).2]) ∧ Below w.heap.size w w' := by
  obtain ⟨x0, x1⟩ := x
  obtain ⟨y0, y1⟩ := y
  cases x0 <;> cases x1 <;> cases y0 <;> cases y1
  all_goals
    go_enter Try.func122, Try.ntmps122
    go_wp2
    first
      | exact bodyPost_ret (v := .agg #[.bool false, .bool false]) (by simp [results, Try.results122, go_sem]) rfl ⟨rfl, (by repeat (first | exact Below.refl _ _ | refine Below.setCell ?_ (by first | omega | (simp <;> omega)) _ | refine Below.alloc ?_ (by first | omega | (simp <;> omega)) _ | refine Below.drew ?_))⟩
      | exact bodyPost_ret (v := .agg #[.bool true, .bool false]) (by simp [results, Try.results122, go_sem]) rfl ⟨rfl, (by repeat (first | exact Below.refl _ _ | refine Below.setCell ?_ (by first | omega | (simp <;> omega)) _ | refine Below.alloc ?_ (by first | omega | (simp <;> omega)) _ | refine Below.drew ?_))⟩
      | exact bodyPost_ret (v := .agg #[.bool false, .bool true]) (by simp [results, Try.results122, go_sem]) rfl ⟨rfl, (by repeat (first | exact Below.refl _ _ | refine Below.setCell ?_ (by first | omega | (simp <;> omega)) _ | refine Below.alloc ?_ (by first | omega | (simp <;> omega)) _ | refine Below.drew ?_))⟩
      | exact bodyPost_ret (v := .agg #[.bool true, .bool true]) (by simp [results, Try.results122, go_sem]) rfl ⟨rfl, (by repeat (first | exact Below.refl _ _ | refine Below.setCell ?_ (by first | omega | (simp <;> omega)) _ | refine Below.alloc ?_ (by first | omega | (simp <;> omega)) _ | refine Below.drew ?_))⟩

theorem ctR_in {x : Bool × Bool} {c : Int} (h : inB c 0 1 = true) : ctR x c = (thr x c, 0) := by simp [ctR, h]
theorem ctR_out {x : Bool × Bool} {c : Int} (h : inB c 0 1 = false) : ctR x c = (0, 2) := by simp [ctR, h]
end Go.Proofs.Ytmdngcoccekdgaa
