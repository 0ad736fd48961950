/-
  StrokeBack, by the program and by the model.
-/
import Derived.Test.YtmjeiagkdcfeiaaProg
import Derived.Test.YtmjeiagkdcfeiaaMacM
namespace Go.Proofs.Ytmjeiagkdcfeiaa
open Go.RowKit

set_option maxHeartbeats 1000000 in
theorem implStrokeBack (k : Int) (w : World) (_ : I64 k) :
    Calls Try.prog 12 #[.int .i64 k] w fun e w' => e = .returned (.tuple #[.int .i64 (sbR k).1, .int .i64 (sbR k).2]) ∧ Below w.heap.size w w' := by
  have R := Try.results12
  rcases (show k = 1 ∨ k = 2 ∨ k = 3 ∨ k = 4 ∨ k = 5 ∨ k = 6 ∨ (k ≠ 1 ∧ k ≠ 2 ∧ k ≠ 3 ∧ k ≠ 4 ∧ k ≠ 5 ∧ k ≠ 6) by omega) with h | h | h | h | h | h | ⟨h1, h2, h3, h4, h5, h6⟩
  all_goals
    first
    | (subst h
       go_enter Try.func12, Try.ntmps12
       go_wp2
       first
       | exact bodyPost_ret (v := .tuple #[.int .i64 2, .int .i64 0]) (by simp [results, go_sem]) rfl ⟨rfl, Below.refl _ _⟩
       | exact bodyPost_ret (v := .tuple #[.int .i64 1, .int .i64 0]) (by simp [results, go_sem]) rfl ⟨rfl, Below.refl _ _⟩
       | exact bodyPost_ret (v := .tuple #[.int .i64 4, .int .i64 0]) (by simp [results, go_sem]) rfl ⟨rfl, Below.refl _ _⟩
       | exact bodyPost_ret (v := .tuple #[.int .i64 3, .int .i64 0]) (by simp [results, go_sem]) rfl ⟨rfl, Below.refl _ _⟩
       | exact bodyPost_ret (v := .tuple #[.int .i64 0, .int .i64 3]) (by simp [results, go_sem]) rfl ⟨rfl, Below.refl _ _⟩)
    | (have HR := Lib.hid (show sbR k = (0, 2) by simp [sbR, h1, h2, h3, h4, h5, h6])
       have e1 : (k == 1) = false := by simp [h1]
       have e2 : (k == 2) = false := by simp [h2]
       have e3 : (k == 3) = false := by simp [h3]
       have e4 : (k == 4) = false := by simp [h4]
       have e5 : (k == 5) = false := by simp [h5]
       have e6 : (k == 6) = false := by simp [h6]
       clear h1 h2 h3 h4 h5 h6
       go_enter Try.func12, Try.ntmps12
       go_wp2
       exact bodyPost_ret (v := .tuple #[.int .i64 0, .int .i64 2]) (by simp [results, go_sem]) rfl ⟨by rw [HR.out], Below.refl _ _⟩)

set_option maxHeartbeats 1000000 in
theorem specStrokeBack (k : Int) (w : World) (_ : I64 k) :
    Calls Try.prog 11 #[.int .i64 k] w fun e w' => e = .returned (.tuple #[.int .i64 (sbR k).1, .int .i64 (sbR k).2]) ∧ Below w.heap.size w w' := by
  have R := Try.results11
  rcases (show k = 1 ∨ k = 2 ∨ k = 3 ∨ k = 4 ∨ k = 5 ∨ k = 6 ∨ (k ≠ 1 ∧ k ≠ 2 ∧ k ≠ 3 ∧ k ≠ 4 ∧ k ≠ 5 ∧ k ≠ 6) by omega) with h | h | h | h | h | h | ⟨h1, h2, h3, h4, h5, h6⟩
  all_goals
    first
    | (subst h
       go_enter Try.func11, Try.ntmps11
       go_wp2
       first
       | exact bodyPost_ret (v := .tuple #[.int .i64 2, .int .i64 0]) (by simp [results, go_sem]) rfl ⟨rfl, Below.refl _ _⟩
       | exact bodyPost_ret (v := .tuple #[.int .i64 1, .int .i64 0]) (by simp [results, go_sem]) rfl ⟨rfl, Below.refl _ _⟩
       | exact bodyPost_ret (v := .tuple #[.int .i64 4, .int .i64 0]) (by simp [results, go_sem]) rfl ⟨rfl, Below.refl _ _⟩
       | exact bodyPost_ret (v := .tuple #[.int .i64 3, .int .i64 0]) (by simp [results, go_sem]) rfl ⟨rfl, Below.refl _ _⟩
       | exact bodyPost_ret (v := .tuple #[.int .i64 0, .int .i64 3]) (by simp [results, go_sem]) rfl ⟨rfl, Below.refl _ _⟩)
    | (have HR := Lib.hid (show sbR k = (0, 2) by simp [sbR, h1, h2, h3, h4, h5, h6])
       have e1 : (k == 1) = false := by simp [h1]
       have e2 : (k == 2) = false := by simp [h2]
       have e3 : (k == 3) = false := by simp [h3]
       have e4 : (k == 4) = false := by simp [h4]
       have e5 : (k == 5) = false := by simp [h5]
       have e6 : (k == 6) = false := by simp [h6]
       clear h1 h2 h3 h4 h5 h6
       go_enter Try.func11, Try.ntmps11
       go_wp2
       exact bodyPost_ret (v := .tuple #[.int .i64 0, .int .i64 2]) (by simp [results, go_sem]) rfl ⟨by rw [HR.out], Below.refl _ _⟩)
end Go.Proofs.Ytmjeiagkdcfeiaa
