/-
  laws.toRegister: a register with digits of its own.
-/
import Derived.Test.YtlahobdopmdfmaaDoorToI
namespace Go.Proofs.YtlahobdopmdfmaaDoor
open Go.RowKit

set_option maxHeartbeats 400000 in
theorem toRegister_any (B : Int) (a : Option Addr) (c : Nat) (zs : List Int) (w : World) (ha : Rd w a zs) :
    Calls Tryd.prog 82 #[.agg #[.int .i64 B, .slice a zs.length c]] w fun e w' => ∃ A C, e = .returned (.agg #[.int .i64 B, .slice A zs.length C]) ∧
      Own 2 w' w.heap.size w'.heap.size (.slice A zs.length C) zs ∧ Below w.heap.size w w' := by
  go_enter Tryd.func82, Tryd.ntmps82
  go_wp2_with fail
  refine (toInt64S_any a c zs _ ?_).mono ?_
  · exact ha.below ((((Below.refl _ _).alloc (Nat.le_refl _) _).alloc (by simp) _).alloc (by simp; omega) _)
  rintro e w1 ⟨A, C, rfl, hown, hb⟩
  obtain ⟨hc, hf⟩ := bcell hb
  have hz : w.heap.size + 2 < w1.heap.size := by have := hb.size; simp at this; omega
  go_wp2
  exact bodyPost_ret (v := .agg #[.int .i64 B, .slice A zs.length C]) (by simp [results, Tryd.results82, go_sem, hc]) rfl
    ⟨A, C, rfl, (((hown.setCell (p := ⟨w.heap.size + 2, 1, none⟩) (.inl (by simp)) _).setCell (p := ⟨w.heap.size + 1, 0, none⟩) (.inl (by simp)) _).setCell (p := ⟨w.heap.size + 1, 1, none⟩) (.inl (by simp)) _).wide (by simp <;> omega) (by simp),
      (((((((Below.refl _ _).alloc (Nat.le_refl _) _).alloc (by simp) _).alloc (by simp <;> omega) _).trans (hb.mono (by simp <;> omega))).setCell (by simp <;> omega) _).setCell (by simp) _).setCell (by simp) _⟩
end Go.Proofs.YtlahobdopmdfmaaDoor
