/-
  SameChain, by the program and by the model.
-/
import Derived.Test.YtaefgkhbgljkoaaOwn2
import Derived.Test.YtaefgkhbgljkoaaGear
import Derived.Test.YtaefgkhbgljkoaaSameI
import Derived.Test.YtaefgkhbgljkoaaSliEq
namespace Go.Proofs.Ytaefgkhbgljkoaa
open Go.RowKit

set_option maxHeartbeats 1000000 in
theorem implSameChain (a : Option Addr) (c : Nat) (p : List Int) (b : Option Addr) (d : Nat) (q : List Int) (a' : Option Addr) (c' : Nat) (p' : List Int) (b' : Option Addr) (d' : Nat) (q' : List Int) (w : World) (h : Rd2 w a p b q) (_ : All64 p ∧ All64 q) (h' : Rd2 w a' p' b' q') (_ : All64 p' ∧ All64 q') :
    Calls Try.prog 51 #[.agg #[.slice a p.length c, .slice b q.length d], .agg #[.slice a' p'.length c', .slice b' q'.length d']] w fun e w' => e = .returned (.bool (chEqB p p' q q')) ∧ Below w.heap.size w w' := by
  have hbel : Below w.heap.size w ((w.alloc (.cells #[.slice a p.length c, .slice b q.length d] 41)).alloc (.cells #[.slice a' p'.length c', .slice b' q'.length d'] 41)) := (by repeat (first | exact Below.refl _ _ | refine Below.setCell ?_ (by first | omega | (simp <;> omega)) _ | refine Below.alloc ?_ (by first | omega | (simp <;> omega)) _ | refine Below.drew ?_))
  have HP := Lib.hid (slicesEqual_any a a' c c' p p' ((w.alloc (.cells #[.slice a p.length c, .slice b q.length d] 41)).alloc (.cells #[.slice a' p'.length c', .slice b' q'.length d'] 41)) (h.p.below hbel) (h'.p.below hbel))
  have HQ := Lib.hid (fun n => slicesEqual_any b b' d d' q q' (((w.alloc (.cells #[.slice a p.length c, .slice b q.length d] 41)).alloc (.cells #[.slice a' p'.length c', .slice b' q'.length d'] 41)).drewN n) ((h.q.below hbel).drewN n) ((h'.q.below hbel).drewN n))
  by_cases h1 : p = p'
  · rw [decide_eq_true h1] at HP
    have HE := Lib.hid (show chEqB p p' q q' = decide (q = q') by simp [chEqB, h1])
    clear h1
    go_enter Try.func51, Try.ntmps51
    go_wp2_with (go_at_call 86; first | (with_reducible refine HP.out.mono ?_; rintro e w1 ⟨rfl, n, rfl⟩) | (with_reducible refine (HQ.out _).mono ?_; rintro e w1 ⟨rfl, n2, rfl⟩; rw [drewN_drewN]))
    go_ret
    exact ⟨ret_bool HE.out.symm, bel_drewN hbel _⟩
  · rw [decide_eq_false h1] at HP
    have HE := Lib.hid (show chEqB p p' q q' = false by simp [chEqB, h1])
    clear h1
    go_enter Try.func51, Try.ntmps51
    go_wp2_with (go_at_call 86; refine HP.out.mono ?_; rintro e w1 ⟨rfl, n, rfl⟩)
    go_ret
    exact ⟨ret_bool HE.out.symm, bel_drewN hbel _⟩

set_option maxHeartbeats 1000000 in
theorem specSameChain (a : Option Addr) (c : Nat) (p : List Int) (b : Option Addr) (d : Nat) (q : List Int) (a' : Option Addr) (c' : Nat) (p' : List Int) (b' : Option Addr) (d' : Nat) (q' : List Int) (w : World) (h : Rd2 w a p b q) (_ : All64 p ∧ All64 q) (h' : Rd2 w a' p' b' q') (_ : All64 p' ∧ All64 q') :
    Calls Try.prog 33 #[.agg #[.slice a p.length c, .slice b q.length d], .agg #[.slice a' p'.length c', .slice b' q'.length d']] w fun e w' => e = .returned (.bool (chEqB p p' q q')) ∧ Below w.heap.size w w' := by
  have hbel : Below w.heap.size w ((w.alloc (.cells #[.slice a p.length c, .slice b q.length d] 41)).alloc (.cells #[.slice a' p'.length c', .slice b' q'.length d'] 41)) := (by repeat (first | exact Below.refl _ _ | refine Below.setCell ?_ (by first | omega | (simp <;> omega)) _ | refine Below.alloc ?_ (by first | omega | (simp <;> omega)) _ | refine Below.drew ?_))
  have HP := Lib.hid (l00Same_any a a' c c' p p' ((w.alloc (.cells #[.slice a p.length c, .slice b q.length d] 41)).alloc (.cells #[.slice a' p'.length c', .slice b' q'.length d'] 41)) (h.p.below hbel) (h'.p.below hbel))
  have HQ := Lib.hid (fun n => l00Same_any b b' d d' q q' (((w.alloc (.cells #[.slice a p.length c, .slice b q.length d] 41)).alloc (.cells #[.slice a' p'.length c', .slice b' q'.length d'] 41)).drewN n) ((h.q.below hbel).drewN n) ((h'.q.below hbel).drewN n))
  by_cases h1 : p = p'
  · rw [decide_eq_true h1] at HP
    have HE := Lib.hid (show chEqB p p' q q' = decide (q = q') by simp [chEqB, h1])
    clear h1
    go_enter Try.func33, Try.ntmps33
    go_wp2_with (go_at_call 74; first | (with_reducible refine HP.out.mono ?_; rintro e w1 ⟨rfl, n, rfl⟩) | (with_reducible refine (HQ.out _).mono ?_; rintro e w1 ⟨rfl, n2, rfl⟩; rw [drewN_drewN]))
    go_ret
    exact ⟨ret_bool HE.out.symm, bel_drewN hbel _⟩
  · rw [decide_eq_false h1] at HP
    have HE := Lib.hid (show chEqB p p' q q' = false by simp [chEqB, h1])
    clear h1
    go_enter Try.func33, Try.ntmps33
    go_wp2_with (go_at_call 74; refine HP.out.mono ?_; rintro e w1 ⟨rfl, n, rfl⟩)
    go_ret
    exact ⟨ret_bool HE.out.symm, bel_drewN hbel _⟩
end Go.Proofs.Ytaefgkhbgljkoaa
