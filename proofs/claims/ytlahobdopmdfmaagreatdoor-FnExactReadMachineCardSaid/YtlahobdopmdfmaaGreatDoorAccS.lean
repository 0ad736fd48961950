/-
  spec: the numbers of accumulators.
-/
import Derived.Test.YtlahobdopmdfmaaGreatDoorPowS
import Derived.Test.YtlahobdopmdfmaaGreatDoorNewReg
import Derived.Test.YtlahobdopmdfmaaGreatDoorTwoS
import Derived.BigQuiet
namespace Go.Proofs.YtlahobdopmdfmaaGreatDoor
open Go.RowKit

theorem mod_twiceS {n c : Int} (hc : 1 ≤ c) : -c < n.tmod c ∧ n.tmod c < c ∧ (n.tmod c + c).tmod c = n % c := by
  have h1 : n.tmod c < c := Int.tmod_lt_of_pos _ (by omega)
  have h2 : -c < n.tmod c := by
    have := Int.tmod_lt_of_pos (-n) (show 0 < c by omega)
    rw [Int.neg_tmod] at this; omega
  refine ⟨h2, h1, ?_⟩
  rw [Int.tmod_eq_emod_of_nonneg (by omega), Int.add_emod_right]
  have e := Int.mul_tdiv_add_tmod n c
  conv => rhs; rw [← e, Int.add_comm, Int.add_mul_emod_self_left]

/-- A register of its own. -/
def RegV (B : Int) (zs : List Int) (w : World) (e : Ending) (w' : World) : Prop := ∃ A C,
  e = .returned (.agg #[.int .i64 B, .slice A zs.length C]) ∧ Own 2 w' w.heap.size w'.heap.size (.slice A zs.length C) zs ∧ Below w.heap.size w w'

end Go.Proofs.YtlahobdopmdfmaaGreatDoor
