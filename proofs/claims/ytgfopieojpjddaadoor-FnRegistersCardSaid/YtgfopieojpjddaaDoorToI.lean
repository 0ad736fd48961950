/-
  laws.toInt64S: a copy of a slice of int64.
-/
import Derived.Test.YtgfopieojpjddaaDoorProg
import Derived.Test.YtgfopieojpjddaaDoorBase
namespace Go.Proofs.YtgfopieojpjddaaDoor
open Go.RowKit

theorem info_int64 : (Tryd.prog.info? 2).map (fun i => (i.zero, i.size, i.bytes)) = some (some (.int .i64 0), 1, 8) := by kernel_rfl

/-- What has been copied when k rounds are over. -/
def cop (zs : List Int) (k : Nat) : List Int := zs.take k ++ List.replicate (zs.length - k) 0
theorem cop_len {zs : List Int} {k : Nat} (h : k ≤ zs.length) : (cop zs k).length = zs.length := by simp [cop, Nat.min_eq_left h]; omega
theorem cop_set {zs : List Int} {k : Nat} (h : k < zs.length) : (cop zs k).set k (nth zs k) = cop zs (k + 1) := by
  unfold cop
  rw [List.set_append_right _ _ (by simp; omega), nth_get h]
  have : zs.length - k = (zs.length - (k + 1)) + 1 := by omega
  rw [this, List.replicate_succ, List.take_succ_eq_append_getElem h, List.length_take, Nat.min_eq_left (Nat.le_of_lt h), Nat.sub_self, List.set_cons_zero, List.append_assoc, List.singleton_append]
theorem cop_all (zs : List Int) : cop zs zs.length = zs := by simp [cop]

end Go.Proofs.YtgfopieojpjddaaDoor
