/-
  spec.l02Ok and what it calls: whether a register is valid.
-/
import Derived.Test.YtcfpfhlgcfmioaaDoorProg
import Derived.Test.YtcfpfhlgcfmioaaDoorVal
namespace Go.Proofs.YtcfpfhlgcfmioaaDoor
open Go.RowKit

set_option maxHeartbeats 400000 in
theorem l02Base_any (b : Int) (w : World) : Calls Tryd.prog 52 #[.int .i64 b] w fun e w' => e = .returned (.bool (baseB b)) ∧ w' = w := by
  cases hb : baseB b with
  | true =>
    obtain ⟨h1, h2⟩ := baseB_true hb
    have HB := Lib.hid hb
    clear hb
    go_enter Tryd.func52, Tryd.ntmps52
    go_wp2
    go_ret
    exact ⟨ret_bool (by simp []), rfl⟩
  | false =>
    have HB := Lib.hid hb
    rcases baseB_false hb with h1 | ⟨h1, h2⟩
    all_goals
      clear hb
      go_enter Tryd.func52, Tryd.ntmps52
      go_wp2
      go_ret
      exact ⟨ret_bool (by simp <;> omega), rfl⟩

end Go.Proofs.YtcfpfhlgcfmioaaDoor
