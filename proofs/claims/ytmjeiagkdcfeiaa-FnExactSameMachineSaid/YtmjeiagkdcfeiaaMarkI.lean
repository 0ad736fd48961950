/-
  laws.szInt64S, laws.markInt64S, laws.heldInt64S: how long a slice is; what the law writes into a slice, and whether it is still there.
-/
import Derived.Test.YtmjeiagkdcfeiaaProg
import Derived.Test.YtmjeiagkdcfeiaaBase
import Derived.Test.YtmjeiagkdcfeiaaLeft
namespace Go.Proofs.Ytmjeiagkdcfeiaa
open Go.RowKit

set_option maxHeartbeats 400000 in
theorem szInt64S_any (a : Option Addr) (n c : Nat) (left : Int) (w : World) (hn : n ≤ 9223372036854775807) (hl : 0 ≤ left) (hl' : left ≤ 1048576) :
    Calls Try.prog 40 #[.slice a n c, .int .i64 left] w fun e w' => e = .returned (.int .i64 (leftOf n left)) ∧ w = w' := by
  by_cases h : left - (n : Int) < 0
  · go_enter Try.func40, Try.ntmps40
    go_wp2
    go_ret
    exact ⟨ret_int (by rw [leftOf, if_pos h]), rfl⟩
  · go_enter Try.func40, Try.ntmps40
    go_wp2
    go_ret
    exact ⟨ret_int (by rw [leftOf, if_neg (by omega)]), rfl⟩

end Go.Proofs.Ytmjeiagkdcfeiaa
