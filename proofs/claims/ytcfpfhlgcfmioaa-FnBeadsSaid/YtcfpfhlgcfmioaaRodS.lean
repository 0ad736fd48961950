/-
  laws: Rod and []Rod: copies, equality, sizes, marks.
-/
import Derived.Test.YtcfpfhlgcfmioaaProg
import Derived.Test.YtcfpfhlgcfmioaaFlat
import Derived.Test.YtcfpfhlgcfmioaaLeft
namespace Go.Proofs.Ytcfpfhlgcfmioaa
open Go.RowKit

theorem info_Rod : (Try.prog.info? 102).map (fun i => (i.zero, i.size, i.bytes)) = some (some (.agg #[.int .i64 0, .int .i64 0]), 2, 16) := by kernel_rfl

theorem Rod_ext {x y : (Int × Int)} (h0 : x.1 = y.1) (h1 : x.2 = y.2) : x = y := by
  obtain ⟨a0, a1⟩ := x
  obtain ⟨b0, b1⟩ := y
  simp only at h0 h1
  subst h0 h1
  rfl

end Go.Proofs.Ytcfpfhlgcfmioaa
