/-
  The model's drums: codes, times, steps up to a time.
-/
import Derived.Test.YtiogbpnnnpodkaaDrumI
import Derived.Test.YtiogbpnnnpodkaaApp
import Derived.Test.YtiogbpnnnpodkaaToI
import Derived.Test.YtiogbpnnnpodkaaPairS
import Derived.Test.YtiogbpnnnpodkaaRow
namespace Go.Proofs.Ytiogbpnnnpodkaa
open Go.RowKit

theorem own_lit0 (e : TypeId) (w : World) : Own e (w.alloc (.cells #[] e)) w.heap.size (w.heap.size + 1) (.slice (some ⟨w.heap.size, 0, none⟩) 0 0) [] :=
  own_of_row (zs := []) (by simpa using row_new e 1 w #[] 0 (by simp) (by omega)) rfl (by simp)

end Go.Proofs.Ytiogbpnnnpodkaa
