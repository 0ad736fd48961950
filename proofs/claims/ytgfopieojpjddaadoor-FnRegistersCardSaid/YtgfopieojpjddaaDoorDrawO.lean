/-
  The source of numbers: one.
-/
import Derived.Test.YtgfopieojpjddaaDoorSrc
namespace Go.Proofs.YtgfopieojpjddaaDoor
open Go.RowKit

theorem one_any (g K : Nat) (n : Int) (w : World) (h : Src w g K) (hK : K ≤ 900000) (hn : n ≤ 10000) :
    Calls Tryd.prog 129 #[.pointer (some ⟨g, 0, none⟩), .int .i64 n] w fun e w' => ∃ z : Bool, e = .returned (.bool z) ∧ Src w' g (K + 2) ∧ Touch g (g + 1) w w' := by
  go_enter Tryd.func129, Tryd.ntmps129
  go_wp2_with fail
  refine (pick_any g K n w h hK hn).mono ?_
  rintro e w1 ⟨x, rfl, x0, x1, hs1, ht1⟩
  go_wp2_with fail
  exact bodyPost_ret (v := .bool (x == 0)) (by simp [results, Tryd.results129, go_sem]) rfl ⟨_, rfl, hs1, ht1⟩
end Go.Proofs.YtgfopieojpjddaaDoor
