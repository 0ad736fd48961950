/-
  impl.ValidDrum; the model's word on drums.
-/
import Derived.Test.YtiogbpnnnpodkaaDoorWithin
import Derived.Test.YtiogbpnnnpodkaaDoorInS
import Derived.Test.YtiogbpnnnpodkaaDoorOkS
import Derived.Test.YtiogbpnnnpodkaaDoorDrumM
namespace Go.Proofs.YtiogbpnnnpodkaaDoor
open Go.RowKit

theorem baseB_iff (B : Int) : baseB B = true ↔ 2 ≤ B ∧ B ≤ 16 := by simp [baseB]
theorem isBase_any (b : Int) (w : World) : Calls Tryd.prog 117 #[.int .i64 b] w fun e w' => e = .returned (.bool (baseB b)) ∧ w' = w := by
  by_cases h : 2 ≤ b
  · by_cases h2 : b ≤ 16
    · have H := Lib.hid ((baseB_iff b).2 ⟨h, h2⟩)
      go_enter Tryd.func117, Tryd.ntmps117
      go_wp2
      go_ret
      exact ⟨ret_bool H.out.symm, rfl⟩
    · have H := Lib.hid (show baseB b = false by cases e : baseB b with | false => rfl | true => exact absurd ((baseB_iff b).1 e).2 h2)
      go_enter Tryd.func117, Tryd.ntmps117
      go_wp2
      go_ret
      exact ⟨ret_bool H.out.symm, rfl⟩
  · have H := Lib.hid (show baseB b = false by cases e : baseB b with | false => rfl | true => exact absurd ((baseB_iff b).1 e).1 h)
    go_enter Tryd.func117, Tryd.ntmps117
    go_wp2
    go_ret
    exact ⟨ret_bool H.out.symm, rfl⟩

/-- Where a drum lies. -/
structure DrumAt (w : World) (p : Nat) (K B T F : Int) : Prop where
  c0 : w.cell? ⟨p, 0, none⟩ = some (.int .i64 K)
  c1 : w.cell? ⟨p, 1, none⟩ = some (.int .i64 B)
  c2 : w.cell? ⟨p, 2, none⟩ = some (.int .i64 T)
  c3 : w.cell? ⟨p, 3, none⟩ = some (.int .i64 F)
section
variable {w w' : World} {p : Nat} {K B T F : Int}
theorem DrumAt.below (h : DrumAt w p K B T F) (hb : Below w.heap.size w w') : DrumAt w' p K B T F := ⟨kept hb h.c0, kept hb h.c1, kept hb h.c2, kept hb h.c3⟩
theorem DrumAt.drewN (h : DrumAt w p K B T F) (k : Nat) : DrumAt (w.drewN k) p K B T F := ⟨h.c0, h.c1, h.c2, h.c3⟩
theorem DrumAt.of_box {t : TypeId} (h : Bx w p t #[.int .i64 K, .int .i64 B, .int .i64 T, .int .i64 F]) : DrumAt w p K B T F := ⟨h.at_ 0 rfl, h.at_ 1 rfl, h.at_ 2 rfl, h.at_ 3 rfl⟩
end

end Go.Proofs.YtiogbpnnnpodkaaDoor
