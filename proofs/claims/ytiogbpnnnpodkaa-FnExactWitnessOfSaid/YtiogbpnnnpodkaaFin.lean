/-
  impl.finishRegister, ValueOf, CarriesOf, CompareRegisters.
-/
import Derived.Test.YtiogbpnnnpodkaaPairI
import Derived.Test.YtiogbpnnnpodkaaMinus
namespace Go.Proofs.Ytiogbpnnnpodkaa
open Go.RowKit

set_option maxRecDepth 100000 in
set_option maxHeartbeats 1000000 in
theorem finish_ok (xB : Int) (xA : Option Addr) (xC : Nat) (xZ : List Int) (w : World) (ha : Rd w xA xZ) (z : All64 xZ) (b : I64 xB) (h : okB xB xZ = true) :
    Calls Try.prog 76 #[.int .i64 xB, .slice xA xZ.length xC] w fun e w' => e = .returned (.tuple #[.agg #[.int .i64 xB, .slice xA xZ.length xC], .int .i64 0]) ∧ Below w.heap.size w w' := by
  have H := Lib.hid h
  clear h
  go_enter Try.func76, Try.ntmps76
  go_wp2_with fail
  obtain ⟨u, hu⟩ : ∃ u, u = (w.alloc (.cells #[.int .i64 0, .slice none 0 0] 31)).alloc (.cells #[.int .i64 xB, .slice xA xZ.length xC] 31) := ⟨_, rfl⟩
  rw [← hu]
  have hbel : Below w.heap.size w u := by rw [hu]; exact (by repeat (first | exact Below.refl _ _ | refine Below.setCell ?_ (by first | omega | (simp <;> omega)) _ | refine Below.alloc ?_ (by first | omega | (simp <;> omega)) _ | refine Below.drew ?_))
  have ax : Bx u w.heap.size 31 #[.int .i64 0, .slice none 0 0] := by rw [hu]; exact (Bx.new _ _ _).alloc _
  have bx : Bx u (w.heap.size + 1) 31 #[.int .i64 xB, .slice xA xZ.length xC] := by rw [hu]; simpa using Bx.new (w.alloc (.cells #[.int .i64 0, .slice none 0 0] 31)) #[.int .i64 xB, .slice xA xZ.length xC] 31
  clear hu
  refine (implValidRegister xB xA xC xZ u (ha.below hbel) z b).mono ?_
  rintro e v ⟨rfl, hb1⟩
  rw [H.out]
  replace ax := ax.below hb1
  replace bx := bx.below hb1
  replace hbel := hbel.trans (hb1.mono hbel.size)
  clear hb1 u
  have c0 := ax.at_ 0 rfl
  have c1 := ax.at_ 1 rfl
  have f0 := ax.thaw 0
  have f1 := ax.thaw 1
  have d0 := bx.at_ 0 rfl
  have d1 := bx.at_ 1 rfl
  have hsz := bx.lt
  go_wp2
  exact bodyPost_ret (v := .tuple #[.agg #[.int .i64 xB, .slice xA xZ.length xC], .int .i64 0]) (by simp [results, Try.results76, go_sem, c0, c1]) rfl
    ⟨rfl, (by repeat (first | exact hbel | refine Below.setCell ?_ (by first | omega | (simp <;> omega)) _ | refine Below.alloc ?_ (by first | omega | (simp <;> omega)) _ | refine Below.drew ?_))⟩

set_option maxRecDepth 100000 in
set_option maxHeartbeats 1000000 in
theorem finish_full (xB : Int) (xA : Option Addr) (xC : Nat) (xZ : List Int) (w : World) (ha : Rd w xA xZ) (z : All64 xZ) (b : I64 xB) (h : okB xB xZ = false) :
    Calls Try.prog 76 #[.int .i64 xB, .slice xA xZ.length xC] w fun e w' => e = .returned (.tuple #[.agg #[.int .i64 0, .slice none 0 0], .int .i64 5]) ∧ Below w.heap.size w w' := by
  have H := Lib.hid h
  clear h
  go_enter Try.func76, Try.ntmps76
  go_wp2_with fail
  obtain ⟨u, hu⟩ : ∃ u, u = (w.alloc (.cells #[.int .i64 0, .slice none 0 0] 31)).alloc (.cells #[.int .i64 xB, .slice xA xZ.length xC] 31) := ⟨_, rfl⟩
  rw [← hu]
  have hbel : Below w.heap.size w u := by rw [hu]; exact (by repeat (first | exact Below.refl _ _ | refine Below.setCell ?_ (by first | omega | (simp <;> omega)) _ | refine Below.alloc ?_ (by first | omega | (simp <;> omega)) _ | refine Below.drew ?_))
  have ax : Bx u w.heap.size 31 #[.int .i64 0, .slice none 0 0] := by rw [hu]; exact (Bx.new _ _ _).alloc _
  clear hu
  refine (implValidRegister xB xA xC xZ u (ha.below hbel) z b).mono ?_
  rintro e v ⟨rfl, hb1⟩
  rw [H.out]
  replace ax := ax.below hb1
  replace hbel := hbel.trans (hb1.mono hbel.size)
  clear hb1 u
  have c0 := ax.at_ 0 rfl
  have c1 := ax.at_ 1 rfl
  have f0 := ax.thaw 0
  have f1 := ax.thaw 1
  go_wp2
  exact bodyPost_ret (v := .tuple #[.agg #[.int .i64 0, .slice none 0 0], .int .i64 5]) (by simp [results, Try.results76, go_sem, c0, c1]) rfl
    ⟨rfl, (by repeat (first | exact hbel | refine Below.setCell ?_ (by first | omega | (simp <;> omega)) _ | refine Below.alloc ?_ (by first | omega | (simp <;> omega)) _ | refine Below.drew ?_))⟩

end Go.Proofs.Ytiogbpnnnpodkaa
