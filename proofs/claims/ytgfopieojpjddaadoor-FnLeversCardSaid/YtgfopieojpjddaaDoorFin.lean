/-
  impl.finishRegister, ValueOf, CarriesOf, CompareRegisters.
-/
import Derived.Test.YtgfopieojpjddaaDoorPairI
import Derived.Test.YtgfopieojpjddaaDoorMinus
namespace Go.Proofs.YtgfopieojpjddaaDoor
open Go.RowKit

set_option maxRecDepth 100000 in
set_option maxHeartbeats 1000000 in
theorem finish_ok (xB : Int) (xA : Option Addr) (xC : Nat) (xZ : List Int) (w : World) (ha : Rd w xA xZ) (z : All64 xZ) (b : I64 xB) (h : okB xB xZ = true) :
    Calls Tryd.prog 100 #[.int .i64 xB, .slice xA xZ.length xC] w fun e w' => e = .returned (.tuple #[.agg #[.int .i64 xB, .slice xA xZ.length xC], .int .i64 0]) ∧ Below w.heap.size w w' := by
  have H := Lib.hid h
  clear h
  go_enter Tryd.func100, Tryd.ntmps100
  go_wp2_with fail
  obtain ⟨u, hu⟩ : ∃ u, u = (w.alloc (.cells #[.int .i64 0, .slice none 0 0] 47)).alloc (.cells #[.int .i64 xB, .slice xA xZ.length xC] 47) := ⟨_, rfl⟩
  rw [← hu]
  have hbel : Below w.heap.size w u := by rw [hu]; exact (by repeat (first | exact Below.refl _ _ | refine Below.setCell ?_ (by first | omega | (simp <;> omega)) _ | refine Below.alloc ?_ (by first | omega | (simp <;> omega)) _ | refine Below.drew ?_))
  have ax : Bx u w.heap.size 47 #[.int .i64 0, .slice none 0 0] := by rw [hu]; exact (Bx.new _ _ _).alloc _
  have bx : Bx u (w.heap.size + 1) 47 #[.int .i64 xB, .slice xA xZ.length xC] := by rw [hu]; simpa using Bx.new (w.alloc (.cells #[.int .i64 0, .slice none 0 0] 47)) #[.int .i64 xB, .slice xA xZ.length xC] 47
  clear hu
  refine (implValidRegister xB xA xC xZ u (ha.below hbel) z b).mono ?_
  rintro e v ⟨rfl, hb1⟩
  rw [H.out]
  replace ax := ax.below hb1
  replace bx := bx.below hb1
  replace hbel := hbel.trans (hb1.mono hbel.size)
  clear hb1 u
  have c0 := ax.at_ 0 rfl
  have c1 := ax.at_ 1 rfl
  have f0 := ax.thaw 0
  have f1 := ax.thaw 1
  have d0 := bx.at_ 0 rfl
  have d1 := bx.at_ 1 rfl
  have hsz := bx.lt
  go_wp2
  exact bodyPost_ret (v := .tuple #[.agg #[.int .i64 xB, .slice xA xZ.length xC], .int .i64 0]) (by simp [results, Tryd.results100, go_sem, c0, c1]) rfl
    ⟨rfl, (by repeat (first | exact hbel | refine Below.setCell ?_ (by first | omega | (simp <;> omega)) _ | refine Below.alloc ?_ (by first | omega | (simp <;> omega)) _ | refine Below.drew ?_))⟩

set_option maxRecDepth 100000 in
set_option maxHeartbeats 1000000 in
theorem finish_full (xB : Int) (xA : Option Addr) (xC : Nat) (xZ : List Int) (w : World) (ha : Rd w xA xZ) (z : All64 xZ) (b : I64 xB) (h : okB xB xZ = false) :
    Calls Tryd.prog 100 #[.int .i64 xB, .slice xA xZ.length xC] w fun e w' => e = .returned (.tuple #[.agg #[.int .i64 0, .slice none 0 0], .int .i64 5]) ∧ Below w.heap.size w w' := by
  have H := Lib.hid h
  clear h
  go_enter Tryd.func100, Tryd.ntmps100
  go_wp2_with fail
  obtain ⟨u, hu⟩ : ∃ u, u = (w.alloc (.cells #[.int .i64 0, .slice none 0 0] 47)).alloc (.cells #[.int .i64 xB, .slice xA xZ.length xC] 47) := ⟨_, rfl⟩
  rw [← hu]
  have hbel : Below w.heap.size w u := by rw [hu]; exact (by repeat (first | exact Below.refl _ _ | refine Below.setCell ?_ (by first | omega | (simp <;> omega)) _ | refine Below.alloc ?_ (by first | omega | (simp <;> omega)) _ | refine Below.drew ?_))
  have ax : Bx u w.heap.size 47 #[.int .i64 0, .slice none 0 0] := by rw [hu]; exact (Bx.new _ _ _).alloc _
  clear hu
  refine (implValidRegister xB xA xC xZ u (ha.below hbel) z b).mono ?_
  rintro e v ⟨rfl, hb1⟩
  rw [H.out]
  replace ax := ax.below hb1
  replace hbel := hbel.trans (hb1.mono hbel.size)
  clear hb1 u
  have c0 := ax.at_ 0 rfl
  have c1 := ax.at_ 1 rfl
  have f0 := ax.thaw 0
  have f1 := ax.thaw 1
  go_wp2
  exact bodyPost_ret (v := .tuple #[.agg #[.int .i64 0, .slice none 0 0], .int .i64 5]) (by simp [results, Tryd.results100, go_sem, c0, c1]) rfl
    ⟨rfl, (by repeat (first | exact hbel | refine Below.setCell ?_ (by first | omega | (simp <;> omega)) _ | refine Below.alloc ?_ (by first | omega | (simp <;> omega)) _ | refine Below.drew ?_))⟩

set_option maxRecDepth 100000 in
set_option maxHeartbeats 1000000 in
theorem implValueOf (xB : Int) (xA : Option Addr) (xC : Nat) (xZ : List Int) (w : World) (ha : Rd w xA xZ) (z : All64 xZ) (b : I64 xB) :
    Calls Tryd.prog 43 #[.agg #[.int .i64 xB, .slice xA xZ.length xC]] w fun e w' => e = .returned (.tuple #[.int .i64 (vofR xB xZ).1, .int .i64 (vofR xB xZ).2]) ∧ Below w.heap.size w w' := by
  go_enter Tryd.func43, Tryd.ntmps43
  go_wp2_with fail
  obtain ⟨u, hu⟩ : ∃ u, u = w.alloc (.cells #[.int .i64 xB, .slice xA xZ.length xC] 47) := ⟨_, rfl⟩
  rw [← hu]
  have hbel : Below w.heap.size w u := by rw [hu]; exact (by repeat (first | exact Below.refl _ _ | refine Below.setCell ?_ (by first | omega | (simp <;> omega)) _ | refine Below.alloc ?_ (by first | omega | (simp <;> omega)) _ | refine Below.drew ?_))
  have ax : Bx u w.heap.size 47 #[.int .i64 xB, .slice xA xZ.length xC] := by rw [hu]; exact Bx.new _ _ _
  clear hu
  replace ha := ha.below hbel
  refine (implValidRegister xB xA xC xZ u ha z b).mono ?_
  rintro e v ⟨rfl, hb1⟩
  replace ha := ha.below hb1
  replace ax := ax.below hb1
  replace hbel := hbel.trans (hb1.mono hbel.size)
  clear hb1 u
  have c0 := ax.at_ 0 rfl
  have c1 := ax.at_ 1 rfl
  cases h : okB xB xZ with
  | false =>
    have HV := Lib.hid (show vofR xB xZ = (0, 1) by simp [vofR, h])
    go_wp2
    refine bodyPost_ret (v := .tuple #[.int .i64 0, .int .i64 1]) (by simp [results, Tryd.results43, go_sem]) rfl ?_
    exact ⟨by rw [HV.out], hbel⟩
  | true =>
    have HV := Lib.hid (show vofR xB xZ = (valR xB xZ, 0) by simp [vofR, h])
    have HO := Lib.hid (okB_spec h)
    clear h
    go_wp2_with fail
    refine (value_any xB xA xC xZ v HO.out.1 HO.out.2.1 HO.out.2.2.2.2.1 ha).mono ?_
    rintro e w2 ⟨rfl, hb3⟩
    rw [valOr_le HO.out.2.2.2.2.2]
    go_wp2
    refine bodyPost_ret (v := .tuple #[.int .i64 (valR xB xZ), .int .i64 0]) (by simp [results, Tryd.results43, go_sem]) rfl ?_
    exact ⟨by rw [HV.out], hbel.trans (hb3.mono hbel.size)⟩
end Go.Proofs.YtgfopieojpjddaaDoor
