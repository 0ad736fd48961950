/-
  How the laws' arguments of chapter 10 read: machines.
-/
import Derived.Test.YtmjeiagkdcfeiaaFrame
import Derived.Test.YtmjeiagkdcfeiaaOwn3
namespace Go.Proofs.Ytmjeiagkdcfeiaa
open Go.ChangeShapes Go.WideShapes Go.ChangeAt Go.RowKit Go.Joins

theorem array7 {α : Type} {cs : Array α} (h : cs.size = 7) : ∃ c0 c1 c2 c3 c4 c5 c6, cs = #[c0, c1, c2, c3, c4, c5, c6] := by
  obtain ⟨l⟩ := cs
  match l, h with
  | [c0, c1, c2, c3, c4, c5, c6], _ => exact ⟨c0, c1, c2, c3, c4, c5, c6, rfl⟩

section
variable {H : Type} {enc : TypeId × Value → H} {W : World} {base : Nat} {v : Value} {d : DataW H} {p : List MemPlace}

set_option maxRecDepth 100000 in
theorem reg_of_trod {fuel : Nat} {c0 c1 : Value} {y : DataW H × List MemPlace} (h : DataW.trod enc Try.prog W 0 (fun _ => true) true fuel 24 [c0, c1] = some y) :
    ∃ B A C Z, c0 = .int .i64 B ∧ c1 = .slice A (List.length Z) C ∧ Raw W A Z ∧ I64 B := by
  obtain ⟨y0, y1, n, _, _, h0, h1⟩ := trod_struct2 Try.underlying24 h
  rw [cells_int64] at h0
  rw [show Try.prog.cellsOf 22 = 1 by kernel_rfl] at h1
  obtain ⟨B, e0, rfl, wB⟩ := DataW.trod_int Try.underlying2 h0
  obtain ⟨A, C, Z, e1, hr⟩ := raw_of_trod (v := c1) (by simpa using h1)
  simp at e0
  exact ⟨B, A, C, Z, e0, e1, hr, wB⟩

set_option maxRecDepth 100000 in
theorem open_Machine (hval : Value.okWide Try.prog W .any base 26 v) (h : DataW.Trod enc Try.prog W 0 (fun _ => true) true 26 v d p) :
    ∃ (m : Mac) (A1 : Option Addr) (C1 : Nat) (A2 : Option Addr) (C2 : Nat) (A3 : Option Addr) (C3 : Nat), v = .agg #[.int .i64 m.b1, .slice A1 m.z1.length C1, .int .i64 m.b2, .slice A2 m.z2.length C2, .int .i64 m.b3, .slice A3 m.z3.length C3, .int .i64 m.p] ∧ Raw3 W A1 m.z1 A2 m.z2 A3 m.z3 ∧ (I64 m.b1 ∧ I64 m.b2 ∧ I64 m.b3 ∧ I64 m.p) := by
  obtain ⟨cs, rfl, hsz⟩ := okWide_struct Try.underlying26 hval
  obtain ⟨c0, c1, c2, c3, c4, c5, c6, rfl⟩ := array7 (hsz.trans (by kernel_rfl))
  obtain ⟨fuel, hf⟩ := h
  obtain ⟨y0, y1, y2, y3, n, _, _, h0, h1, h2, h3⟩ := trod_struct4 Try.underlying26 hf
  rw [cells_Register] at h0 h1 h2
  rw [cells_int64] at h3
  obtain ⟨B1, A1, C1, Z1, rfl, rfl, r1, w1⟩ := reg_of_trod (c0 := c0) (c1 := c1) (by simpa [Value.cells] using h0)
  obtain ⟨B2, A2, C2, Z2, rfl, rfl, r2, w2⟩ := reg_of_trod (c0 := c2) (c1 := c3) (by simpa [Value.cells] using h1)
  obtain ⟨B3, A3, C3, Z3, rfl, rfl, r3, w3⟩ := reg_of_trod (c0 := c4) (c1 := c5) (by simpa [Value.cells] using h2)
  obtain ⟨P, e0, _, wP⟩ := DataW.trod_int Try.underlying2 h3
  simp [Value.cells] at e0
  subst e0
  exact ⟨⟨B1, Z1, B2, Z2, B3, Z3, P⟩, A1, C1, A2, C2, A3, C3, rfl, ⟨r1, r2, r3⟩, w1, w2, w3, wP⟩
end
end Go.Proofs.Ytmjeiagkdcfeiaa
