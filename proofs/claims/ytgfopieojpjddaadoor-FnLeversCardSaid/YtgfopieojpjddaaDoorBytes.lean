/-
  How bytes that come in read; the laws' a2Long, a2At.
-/
import Derived.Test.YtgfopieojpjddaaDoorFrameI
import Derived.Test.YtgfopieojpjddaaDoorSrc
namespace Go.Proofs.YtgfopieojpjddaaDoor
open Go.ChangeShapes Go.WideShapes Go.ChangeAt Go.RowKit Go.Joins
open Go.ChangeMaps (open_string shut_string)

/-- Bytes that came in: of whatever length. -/
structure RawU (w : World) (a : Option Addr) (zs : List Int) : Prop where
  len : zs.length ≤ 9223372036854775807
  le : ∀ i, 0 ≤ nth zs i ∧ nth zs i ≤ 255
  cells : zs ≠ [] → ∃ b off, a = some ⟨b, off, none⟩ ∧ ∀ i, i < zs.length → w.cell? ⟨b, off + i, none⟩ = some (.int .u8 (nth zs i))
theorem RawU.rd {w : World} {a : Option Addr} {zs : List Int} (h : RawU w a zs) (hl : zs.length ≤ 1000000000) : RdU w a zs := ⟨hl, h.le, h.cells⟩
theorem RawU.below {w w' : World} {a : Option Addr} {zs : List Int} (h : RawU w a zs) (hb : Below w.heap.size w w') : RawU w' a zs := by
  refine ⟨h.len, h.le, fun hne => ?_⟩
  obtain ⟨b, off, rfl, hc⟩ := h.cells hne
  exact ⟨b, off, rfl, fun i hi => (hb.cell (p := ⟨b, off + i, none⟩) (World.block_lt_of_cell? _ _ (hc i hi))).trans (hc i hi)⟩

theorem cells_uint8 : Tryd.prog.cellsOf 5 = 1 := by kernel_rfl
section
variable {H : Type} {enc : TypeId × Value → H} {W : World} {base : Nat} {v : Value} {d : DataW H} {p : List MemPlace}
set_option maxRecDepth 100000 in
theorem open_Bytes (hval : Value.okWide Tryd.prog W .any base 57 v) (h : DataW.Trod enc Tryd.prog W 0 (fun _ => true) true 57 v d p) :
    ∃ A C Z, v = .slice A (List.length Z) C ∧ RawU W A Z := by
  obtain ⟨a0, len, cap, rfl⟩ := okWide_slice Tryd.underlying57 hval
  obtain ⟨fuel, hf⟩ := h
  have hf : DataW.trod enc Tryd.prog W 0 (fun _ => true) true fuel 57 [.slice a0 len cap] = some (d, p) := by simpa [Value.cells] using hf
  rcases open_ints Tryd.underlying57 Tryd.underlying5 cells_uint8 hf with ⟨hcs, _⟩ | ⟨a, l, c, zs, hcs, _, hl, hm, hz, _, hcell, hwz⟩
  · simp at hcs
    obtain ⟨rfl, rfl, rfl⟩ := hcs
    exact ⟨none, 0, [], rfl, by simp, by intro i; simp [nth], fun h => absurd rfl h⟩
  · simp at hcs
    obtain ⟨rfl, rfl, rfl⟩ := hcs
    simp at hz
    have hlen : (zs.take len).length = len := by rw [List.length_take]; omega
    refine ⟨some a, cap, zs.take len, by rw [hlen], by rw [hlen]; unfold maxLen at hm; omega, fun i => ?_, fun hne => ?_⟩
    · rcases Nat.lt_or_ge i (zs.take len).length with hi | hi
      · rw [nth_get hi]
        have h1 := hwz _ (List.mem_of_mem_take (List.getElem_mem hi))
        have m0 : IntKind.u8.min = 0 := rfl
        have m1 : IntKind.u8.max = 255 := rfl
        simp only [Lit.wf, m0, m1, Bool.and_eq_true, decide_eq_true_eq] at h1
        exact h1
      · simp [nth, List.getElem?_eq_none hi]
    · have hpos : 0 < len := by
        rcases Nat.eq_zero_or_pos len with h | h
        · subst h; simp at hne
        · exact h
      have hc0 := hcell 0 (by omega)
      obtain ⟨b, off, spot⟩ := a
      have hspot : spot = none := by simpa [Addr.add] using World.cell?_spot hc0
      subst hspot
      refine ⟨b, off, rfl, fun i hi => ?_⟩
      rw [hlen] at hi
      have h := hcell i (by omega)
      have e : nth (zs.take len) i = zs.getD i 0 := by
        rw [nth_get (by rw [hlen]; exact hi)]
        simp [List.getElem_take, List.getD_eq_getElem?_getD, List.getElem?_eq_getElem (show i < zs.length by omega)]
      rw [e, ← h]
      by_cases h0 : i = 0
      · subst h0; rfl
      · simp [Addr.add, h0]
end

theorem a2Long_any (a b : Option Addr) (n m c d : Nat) (w : World) :
    Calls Tryd.prog 40 #[.slice a n c, .slice b m d] w fun e w' => e = .returned (.bool (decide (3000 < n ∨ 3000 < m))) ∧ w' = w := by
  by_cases h1 : 3000 < n
  · have h1' : (3000 : Int) < (n : Int) := by omega
    have HV := Lib.hid (show decide (3000 < n ∨ 3000 < m) = true from decide_eq_true (.inl h1))
    go_enter Tryd.func40, Tryd.ntmps40
    go_wp2
    go_ret
    exact ⟨by first | rfl | exact ret_bool HV.out.symm, rfl⟩
  · have h1' : ¬ ((3000 : Int) < (n : Int)) := by omega
    by_cases h2 : 3000 < m
    · have h2' : (3000 : Int) < (m : Int) := by omega
      have HV := Lib.hid (show decide (3000 < n ∨ 3000 < m) = true from decide_eq_true (.inr h2))
      go_enter Tryd.func40, Tryd.ntmps40
      go_wp2
      go_ret
      exact ⟨by first | rfl | exact ret_bool HV.out.symm, rfl⟩
    · have h2' : ¬ ((3000 : Int) < (m : Int)) := by omega
      have HV := Lib.hid (show decide (3000 < n ∨ 3000 < m) = false from decide_eq_false (by omega))
      go_enter Tryd.func40, Tryd.ntmps40
      go_wp2
      go_ret
      exact ⟨by first | rfl | exact ret_bool HV.out.symm, rfl⟩

end Go.Proofs.YtgfopieojpjddaaDoor
