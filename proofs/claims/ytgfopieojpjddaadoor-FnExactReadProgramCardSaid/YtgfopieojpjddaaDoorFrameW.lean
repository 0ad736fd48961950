/-
  How the laws' arguments read: lists of strings.
-/
import Derived.Test.YtgfopieojpjddaaDoorRows
import Derived.Test.YtgfopieojpjddaaDoorKnob
import Derived.Test.YtgfopieojpjddaaDoorFrameF
import Derived.SliceStrings
import Derived.ShutString
namespace Go.Proofs.YtgfopieojpjddaaDoor
open Go.ChangeShapes Go.WideShapes Go.ChangeAt Go.RowKit Go.Joins Go.Deep

section
variable {H : Type} {enc : TypeId × Value → H} {W : World} {base : Nat} {v : Value} {d : DataW H} {p : List MemPlace}

theorem texts_of_trod {fuel : Nat} {v : Value} {y : DataW H × List MemPlace} (hc : Tryd.prog.cellsOf 9 = 1) (hf : DataW.trod enc Tryd.prog W 0 (fun _ => true) true fuel 22 [v] = some y) :
    ∃ A C xs, v = .slice A (List.length xs) C ∧ RawF textF (fun s => s.size ≤ 9223372036854775807) W A xs := by
  rcases open_strings Tryd.underlying22 Tryd.underlying9 hc hf with ⟨hcs, _⟩ | ⟨a, l, c, ss, hcs, _, hl, hm, hz, _, hcell, hwz⟩
  · simp at hcs
    subst hcs
    exact ⟨none, 0, [], rfl, by simp, by intro z hz; simp at hz, fun h => absurd rfl h⟩
  · simp at hcs
    subst hcs
    simp at hz
    have hlen : (ss.take l).length = l := by rw [List.length_take]; omega
    refine ⟨some a, c, ss.take l, by rw [hlen], by rw [hlen]; unfold maxLen at hm; omega, fun s hs => ?_, fun hne => ?_⟩
    · have := hwz s (List.mem_of_mem_take hs)
      unfold maxLen at this
      omega
    have hpos : 0 < l := by
      rcases Nat.eq_zero_or_pos l with h | h
      · subst h; simp at hne
      · exact h
    have hc0 := hcell 0 (by omega)
    obtain ⟨b, off, spot⟩ := a
    have hspot : spot = none := by simpa [Addr.add] using World.cell?_spot hc0
    subst hspot
    refine ⟨b, off, rfl, fun i x hx j u hu => ?_⟩
    have hi : i < l := by have := (List.getElem?_eq_some_iff.1 hx).1; omega
    have h := hcell i (by omega)
    have ex : ss.getD i ByteArray.empty = x := by
      rw [List.getElem?_take_of_lt hi] at hx
      rw [List.getD_eq_getElem?_getD, hx]; rfl
    rw [ex, addr_plus] at h
    match j, hu with
    | 0, hu => simp [textF] at hu; subst hu; simpa [textF] using h

set_option maxRecDepth 100000 in
theorem open_StringS (hval : Value.okWide Tryd.prog W .any base 22 v) (h : DataW.Trod enc Tryd.prog W 0 (fun _ => true) true 22 v d p) :
    ∃ A C xs, v = .slice A (List.length xs) C ∧ RawF textF (fun s => s.size ≤ 9223372036854775807) W A xs := by
  obtain ⟨a0, len, cap, rfl⟩ := okWide_slice Tryd.underlying22 hval
  obtain ⟨fuel, hf⟩ := h
  exact texts_of_trod (by kernel_rfl) (by simpa [Value.cells] using hf)
end
end Go.Proofs.YtgfopieojpjddaaDoor
