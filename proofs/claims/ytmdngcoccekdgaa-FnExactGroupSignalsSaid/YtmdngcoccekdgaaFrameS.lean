/-
  How the laws' arguments read: signals, slices of signals.
-/
import Derived.Test.YtmdngcoccekdgaaRows
import Derived.Test.YtmdngcoccekdgaaKnob
import Derived.Test.YtmdngcoccekdgaaFrameF
import Derived.Test.YtmdngcoccekdgaaSignalS
import Derived.ShutString
namespace Go.Proofs.Ytmdngcoccekdgaa
open Go.ChangeShapes Go.WideShapes Go.ChangeAt Go.RowKit Go.Joins Go.Deep

section
variable {H : Type} {enc : TypeId × Value → H} {P : Program} {W : World} {base fuel : Nat} {spare : Nat → Bool} {held : Bool} {t e ti : TypeId} {fs : Array Field} {v : Value} {y : DataW H × List MemPlace}
theorem row_bools (ht : P.underlying t = some (.slice e)) (he : P.underlying e = some (.struct fs)) (hone : oneCellFields P fs = true) (hC : P.cellsOf e = fs.size)
    (hall : ∀ (j : Nat) (f : Field), fs[j]? = some f → f.type = ti) (hti : P.underlying ti = some .bool) (h : DataW.trod enc P W base spare held fuel t [v] = some y) :
    v = .slice none 0 0 ∨ ∃ (a : Addr) (len cap : Nat), v = .slice (some a) len cap ∧ len ≤ maxLen ∧
      ∀ i, i < len → ∀ j, j < fs.size → ∃ z : Bool, W.cell? (a.add (i * fs.size + j)) = some (.bool z) := by
  rcases open_slice ht h with ⟨h0, _⟩ | ⟨a, len, cap, m, n, D, Pl, hcs, _, hl, hm, hmm, _, hi⟩
  · left; simpa using h0
  · right
    refine ⟨a, len, cap, by simpa using hcs, by omega, fun i hil j hj => ?_⟩
    have him : i < m := by rw [hmm]; split <;> omega
    obtain ⟨cs', hc, ht'⟩ := hi i him
    rw [hC] at hc
    obtain ⟨ys, n', _, _, _, hyl, hf⟩ := DataW.trod_struct he ht'
    obtain ⟨_, hcl, hat⟩ := World.cells?_some hc
    have hfj : fs[j]? = some fs[j] := Array.getElem?_eq_getElem hj
    obtain ⟨ho, hk⟩ := hone_of hone j fs[j] hfj
    have h1 := hf j fs[j] hfj
    rw [ho, hk, hall j fs[j] hfj] at h1
    have hjl : j < cs'.length := by omega
    have e1 : (cs'.drop j).take 1 = [cs'[j]] := by rw [List.drop_eq_getElem_cons hjl]; rfl
    have e2 : ys[j]? = some (ys[j]'(by omega)) := List.getElem?_eq_getElem (by omega)
    rw [e1, e2] at h1
    obtain ⟨z, e3, _⟩ := DataW.trod_bool hti h1
    refine ⟨z, ?_⟩
    rw [← Go.Deep.add_add, hat j (by omega), List.getElem?_eq_getElem hjl]
    simpa using e3

/-- A row of pairs of bools. -/
theorem row_sigs {f0 f1 : Field} (ht : P.underlying t = some (.slice e)) (he : P.underlying e = some (.struct #[f0, f1])) (hone : oneCellFields P #[f0, f1] = true) (hC : P.cellsOf e = 2)
    (h0 : f0.type = ti) (h1 : f1.type = ti) (hti : P.underlying ti = some .bool) (h : DataW.trod enc P W base spare held fuel t [v] = some y) :
    ∃ A C xs, v = .slice A (List.length xs) C ∧ RawF sigF (fun _ => True) W A xs := by
  have hall : ∀ (j : Nat) (f : Field), (#[f0, f1] : Array Field)[j]? = some f → f.type = ti := by
    intro j f hf
    match j, hf with
    | 0, hf => simp at hf; rw [← hf]; exact h0
    | 1, hf => simp at hf; rw [← hf]; exact h1
  rcases row_bools ht he hone hC hall hti h with rfl | ⟨a, len, cap, rfl, hm, hc⟩
  · exact ⟨none, 0, [], rfl, by simp, by intro x hx; simp at hx, fun h => absurd rfl h⟩
  · have hcell : ∀ i, ∃ z : Bool × Bool, i < len → W.cell? (a.add (i * 2)) = some (.bool z.1) ∧ W.cell? (a.add (i * 2 + 1)) = some (.bool z.2) := by
      intro i
      by_cases hi : i < len
      · obtain ⟨z0, c0⟩ := hc i hi 0 (by simp)
        obtain ⟨z1, c1⟩ := hc i hi 1 (by simp)
        exact ⟨(z0, z1), fun _ => ⟨c0, c1⟩⟩
      · exact ⟨(false, false), fun h => absurd h hi⟩
    obtain ⟨Z, hZ⟩ := Classical.axiomOfChoice hcell
    have hlen : ((List.range len).map Z).length = len := by simp
    refine ⟨some a, cap, (List.range len).map Z, by rw [hlen], by rw [hlen]; unfold maxLen at hm; omega, fun _ _ => trivial, fun hne => ?_⟩
    have hpos : 0 < len := by
      rcases Nat.eq_zero_or_pos len with h | h
      · subst h; simp at hne
      · exact h
    have hc0 := (hZ 0 hpos).1
    obtain ⟨b, off, spot⟩ := a
    have hspot : spot = none := by simpa [Addr.add] using World.cell?_spot hc0
    subst hspot
    refine ⟨b, off, rfl, fun i x hx j v hv => ?_⟩
    have hi : i < len := by have := (List.getElem?_eq_some_iff.1 hx).1; rwa [hlen] at this
    have ex : x = Z i := by rw [List.getElem?_map, List.getElem?_range hi] at hx; simpa using hx.symm
    subst ex
    obtain ⟨c0, c1⟩ := hZ i hi
    rw [addr_plus] at c0 c1
    match j, hv with
    | 0, hv => simp [sigF] at hv; subst hv; exact c0
    | 1, hv => simp [sigF] at hv; subst hv; exact c1
end

section
variable {H : Type} {enc : TypeId × Value → H} {W : World} {base : Nat} {v : Value} {d : DataW H} {p : List MemPlace}

set_option maxRecDepth 100000 in
theorem open_Signal (hval : Value.okWide Try.prog W .any base 124 v) (h : DataW.Trod enc Try.prog W 0 (fun _ => true) true 124 v d p) :
    ∃ x : Bool × Bool, v = .agg #[.bool x.1, .bool x.2] := by
  obtain ⟨c0, c1, y0, y1, m, rfl, rfl, rfl, h0, h1⟩ := open_agg2 Try.underlying124 (by kernel_rfl) (by kernel_rfl) hval h
  obtain ⟨U, e0, _⟩ := DataW.trod_bool Try.underlying4 h0
  obtain ⟨L, e1, _⟩ := DataW.trod_bool Try.underlying4 h1
  simp at e0 e1
  subst e0 e1
  exact ⟨(U, L), rfl⟩

set_option maxRecDepth 100000 in
theorem open_SignalS (hval : Value.okWide Try.prog W .any base 71 v) (h : DataW.Trod enc Try.prog W 0 (fun _ => true) true 71 v d p) :
    ∃ A C xs, v = .slice A (List.length xs) C ∧ RawF sigF (fun _ => True) W A xs := by
  obtain ⟨a0, len, cap, rfl⟩ := okWide_slice Try.underlying71 hval
  obtain ⟨fuel, hf⟩ := h
  exact row_sigs Try.underlying71 Try.underlying124 (by kernel_rfl) (by kernel_rfl) rfl rfl Try.underlying4 (by simpa [Value.cells] using hf)
end
end Go.Proofs.Ytmdngcoccekdgaa
