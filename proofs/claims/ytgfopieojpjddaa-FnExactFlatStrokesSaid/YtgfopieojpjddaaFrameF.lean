/-
  How slices of structs of int64 that come in read.
-/
import Derived.Test.YtgfopieojpjddaaFlat
import Derived.ProofKit
import Derived.OpenShut
import Derived.ChangeOld
import Derived.Lib.SmallJoins
import Derived.Deep.Slices
import Derived.Deep.Fields
namespace Go.Proofs.Ytgfopieojpjddaa
open Go.ChangeShapes Go.WideShapes Go.ChangeAt Go.RowKit Go.Joins Go.Deep

theorem addr_plus (b off n : Nat) : (⟨b, off, none⟩ : Addr).add n = ⟨b, off + n, none⟩ := by
  by_cases h : n = 0
  · subst h; rfl
  · simp [Addr.add, h]

section
variable {H : Type} {enc : TypeId × Value → H} {P : Program} {W : World} {base fuel : Nat} {spare : Nat → Bool} {held : Bool} {t e ti : TypeId} {fs : Array Field} {v : Value} {y : DataW H × List MemPlace}
theorem row_ints (ht : P.underlying t = some (.slice e)) (he : P.underlying e = some (.struct fs)) (hone : oneCellFields P fs = true) (hC : P.cellsOf e = fs.size)
    (hall : ∀ (j : Nat) (f : Field), fs[j]? = some f → f.type = ti) (hti : P.underlying ti = some (.int .i64)) (h : DataW.trod enc P W base spare held fuel t [v] = some y) :
    v = .slice none 0 0 ∨ ∃ (a : Addr) (len cap : Nat), v = .slice (some a) len cap ∧ len ≤ maxLen ∧
      ∀ i, i < len → ∀ j, j < fs.size → ∃ z : Int, W.cell? (a.add (i * fs.size + j)) = some (.int .i64 z) ∧ I64 z := by
  rcases open_slice ht h with ⟨h0, _⟩ | ⟨a, len, cap, m, n, D, Pl, hcs, _, hl, hm, hmm, _, hi⟩
  · left; simpa using h0
  · right
    refine ⟨a, len, cap, by simpa using hcs, by omega, fun i hil j hj => ?_⟩
    have him : i < m := by rw [hmm]; split <;> omega
    obtain ⟨cs', hc, ht'⟩ := hi i him
    rw [hC] at hc
    obtain ⟨ys, n', _, _, _, hyl, hf⟩ := DataW.trod_struct he ht'
    obtain ⟨_, hcl, hat⟩ := World.cells?_some hc
    have hfj : fs[j]? = some fs[j] := Array.getElem?_eq_getElem hj
    obtain ⟨ho, hk⟩ := hone_of hone j fs[j] hfj
    have h1 := hf j fs[j] hfj
    rw [ho, hk, hall j fs[j] hfj] at h1
    have hjl : j < cs'.length := by omega
    have e1 : (cs'.drop j).take 1 = [cs'[j]] := by rw [List.drop_eq_getElem_cons hjl]; rfl
    have e2 : ys[j]? = some (ys[j]'(by omega)) := List.getElem?_eq_getElem (by omega)
    rw [e1, e2] at h1
    obtain ⟨z, e3, _, wz⟩ := DataW.trod_int hti h1
    refine ⟨z, ?_, wz⟩
    rw [← Go.Deep.add_add, hat j (by omega), List.getElem?_eq_getElem hjl]
    simpa using e3

/-- A row of pairs. -/
theorem row_pairs {f0 f1 : Field} (ht : P.underlying t = some (.slice e)) (he : P.underlying e = some (.struct #[f0, f1])) (hone : oneCellFields P #[f0, f1] = true) (hC : P.cellsOf e = 2)
    (h0 : f0.type = ti) (h1 : f1.type = ti) (hti : P.underlying ti = some (.int .i64)) (h : DataW.trod enc P W base spare held fuel t [v] = some y) :
    ∃ A C xs, v = .slice A (List.length xs) C ∧ RawF pairF (fun x => I64 x.1 ∧ I64 x.2) W A xs := by
  have hall : ∀ (j : Nat) (f : Field), (#[f0, f1] : Array Field)[j]? = some f → f.type = ti := by
    intro j f hf
    match j, hf with
    | 0, hf => simp at hf; rw [← hf]; exact h0
    | 1, hf => simp at hf; rw [← hf]; exact h1
  rcases row_ints ht he hone hC hall hti h with rfl | ⟨a, len, cap, rfl, hm, hc⟩
  · exact ⟨none, 0, [], rfl, by simp, by intro x hx; simp at hx, fun h => absurd rfl h⟩
  · have hcell : ∀ i, ∃ z : Int × Int, i < len → W.cell? (a.add (i * 2)) = some (.int .i64 z.1) ∧ W.cell? (a.add (i * 2 + 1)) = some (.int .i64 z.2) ∧ I64 z.1 ∧ I64 z.2 := by
      intro i
      by_cases hi : i < len
      · obtain ⟨z0, c0, w0⟩ := hc i hi 0 (by simp)
        obtain ⟨z1, c1, w1⟩ := hc i hi 1 (by simp)
        exact ⟨(z0, z1), fun _ => ⟨c0, c1, w0, w1⟩⟩
      · exact ⟨(0, 0), fun h => absurd h hi⟩
    obtain ⟨Z, hZ⟩ := Classical.axiomOfChoice hcell
    have hlen : ((List.range len).map Z).length = len := by simp
    refine ⟨some a, cap, (List.range len).map Z, by rw [hlen], by rw [hlen]; unfold maxLen at hm; omega, ?_, fun hne => ?_⟩
    · intro x hx
      simp only [List.mem_map, List.mem_range] at hx
      obtain ⟨i, hi, rfl⟩ := hx
      exact (hZ i hi).2.2
    · have hpos : 0 < len := by
        rcases Nat.eq_zero_or_pos len with h | h
        · subst h; simp at hne
        · exact h
      have hc0 := (hZ 0 hpos).1
      obtain ⟨b, off, spot⟩ := a
      have hspot : spot = none := by simpa [Addr.add] using World.cell?_spot hc0
      subst hspot
      refine ⟨b, off, rfl, fun i x hx j v hv => ?_⟩
      have hi : i < len := by have := (List.getElem?_eq_some_iff.1 hx).1; rwa [hlen] at this
      have ex : x = Z i := by rw [List.getElem?_map, List.getElem?_range hi] at hx; simpa using hx.symm
      subst ex
      obtain ⟨c0, c1, _⟩ := hZ i hi
      rw [addr_plus] at c0 c1
      match j, hv with
      | 0, hv => simp [pairF] at hv; subst hv; exact c0
      | 1, hv => simp [pairF] at hv; subst hv; exact c1

/-- A row of triples. -/
theorem row_trips {f0 f1 f2 : Field} (ht : P.underlying t = some (.slice e)) (he : P.underlying e = some (.struct #[f0, f1, f2])) (hone : oneCellFields P #[f0, f1, f2] = true) (hC : P.cellsOf e = 3)
    (h0 : f0.type = ti) (h1 : f1.type = ti) (h2 : f2.type = ti) (hti : P.underlying ti = some (.int .i64)) (h : DataW.trod enc P W base spare held fuel t [v] = some y) :
    ∃ A C xs, v = .slice A (List.length xs) C ∧ RawF tripF (fun x => I64 x.1 ∧ I64 x.2.1 ∧ I64 x.2.2) W A xs := by
  have hall : ∀ (j : Nat) (f : Field), (#[f0, f1, f2] : Array Field)[j]? = some f → f.type = ti := by
    intro j f hf
    match j, hf with
    | 0, hf => simp at hf; rw [← hf]; exact h0
    | 1, hf => simp at hf; rw [← hf]; exact h1
    | 2, hf => simp at hf; rw [← hf]; exact h2
  rcases row_ints ht he hone hC hall hti h with rfl | ⟨a, len, cap, rfl, hm, hc⟩
  · exact ⟨none, 0, [], rfl, by simp, by intro x hx; simp at hx, fun h => absurd rfl h⟩
  · have hcell : ∀ i, ∃ z : Int × Int × Int, i < len → W.cell? (a.add (i * 3)) = some (.int .i64 z.1) ∧ W.cell? (a.add (i * 3 + 1)) = some (.int .i64 z.2.1) ∧ W.cell? (a.add (i * 3 + 2)) = some (.int .i64 z.2.2) ∧ I64 z.1 ∧ I64 z.2.1 ∧ I64 z.2.2 := by
      intro i
      by_cases hi : i < len
      · obtain ⟨z0, c0, w0⟩ := hc i hi 0 (by simp)
        obtain ⟨z1, c1, w1⟩ := hc i hi 1 (by simp)
        obtain ⟨z2, c2, w2⟩ := hc i hi 2 (by simp)
        exact ⟨(z0, z1, z2), fun _ => ⟨c0, c1, c2, w0, w1, w2⟩⟩
      · exact ⟨(0, 0, 0), fun h => absurd h hi⟩
    obtain ⟨Z, hZ⟩ := Classical.axiomOfChoice hcell
    have hlen : ((List.range len).map Z).length = len := by simp
    refine ⟨some a, cap, (List.range len).map Z, by rw [hlen], by rw [hlen]; unfold maxLen at hm; omega, ?_, fun hne => ?_⟩
    · intro x hx
      simp only [List.mem_map, List.mem_range] at hx
      obtain ⟨i, hi, rfl⟩ := hx
      exact (hZ i hi).2.2.2
    · have hpos : 0 < len := by
        rcases Nat.eq_zero_or_pos len with h | h
        · subst h; simp at hne
        · exact h
      have hc0 := (hZ 0 hpos).1
      obtain ⟨b, off, spot⟩ := a
      have hspot : spot = none := by simpa [Addr.add] using World.cell?_spot hc0
      subst hspot
      refine ⟨b, off, rfl, fun i x hx j v hv => ?_⟩
      have hi : i < len := by have := (List.getElem?_eq_some_iff.1 hx).1; rwa [hlen] at this
      have ex : x = Z i := by rw [List.getElem?_map, List.getElem?_range hi] at hx; simpa using hx.symm
      subst ex
      obtain ⟨c0, c1, c2, _⟩ := hZ i hi
      rw [addr_plus] at c0 c1 c2
      match j, hv with
      | 0, hv => simp [tripF] at hv; subst hv; exact c0
      | 1, hv => simp [tripF] at hv; subst hv; exact c1
      | 2, hv => simp [tripF] at hv; subst hv; exact c2
end
end Go.Proofs.Ytgfopieojpjddaa
