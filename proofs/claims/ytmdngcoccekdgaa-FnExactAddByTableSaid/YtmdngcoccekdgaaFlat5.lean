/-
  Rows whose elements are structs of 5 int64.
-/
import Derived.Test.YtmdngcoccekdgaaFrameF
namespace Go.Proofs.Ytmdngcoccekdgaa
open Go.ChangeShapes Go.WideShapes Go.ChangeAt Go.RowKit Go.Joins Go.Deep

def quinF : Flat (Int × Int × Int × Int × Int) := ⟨5, fun z => [.int .i64 z.1, .int .i64 z.2.1, .int .i64 z.2.2.1, .int .i64 z.2.2.2.1, .int .i64 z.2.2.2.2], (0, 0, 0, 0, 0), fun _ => rfl, fun _ v hv => by simp at hv; rcases hv with rfl | rfl | rfl | rfl | rfl <;> rfl, by omega⟩
def All5 (xs : List (Int × Int × Int × Int × Int)) : Prop := ∀ x ∈ xs, I64 x.1 ∧ I64 x.2.1 ∧ I64 x.2.2.1 ∧ I64 x.2.2.2.1 ∧ I64 x.2.2.2.2

section
variable {t : TypeId} {w : World} {lo hi g n c k : Nat}
theorem RdF.at5 {a : Option Addr} {xs : List (Int × Int × Int × Int × Int)} (h : RdF quinF w a xs) (hk : k < xs.length) :
    ∃ b off, a = some ⟨b, off, none⟩ ∧ w.cell? ⟨b, off + k * 5, none⟩ = some (.int .i64 (elt quinF xs k).1) ∧ w.cell? ⟨b, off + k * 5 + 1, none⟩ = some (.int .i64 (elt quinF xs k).2.1) ∧ w.cell? ⟨b, off + k * 5 + 2, none⟩ = some (.int .i64 (elt quinF xs k).2.2.1) ∧ w.cell? ⟨b, off + k * 5 + 3, none⟩ = some (.int .i64 (elt quinF xs k).2.2.2.1) ∧ w.cell? ⟨b, off + k * 5 + 4, none⟩ = some (.int .i64 (elt quinF xs k).2.2.2.2) := by
  obtain ⟨b, off, rfl, hc⟩ := h.at_ hk
  exact ⟨b, off, rfl, hc 0 _ rfl, hc 1 _ rfl, hc 2 _ rfl, hc 3 _ rfl, hc 4 _ rfl⟩
theorem OwnF.get5 {xs : List (Int × Int × Int × Int × Int)} (h : OwnF quinF t w lo hi (.slice (some ⟨g, 0, none⟩) n c) xs) (hk : k < xs.length) :
    w.cell? ⟨g, k * 5, none⟩ = some (.int .i64 (elt quinF xs k).1) ∧ w.cell? ⟨g, k * 5 + 1, none⟩ = some (.int .i64 (elt quinF xs k).2.1) ∧ w.cell? ⟨g, k * 5 + 2, none⟩ = some (.int .i64 (elt quinF xs k).2.2.1) ∧ w.cell? ⟨g, k * 5 + 3, none⟩ = some (.int .i64 (elt quinF xs k).2.2.2.1) ∧ w.cell? ⟨g, k * 5 + 4, none⟩ = some (.int .i64 (elt quinF xs k).2.2.2.2) :=
  ⟨h.get (j := 0) hk rfl, h.get (j := 1) hk rfl, h.get (j := 2) hk rfl, h.get (j := 3) hk rfl, h.get (j := 4) hk rfl⟩
theorem OwnF.put50 {xs : List (Int × Int × Int × Int × Int)} (h : OwnF quinF t w lo hi (.slice (some ⟨g, 0, none⟩) n c) xs) (hk : k < xs.length) (u : Int) :
    OwnF quinF t (w.setCell ⟨g, k * 5, none⟩ (.int .i64 u)) lo hi (.slice (some ⟨g, 0, none⟩) n c) (xs.set k (u, (elt quinF xs k).2.1, (elt quinF xs k).2.2.1, (elt quinF xs k).2.2.2.1, (elt quinF xs k).2.2.2.2)) := h.put (j := 0) hk (by decide) rfl
theorem OwnF.put51 {xs : List (Int × Int × Int × Int × Int)} (h : OwnF quinF t w lo hi (.slice (some ⟨g, 0, none⟩) n c) xs) (hk : k < xs.length) (u : Int) :
    OwnF quinF t (w.setCell ⟨g, k * 5 + 1, none⟩ (.int .i64 u)) lo hi (.slice (some ⟨g, 0, none⟩) n c) (xs.set k ((elt quinF xs k).1, u, (elt quinF xs k).2.2.1, (elt quinF xs k).2.2.2.1, (elt quinF xs k).2.2.2.2)) := h.put (j := 1) hk (by decide) rfl
theorem OwnF.put52 {xs : List (Int × Int × Int × Int × Int)} (h : OwnF quinF t w lo hi (.slice (some ⟨g, 0, none⟩) n c) xs) (hk : k < xs.length) (u : Int) :
    OwnF quinF t (w.setCell ⟨g, k * 5 + 2, none⟩ (.int .i64 u)) lo hi (.slice (some ⟨g, 0, none⟩) n c) (xs.set k ((elt quinF xs k).1, (elt quinF xs k).2.1, u, (elt quinF xs k).2.2.2.1, (elt quinF xs k).2.2.2.2)) := h.put (j := 2) hk (by decide) rfl
theorem OwnF.put53 {xs : List (Int × Int × Int × Int × Int)} (h : OwnF quinF t w lo hi (.slice (some ⟨g, 0, none⟩) n c) xs) (hk : k < xs.length) (u : Int) :
    OwnF quinF t (w.setCell ⟨g, k * 5 + 3, none⟩ (.int .i64 u)) lo hi (.slice (some ⟨g, 0, none⟩) n c) (xs.set k ((elt quinF xs k).1, (elt quinF xs k).2.1, (elt quinF xs k).2.2.1, u, (elt quinF xs k).2.2.2.2)) := h.put (j := 3) hk (by decide) rfl
theorem OwnF.put54 {xs : List (Int × Int × Int × Int × Int)} (h : OwnF quinF t w lo hi (.slice (some ⟨g, 0, none⟩) n c) xs) (hk : k < xs.length) (u : Int) :
    OwnF quinF t (w.setCell ⟨g, k * 5 + 4, none⟩ (.int .i64 u)) lo hi (.slice (some ⟨g, 0, none⟩) n c) (xs.set k ((elt quinF xs k).1, (elt quinF xs k).2.1, (elt quinF xs k).2.2.1, (elt quinF xs k).2.2.2.1, u)) := h.put (j := 4) hk (by decide) rfl
/-- All cells of an element are written. -/
theorem OwnF.put5 {xs : List (Int × Int × Int × Int × Int)} (h : OwnF quinF t w lo hi (.slice (some ⟨g, 0, none⟩) n c) xs) (hk : k < xs.length) (x : (Int × Int × Int × Int × Int)) :
    OwnF quinF t (((((w.setCell ⟨g, k * 5, none⟩ (.int .i64 x.1)).setCell ⟨g, k * 5 + 1, none⟩ (.int .i64 x.2.1)).setCell ⟨g, k * 5 + 2, none⟩ (.int .i64 x.2.2.1)).setCell ⟨g, k * 5 + 3, none⟩ (.int .i64 x.2.2.2.1)).setCell ⟨g, k * 5 + 4, none⟩ (.int .i64 x.2.2.2.2)) lo hi (.slice (some ⟨g, 0, none⟩) n c) (xs.set k x) := by
  simpa only [List.set_set, elt_set_eq (F := quinF) hk] using (((((h.put50 hk x.1).put51 (k := k) (by simpa using hk) x.2.1).put52 (k := k) (by simpa using hk) x.2.2.1).put53 (k := k) (by simpa using hk) x.2.2.2.1).put54 (k := k) (by simpa using hk) x.2.2.2.2)
end
/-- Marks from k on, 5 for an element. -/
def seq5 (k : Int) (n : Nat) : List (Int × Int × Int × Int × Int) := (List.range n).map fun i : Nat => (k + 5 * (i : Int), k + 5 * (i : Int) + 1, k + 5 * (i : Int) + 1 + 1, k + 5 * (i : Int) + 1 + 1 + 1, k + 5 * (i : Int) + 1 + 1 + 1 + 1)
theorem seq5_len (k : Int) (n : Nat) : (seq5 k n).length = n := by simp [seq5]
theorem seq5_at {k : Int} {n i : Nat} (h : i < n) : elt quinF (seq5 k n) i = (k + 5 * (i : Int), k + 5 * (i : Int) + 1, k + 5 * (i : Int) + 1 + 1, k + 5 * (i : Int) + 1 + 1 + 1, k + 5 * (i : Int) + 1 + 1 + 1 + 1) := elt_range h

section
variable {H : Type} {enc : TypeId × Value → H} {P : Program} {W : World} {base fuel : Nat} {spare : Nat → Bool} {held : Bool} {t e ti : TypeId} {fs : Array Field} {v : Value} {y : DataW H × List MemPlace}
/-- A row of them that comes in. -/
theorem row_quins {f0 f1 f2 f3 f4 : Field} (ht : P.underlying t = some (.slice e)) (he : P.underlying e = some (.struct #[f0, f1, f2, f3, f4])) (hone : oneCellFields P #[f0, f1, f2, f3, f4] = true) (hC : P.cellsOf e = 5)
    (h0 : f0.type = ti) (h1 : f1.type = ti) (h2 : f2.type = ti) (h3 : f3.type = ti) (h4 : f4.type = ti) (hti : P.underlying ti = some (.int .i64)) (h : DataW.trod enc P W base spare held fuel t [v] = some y) :
    ∃ A C xs, v = .slice A (List.length xs) C ∧ RawF quinF (fun x => I64 x.1 ∧ I64 x.2.1 ∧ I64 x.2.2.1 ∧ I64 x.2.2.2.1 ∧ I64 x.2.2.2.2) W A xs := by
  have hall : ∀ (j : Nat) (f : Field), (#[f0, f1, f2, f3, f4] : Array Field)[j]? = some f → f.type = ti := by
    intro j f hf
    match j, hf with
    | 0, hf => simp at hf; rw [← hf]; exact h0
    | 1, hf => simp at hf; rw [← hf]; exact h1
    | 2, hf => simp at hf; rw [← hf]; exact h2
    | 3, hf => simp at hf; rw [← hf]; exact h3
    | 4, hf => simp at hf; rw [← hf]; exact h4
  rcases row_ints ht he hone hC hall hti h with rfl | ⟨a, len, cap, rfl, hm, hc⟩
  · exact ⟨none, 0, [], rfl, by simp, by intro x hx; simp at hx, fun h => absurd rfl h⟩
  · have hcell : ∀ i, ∃ z : Int × Int × Int × Int × Int, i < len → W.cell? (a.add (i * 5)) = some (.int .i64 z.1) ∧ W.cell? (a.add (i * 5 + 1)) = some (.int .i64 z.2.1) ∧ W.cell? (a.add (i * 5 + 2)) = some (.int .i64 z.2.2.1) ∧ W.cell? (a.add (i * 5 + 3)) = some (.int .i64 z.2.2.2.1) ∧ W.cell? (a.add (i * 5 + 4)) = some (.int .i64 z.2.2.2.2) ∧ I64 z.1 ∧ I64 z.2.1 ∧ I64 z.2.2.1 ∧ I64 z.2.2.2.1 ∧ I64 z.2.2.2.2 := by
      intro i
      by_cases hi : i < len
      · obtain ⟨z0, c0, w0⟩ := hc i hi 0 (by simp)
        obtain ⟨z1, c1, w1⟩ := hc i hi 1 (by simp)
        obtain ⟨z2, c2, w2⟩ := hc i hi 2 (by simp)
        obtain ⟨z3, c3, w3⟩ := hc i hi 3 (by simp)
        obtain ⟨z4, c4, w4⟩ := hc i hi 4 (by simp)
        exact ⟨(z0, z1, z2, z3, z4), fun _ => ⟨c0, c1, c2, c3, c4, w0, w1, w2, w3, w4⟩⟩
      · exact ⟨(0, 0, 0, 0, 0), fun h => absurd h hi⟩
    obtain ⟨Z, hZ⟩ := Classical.axiomOfChoice hcell
    have hlen : ((List.range len).map Z).length = len := by simp
    refine ⟨some a, cap, (List.range len).map Z, by rw [hlen], by rw [hlen]; unfold maxLen at hm; omega, ?_, fun hne => ?_⟩
    · intro x hx
      simp only [List.mem_map, List.mem_range] at hx
      obtain ⟨i, hi, rfl⟩ := hx
      exact (hZ i hi).2.2.2.2.2
    · have hpos : 0 < len := by
        rcases Nat.eq_zero_or_pos len with h | h
        · subst h; simp at hne
        · exact h
      have hc0 := (hZ 0 hpos).1
      obtain ⟨b, off, spot⟩ := a
      have hspot : spot = none := by simpa [Addr.add] using World.cell?_spot hc0
      subst hspot
      refine ⟨b, off, rfl, fun i x hx j v hv => ?_⟩
      have hi : i < len := by have := (List.getElem?_eq_some_iff.1 hx).1; rwa [hlen] at this
      have ex : x = Z i := by rw [List.getElem?_map, List.getElem?_range hi] at hx; simpa using hx.symm
      subst ex
      obtain ⟨c0, c1, c2, c3, c4, _⟩ := hZ i hi
      rw [addr_plus] at c0 c1 c2 c3 c4
      match j, hv with
      | 0, hv => simp [quinF] at hv; subst hv; exact c0
      | 1, hv => simp [quinF] at hv; subst hv; exact c1
      | 2, hv => simp [quinF] at hv; subst hv; exact c2
      | 3, hv => simp [quinF] at hv; subst hv; exact c3
      | 4, hv => simp [quinF] at hv; subst hv; exact c4
end
end Go.Proofs.Ytmdngcoccekdgaa
