/-
  Rows of fractions: the maths.
-/
import Derived.Test.YtaefgkhbgljkoaaGear
namespace Go.Proofs.Ytaefgkhbgljkoaa

/-- Fractions as pairs. -/
def frP (q : Rat) : Int × Int := (q.num, (q.den : Int))
def frs (qs : List Rat) : List (Int × Int) := qs.map frP
def qat (qs : List Rat) (k : Nat) : Rat := qs[k]?.getD 0
theorem frs_len (qs : List Rat) : (frs qs).length = qs.length := by simp [frs]
theorem frs_at {qs : List Rat} {k : Nat} (h : k < qs.length) : elt pairF (frs qs) k = ((qat qs k).num, ((qat qs k).den : Int)) := by
  rw [elt_get (by rw [frs_len]; exact h)]; simp [frs, frP, qat, h]
def prodQ (qs : List Rat) : Rat := qs.foldl (· * ·) 1
theorem prodQ_take {qs : List Rat} {k : Nat} (h : k < qs.length) : prodQ (qs.take (k + 1)) = prodQ (qs.take k) * qat qs k := by
  rw [List.take_succ_eq_append_getElem h, prodQ, List.foldl_append]; simp [prodQ, qat, h]
theorem prodQ_fac (xs : List (Int × Int)) : prodQ (xs.map fac) = ratQ xs := by rw [prodQ, List.foldl_map, ratQ]
theorem qat_fac {xs : List (Int × Int)} {k : Nat} (h : k < xs.length) : qat (xs.map fac) k = fac (elt pairF xs k) := by simp [qat, elt_get h, h]
/-- The products fit. -/
def FitQ (qs : List Rat) : Prop := ∀ k, k < qs.length → ((prodQ (qs.take k)).num * (qat qs k).num).natAbs ≤ 9000000000000000000 ∧ (prodQ (qs.take k)).den * (qat qs k).den ≤ 9000000000000000000
theorem fit_fac {xs : List (Int × Int)} (h : TrainOf xs) : FitQ (xs.map fac) := by
  intro k hk
  rw [List.length_map] at hk
  have h6 := h.n1
  have ht := h.all _ (elt_mem (F := pairF) hk)
  rw [← List.map_take, prodQ_fac, qat_fac hk, Int.natAbs_mul]
  obtain ⟨b1, b2⟩ := ratQ_in h.all (k := k) (by omega) (by omega)
  have c1 := fac_num_le ht
  have c2 := fac_den_le ht
  have m1 := Nat.mul_le_mul b1 c1
  have m2 := Nat.mul_le_mul b2 c2
  omega
theorem fit_nil : FitQ [] := fun k hk => by simp at hk
theorem prodQ_two (p q : Rat) : prodQ [p, q] = p * q := by simp [prodQ, Rat.one_mul]
theorem fit_two {p q : Rat} (hp : p.num.natAbs ≤ 9000000000000000000) (hp2 : p.den ≤ 9000000000000000000) (h : (p.num * q.num).natAbs ≤ 9000000000000000000) (h2 : p.den * q.den ≤ 9000000000000000000) : FitQ [p, q] := by
  intro k hk
  simp at hk
  obtain rfl | rfl : k = 0 ∨ k = 1 := by omega
  · simp [prodQ, qat]; exact ⟨hp, hp2⟩
  · simp [prodQ, qat, Rat.one_mul]; exact ⟨h, h2⟩
end Go.Proofs.Ytaefgkhbgljkoaa
