/-
  Groups of digits: plain mathematics: the model's list of group signals is the pieces' joined signals.
-/
import Derived.Test.YtmdngcoccekdgaaGrpS
namespace Go.Proofs.Ytmdngcoccekdgaa
open Go.RowKit

theorem elt_drop {xs : List (Bool × Bool)} {a k : Nat} : elt sigF (xs.drop a) k = elt sigF xs (a + k) := by simp [elt, List.getElem?_drop]
theorem scn_take {xs : List (Bool × Bool)} {n : Nat} : ∀ {k : Nat}, k ≤ n → scn (xs.take n) k = scn xs k
  | 0, _ => rfl
  | k + 1, h => by
    rw [scn, scn, scn_take (by omega)]
    congr 1
    simp [elt, show k < n by omega]
/-- The signals of the first j pieces of m digits. -/
def sgL (m : Nat) (xs : List (Bool × Bool)) : Nat → List (Bool × Bool)
  | 0 => []
  | j + 1 => sgL m xs j ++ [scn (xs.drop (j * m)) (min m (xs.length - j * m))]
theorem sgL_len (m : Nat) (xs : List (Bool × Bool)) : ∀ j, (sgL m xs j).length = j
  | 0 => rfl
  | j + 1 => by simp [sgL, sgL_len m xs j]
theorem grp_part {m : Nat} {xs : List (Bool × Bool)} {j : Nat} (hm : 0 < m) (h0 : grp m xs (j * m) = sgL m xs j) : ∀ r : Nat, r + 1 ≤ m → grp m xs (j * m + (r + 1)) = sgL m xs j ++ [scn (xs.drop (j * m)) (r + 1)]
  | 0, _ => by
    rw [show j * m + (0 + 1) = j * m + 1 from rfl, grp_push (by simp), h0]
    simp [scn, jn_none, elt_drop]
  | r + 1, h => by
    have ih := grp_part hm h0 r (by omega)
    have hmod : ¬ (j * m + (r + 1)) % m = 0 := by
      rw [Nat.mul_add_mod_self_right, Nat.mod_eq_of_lt (by omega)]; omega
    rw [show j * m + (r + 1 + 1) = (j * m + (r + 1)) + 1 by omega, grp_join (m := j) hmod (by rw [ih]; simp [sgL_len]), ih]
    have e1 : elt sigF (sgL m xs j ++ [scn (xs.drop (j * m)) (r + 1)]) j = scn (xs.drop (j * m)) (r + 1) := by
      simp [elt, sgL_len]
    rw [e1]
    have e2 : (sgL m xs j ++ [scn (xs.drop (j * m)) (r + 1)]).set j (jn (scn (xs.drop (j * m)) (r + 1)) (elt sigF xs (j * m + (r + 1)))) = sgL m xs j ++ [jn (scn (xs.drop (j * m)) (r + 1)) (elt sigF xs (j * m + (r + 1)))] := by
      rw [List.set_append_right (h := by rw [sgL_len]; omega), sgL_len]; simp
    have e3 : scn (xs.drop (j * m)) (r + 1 + 1) = jn (scn (xs.drop (j * m)) (r + 1)) (elt sigF xs (j * m + (r + 1))) := by
      show jn _ (elt sigF (xs.drop (j * m)) (r + 1)) = _
      rw [elt_drop]
    rw [e2, e3]
theorem grp_full {m : Nat} {xs : List (Bool × Bool)} (hm : 0 < m) : ∀ j : Nat, j * m ≤ xs.length → grp m xs (j * m) = sgL m xs j
  | 0, _ => by simp [grp, sgL]
  | j + 1, h => by
    rw [Nat.succ_mul] at h
    have h0 := grp_full (xs := xs) hm j (by omega)
    have h1 := grp_part (xs := xs) hm h0 (m - 1) (by omega)
    rw [show m - 1 + 1 = m by omega] at h1
    rw [Nat.succ_mul, h1, sgL, show min m (xs.length - j * m) = m by omega]
theorem grp_all {m K : Nat} {xs : List (Bool × Bool)} (hm : 0 < m) (h1 : xs.length ≤ K * m) (h2 : ∀ j, j < K → j * m < xs.length) : grp m xs xs.length = sgL m xs K := by
  cases K with
  | zero => rw [Nat.zero_mul] at h1; obtain h0 : xs.length = 0 := by omega
            rw [h0]; rfl
  | succ j =>
    have hj := h2 j (by omega)
    rw [Nat.succ_mul] at h1
    have h0 := grp_full (xs := xs) hm j (by omega)
    have h3 := grp_part (xs := xs) hm h0 (xs.length - j * m - 1) (by omega)
    rw [show xs.length - j * m - 1 + 1 = xs.length - j * m by omega, show j * m + (xs.length - j * m) = xs.length by omega] at h3
    rw [h3, sgL, show min m (xs.length - j * m) = xs.length - j * m by omega]
theorem RdF.piece {w : World} {b off : Nat} {xs : List (Bool × Bool)} (h : RdF sigF w (some ⟨b, off, none⟩) xs) (k n : Nat) : RdF sigF w (some ⟨b, off + k * 2, none⟩) ((xs.drop k).take n) :=
  ⟨by have := h.len; simp; omega, fun hne => by
    obtain ⟨b', off', e, hc⟩ := h.cells (by rintro rfl; simp at hne)
    cases e
    refine ⟨b, off + k * 2, rfl, fun i x hi j v hv => ?_⟩
    have hi2 : xs[k + i]? = some x := by
      rw [List.getElem?_take] at hi
      split at hi
      · rwa [List.getElem?_drop] at hi
      · cases hi
    have h1 := hc (k + i) x hi2 j v hv
    have e : off + (k + i) * sigF.sz + j = off + k * 2 + i * sigF.sz + j := by show off + (k + i) * 2 + j = off + k * 2 + i * 2 + j; omega
    rwa [e] at h1⟩
end Go.Proofs.Ytmdngcoccekdgaa
