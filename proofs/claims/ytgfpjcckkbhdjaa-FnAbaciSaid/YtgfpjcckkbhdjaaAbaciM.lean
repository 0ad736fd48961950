/-
  An abacus that is set shows the value in the plain way: the maths of laws.FnAbaci.
-/
import Derived.Test.YtgfpjcckkbhdjaaAba
namespace Go.Proofs.Ytgfpjcckkbhdjaa
open Go.RowKit

theorem digsR_ten : ∀ (n : Nat) (v : Int), ∀ d ∈ digsR 10 n v, 0 ≤ d ∧ d ≤ 9
  | 0, _, d, h => by cases h
  | n + 1, v, d, h => by
    rcases List.mem_cons.1 h with rfl | h
    · omega
    · exact digsR_ten n (v / 10) d h
theorem setP_rods {U L W : Int} (hk : kindB U L W = true) (n : Nat) (v : Int) : rodsB U L (setP U W n v) = true := by
  have h := kindB_true hk
  simp only [rodsB, setP, List.all_eq_true, List.mem_map]
  rintro r ⟨d, hd, rfl⟩
  have := digsR_ten n v d hd
  exact digP_bd h.1 h.2.2.2.2.1 h.2.2.2.2.2.2.1 h.2.2.2.2.2.2.2 this.1 this.2
/-- What an abacus is when setting it succeeds. -/
theorem setR_done {U L W U' L' W' v : Int} {rs rs' : List (Int × Int)} (h : setR U L W rs v = (U', L', W', rs', 0)) :
    abaB U' L' W' rs' = true ∧ avR U' L' W' rs' = (v, 0) ∧ plainB U' L' W' rs' = true := by
  cases ha : abaB U L W rs with
  | false => rw [setR_bad ha] at h; simp at h
  | true =>
    by_cases hv : 0 ≤ v ∧ v ≤ 1000000000000
    · by_cases hl : leftR 10 rs.length v = 0
      · rw [setR_ok ha hv hl] at h
        injection h with h1 h
        injection h with h2 h
        injection h with h3 h
        injection h with h4 _
        subst h1 h2 h3 h4
        have e := abaV_setP U W rs.length v
        rw [hl, Int.mul_zero, Int.add_zero] at e
        obtain ⟨k1, k2, _⟩ := abaB_true ha
        have hb : abaB U L W (setP U W rs.length v) = true := by
          simp only [abaB, Bool.and_eq_true]
          exact ⟨⟨k1, by rw [setP_len]; exact k2⟩, setP_rods k1 _ _⟩
        refine ⟨hb, by rw [avR_ok hb, e], ?_⟩
        rw [plainB, hb, Bool.true_and, decide_eq_true_eq, setP_len, e]
        exact ⟨hl, rfl⟩
      · rw [setR_full ha hv hl] at h; simp at h
    · rw [setR_range ha hv] at h; simp at h
theorem plnR_done {U L W U' L' W' : Int} {rs rs' : List (Int × Int)} (h : plnR U L W rs = (U', L', W', rs', 0)) :
    avR U L W rs = (abaV W rs, 0) ∧ avR U' L' W' rs' = (abaV W rs, 0) ∧ plainB U' L' W' rs' = true := by
  have h2 := setR_done h
  refine ⟨?_, h2.2.1, h2.2.2⟩
  cases ha : abaB U L W rs with
  | false => rw [plnR, setR_bad ha] at h; simp at h
  | true => exact avR_ok ha
end Go.Proofs.Ytgfpjcckkbhdjaa
