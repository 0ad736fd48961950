/-
  The fault that a text tells: plain mathematics.
-/
import Derived.Test.YtgfopieojpjddaaDoorRgM
import Derived.Test.YtgfopieojpjddaaDoorFltT
namespace Go.Proofs.YtgfopieojpjddaaDoor
open Go.RowKit

/-- What a word and a number tell. -/
noncomputable def rfT (h : ByteArray) (n : Int × Bool) : (Int × Int) × Bool := open Classical in
  if n.2 = true ∧ inB n.1 0 15 = true then (if h = wdV 1 then ((1, n.1), true) else if h = wdV 2 then ((2, n.1), true) else if h = wdV 3 then ((3, n.1), true) else ((0, 0), false)) else ((0, 0), false)
noncomputable def rfL : List ByteArray → (Int × Int) × Bool
  | [h, t] => rfT h (rdR t)
  | _ => ((0, 0), false)
noncomputable def rfR (s : ByteArray) : (Int × Int) × Bool := rfL (splitL s 32)
theorem rfL_len {l : List ByteArray} (h : ¬ l.length = 2) : rfL l = ((0, 0), false) := by
  match l, h with
  | [], _ => rfl
  | [_], _ => rfl
  | [_, _], h => exact absurd rfl h
  | _ :: _ :: _ :: _, _ => rfl
theorem rfT_bad {h : ByteArray} {n : Int × Bool} (hn : ¬ (n.2 = true ∧ inB n.1 0 15 = true)) : rfT h n = ((0, 0), false) := by rw [rfT, if_neg hn]
theorem rfT_hit {h : ByteArray} {v k : Int} (hv : inB v 0 15 = true) (hk : 1 ≤ k ∧ k ≤ 3) (he : h = wdV k) (hall : ∀ j, 1 ≤ j → j < k → ¬ h = wdV j) : rfT h (v, true) = ((k, v), true) := by
  have hcc : k = 1 ∨ k = 2 ∨ k = 3 := by omega
  rw [rfT, if_pos ⟨rfl, hv⟩]
  rcases hcc with rfl | rfl | rfl
  · rw [if_pos he]
  · rw [if_neg (hall 1 (by omega) (by omega)), if_pos he]
  · rw [if_neg (hall 1 (by omega) (by omega)), if_neg (hall 2 (by omega) (by omega)), if_pos he]
theorem rfT_none {h : ByteArray} {v : Int} (hall : ∀ j, 1 ≤ j → j < 4 → ¬ h = wdV j) : rfT h (v, true) = ((0, 0), false) := by
  rw [rfT]
  split
  · rw [if_neg (hall 1 (by omega) (by omega)), if_neg (hall 2 (by omega) (by omega)), if_neg (hall 3 (by omega) (by omega))]
  · rfl
theorem itoa_plain : ∀ n : Fin 16, (Lib.itoa (n.1 : Int)) ≠ [] ∧ ∀ x ∈ Lib.itoa (n.1 : Int), x ≠ 32 := by decide +kernel
/-- What is no text of a number from 0 to 15. -/
theorem rfT_no {h t : ByteArray} (ht : t.data.toList = [] ∨ 32 ∈ t.data.toList) : rfT h (rdR t) = ((0, 0), false) := by
  by_cases hx : ∃ v, isDec t v
  · obtain ⟨v, hv⟩ := hx
    rw [rdR_yes hv]
    refine rfT_bad fun ⟨_, h2⟩ => ?_
    obtain ⟨h3, h4⟩ := inB_true h2
    obtain ⟨n, rfl⟩ := Int.eq_ofNat_of_zero_le h3
    obtain ⟨p1, p2⟩ := itoa_plain ⟨n, by simp only at h4; omega⟩
    rw [hv.2] at ht
    rcases ht with ht | ht
    · exact p1 (by simpa using ht)
    · exact p2 32 (by simpa using ht) rfl
  · rw [rdR_no hx]
    exact rfT_bad fun ⟨h1, _⟩ => by cases h1
theorem splitF_size {s : ByteArray} {c : UInt8} : ∀ (n i f : Nat), ∀ x ∈ splitGo s c n i f, x.size ≤ s.size
  | 0, i, f, x, hx => by
    rw [splitGo, List.mem_singleton] at hx
    subst hx
    (simp) <;> omega
  | n + 1, i, f, x, hx => by
    rw [splitGo] at hx
    split at hx
    · rcases List.mem_cons.1 hx with rfl | hx
      · (simp) <;> omega
      · exact splitF_size n _ _ x hx
    · exact splitF_size n _ _ x hx

/-- What the text's cut at the first space tells. -/
theorem cutf_tells (s : ByteArray) :
    (⟨(Lib.cut s.data.toList [32]).1.toArray⟩ : ByteArray).size ≤ s.size ∧ (⟨(Lib.cut s.data.toList [32]).2.1.toArray⟩ : ByteArray).size ≤ s.size ∧
      rfR s = rfT ⟨(Lib.cut s.data.toList [32]).1.toArray⟩ (rdR ⟨(Lib.cut s.data.toList [32]).2.1.toArray⟩) := by
  rcases Lib.index_spec s.data.toList [32] with ⟨h1, h2⟩ | ⟨i, h1, h2, h3, h4⟩
  · have e0 : Lib.cut s.data.toList [32] = (s.data.toList, [], false) := by unfold Lib.cut; rw [if_neg (by omega)]
    rw [e0]
    refine ⟨by simp, Nat.zero_le _, ?_⟩
    have hn : ∀ j, 0 ≤ j → j < s.size → ¬ byteAt s j = 32 := fun j _ hj hc => by
      have := h2 j (by have : s.data.toList.length = s.size := by simp
                       omega)
      rw [(occ_byte hj).2 hc] at this
      cases this
    rw [rfT_no (.inl (by simp))]
    unfold rfR splitL
    rw [splitGo_none s.size 0 0 (by omega) hn]
    rfl
  · have hsz : s.data.toList.length = s.size := by simp
    have hi : i < s.size := by
      rcases Lib.occAt_room h3 with h | h
      · simp at h; omega
      · cases h
    have hc : byteAt s i = 32 := (occ_byte hi).1 h3
    have hn : ∀ j, 0 ≤ j → j < 0 + i → ¬ byteAt s j = 32 := fun j _ hj hc => by
      have := h4 j (by omega)
      rw [(occ_byte (by omega)).2 hc] at this
      cases this
    have e1 : (Lib.cut s.data.toList [32]) = (s.data.toList.take i, s.data.toList.drop (i + 1), true) := by
      unfold Lib.cut; rw [if_pos (by omega), h1]; simp
    have e2 : (⟨(s.data.toList.take i).toArray⟩ : ByteArray) = s.extract 0 i := by
      apply WideShapes.bytes_inj
      rw [Lib.extract_data]; simp
    have e3 : (⟨(s.data.toList.drop (i + 1)).toArray⟩ : ByteArray) = s.extract (i + 1) s.size := by
      apply WideShapes.bytes_inj
      rw [Lib.extract_to_end]
    have e4 : splitL s 32 = s.extract 0 i :: splitGo s 32 (s.size - (i + 1)) (i + 1) (i + 1) := by
      have := splitGo_first (s := s) (c := 32) i (s.size - (i + 1)) 0 0 hn (by rw [Nat.zero_add]; exact hc)
      rw [show i + 1 + (s.size - (i + 1)) = s.size by omega, Nat.zero_add] at this
      exact this
    rw [e1]
    refine ⟨?_, ?_, ?_⟩
    · rw [e2]; (simp) <;> omega
    · rw [e3]; (simp) <;> omega
    · simp only [e2, e3]
      unfold rfR
      rw [e4]
      by_cases hx : ∃ j, i + 1 ≤ j ∧ j < s.size ∧ byteAt s j = 32
      · have hl := splitGo_some (s := s) (c := 32) (s.size - (i + 1)) (i + 1) (i + 1) (by omega) hx
        rw [rfL_len (by simp; omega)]
        obtain ⟨j, j1, j2, j3⟩ := hx
        refine (rfT_no (.inr ?_)).symm
        rw [← e3]
        simp only [List.mem_iff_getElem]
        refine ⟨j - (i + 1), by simp; omega, ?_⟩
        rw [← j3, ← byteAt_get j2]
        simp only [List.getElem_drop]
        have : i + 1 + (j - (i + 1)) = j := by omega
        simp only [this]
        rfl
      · rw [splitGo_none _ _ _ (by omega) (fun j h1 h2 h3 => hx ⟨j, h1, h2, h3⟩)]
        rfl
end Go.Proofs.YtgfopieojpjddaaDoor
