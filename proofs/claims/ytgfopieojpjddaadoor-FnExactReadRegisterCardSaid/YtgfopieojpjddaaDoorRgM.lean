/-
  Reading a register's text: plain mathematics.
-/
import Derived.Test.YtgfopieojpjddaaDoorSplitM
import Derived.Test.YtgfopieojpjddaaDoorNum
import Derived.Test.YtgfopieojpjddaaDoorVal
import Derived.Lib.IndexMore
import Derived.Lib.Strings
namespace Go.Proofs.YtgfopieojpjddaaDoor
open Go Go.RowKit

/-- The digit of a sign; -1: no sign. -/
def sgV (c : Nat) : Int := if 48 ≤ c ∧ c ≤ 57 then (c : Int) - 48 else if 97 ≤ c ∧ c ≤ 102 then (c : Int) - 87 else -1
theorem sgV_bd (c : Nat) : -1 ≤ sgV c ∧ sgV c ≤ 15 := by unfold sgV; split <;> (try split) <;> omega
theorem sgV_dec {c : Nat} (h : 48 ≤ c ∧ c ≤ 57) : sgV c = (c : Int) - 48 := by unfold sgV; rw [if_pos h]
theorem sgV_let {c : Nat} (h : 97 ≤ c ∧ c ≤ 102) : sgV c = (c : Int) - 87 := by unfold sgV; rw [if_neg (by omega), if_pos h]
theorem sgV_no {c : Nat} (h : ¬ (48 ≤ c ∧ c ≤ 57)) (h2 : ¬ (97 ≤ c ∧ c ≤ 102)) : sgV c = -1 := by unfold sgV; rw [if_neg h, if_neg h2]
/-- The first j digits of a text, read from its end. -/
def tdL (t : ByteArray) (j : Nat) : List Int := (List.range j).map fun k => sgV (byteAt t (t.size - 1 - k)).toNat
theorem tdL_len (t : ByteArray) (j : Nat) : (tdL t j).length = j := by simp [tdL]
theorem tdL_succ (t : ByteArray) (j : Nat) : tdL t (j + 1) = tdL t j ++ [sgV (byteAt t (t.size - 1 - j)).toNat] := by simp [tdL, List.range_succ]
theorem tdL_all (t : ByteArray) (j : Nat) : ∀ d ∈ tdL t j, -1 ≤ d ∧ d ≤ 15 := by
  intro d hd
  simp only [tdL, List.mem_map] at hd
  obtain ⟨k, _, rfl⟩ := hd
  exact sgV_bd _
/-- The row of digits when the text's first k signs are read. -/
def tdP (t : ByteArray) (k : Nat) : List Int := (List.range t.size).map fun i => if t.size - 1 - i < k then sgV (byteAt t (t.size - 1 - i)).toNat else 0
theorem tdP_len (t : ByteArray) (k : Nat) : (tdP t k).length = t.size := by simp [tdP]
theorem tdP_zero (t : ByteArray) : tdP t 0 = List.replicate t.size 0 := by
  refine List.ext_getElem (by simp [tdP]) fun i h1 h2 => by simp [tdP]
theorem tdP_last (t : ByteArray) : tdP t t.size = tdL t t.size := by
  refine List.ext_getElem (by simp [tdP, tdL]) fun i h1 h2 => ?_
  rw [tdP_len] at h1
  simp only [tdP, tdL, List.getElem_map, List.getElem_range]
  rw [if_pos (by omega)]
theorem tdP_step {t : ByteArray} {k : Nat} (h : k < t.size) : (tdP t k).set (t.size - 1 - k) (sgV (byteAt t k).toNat) = tdP t (k + 1) := by
  refine List.ext_getElem (by simp [tdP]) fun i h1 h2 => ?_
  rw [tdP_len] at h2
  rw [List.getElem_set]
  simp only [tdP, List.getElem_map, List.getElem_range]
  by_cases hi : t.size - 1 - k = i
  · rw [if_pos hi, if_pos (by omega)]
    rw [show t.size - 1 - i = k by omega]
  · rw [if_neg hi]
    by_cases h3 : t.size - 1 - i < k
    · rw [if_pos h3, if_pos (by omega)]
    · rw [if_neg h3, if_neg (by omega)]
theorem okB_sign {b : Int} {t : ByteArray} {k : Nat} (h : k < t.size) (hs : sgV (byteAt t k).toNat = -1) : okB b (tdL t t.size) = false := by
  cases hb : okB b (tdL t t.size) with
  | false => rfl
  | true =>
    obtain ⟨_, _, _, _, h5, _⟩ := okB_spec hb
    have := h5 (-1) (by
      simp only [tdL, List.mem_map, List.mem_range]
      exact ⟨t.size - 1 - k, by omega, by rw [show t.size - 1 - (t.size - 1 - k) = k by omega]; exact hs⟩)
    omega

/-- What reading a register's text gives. -/
noncomputable def rgT (b : Int × Bool) (t : ByteArray) : Int × List Int × Bool := if t.size ≤ 16 ∧ b.2 = true ∧ okB b.1 (tdL t t.size) = true then (b.1, tdL t t.size, true) else (0, [], false)
noncomputable def rgL : List ByteArray → Int × List Int × Bool
  | [h, t] => rgT (rdR h) t
  | _ => (0, [], false)
noncomputable def rgR (s : ByteArray) : Int × List Int × Bool := rgL (splitL s 58)
theorem rgT_yes {b : Int × Bool} {t : ByteArray} (h1 : t.size ≤ 16) (h2 : b.2 = true) (h3 : okB b.1 (tdL t t.size) = true) : rgT b t = (b.1, tdL t t.size, true) := if_pos ⟨h1, h2, h3⟩
theorem rgT_long {b : Int × Bool} {t : ByteArray} (h : 16 < t.size) : rgT b t = (0, [], false) := if_neg fun h2 => by omega
theorem rgT_head {b : Int × Bool} {t : ByteArray} (h : b.2 = false) : rgT b t = (0, [], false) := if_neg fun h2 => by rw [h] at h2; simp at h2
theorem rgT_bad {b : Int × Bool} {t : ByteArray} (h : okB b.1 (tdL t t.size) = false) : rgT b t = (0, [], false) := if_neg fun h2 => by rw [h] at h2; simp at h2
theorem rgL_len {l : List ByteArray} (h : ¬ l.length = 2) : rgL l = (0, [], false) := by
  match l, h with
  | [], _ => rfl
  | [_], _ => rfl
  | [_, _], h => exact absurd rfl h
  | _ :: _ :: _ :: _, _ => rfl

theorem splitGo_none {s : ByteArray} {c : UInt8} : ∀ (n i f : Nat), i + n = s.size → (∀ j, i ≤ j → j < s.size → ¬ byteAt s j = c) → splitGo s c n i f = [s.extract f s.size]
  | 0, _, _, _, _ => rfl
  | n + 1, i, f, h, hn => by rw [splitGo_miss (hn i (Nat.le_refl _) (by omega))]; exact splitGo_none n (i + 1) f (by omega) fun j h1 h2 => hn j (by omega) h2
theorem splitGo_first {s : ByteArray} {c : UInt8} : ∀ (m n i f : Nat), (∀ j, i ≤ j → j < i + m → ¬ byteAt s j = c) → byteAt s (i + m) = c → splitGo s c (m + 1 + n) i f = s.extract f (i + m) :: splitGo s c n (i + m + 1) (i + m + 1)
  | 0, n, i, f, _, hc => by rw [show 0 + 1 + n = n + 1 by omega]; exact splitGo_hit hc
  | m + 1, n, i, f, hn, hc => by
    rw [show m + 1 + 1 + n = (m + 1 + n) + 1 by omega, splitGo_miss (hn i (Nat.le_refl _) (by omega)), splitGo_first m n (i + 1) f (fun j h1 h2 => hn j (by omega) (by omega)) (by rw [show i + 1 + m = i + (m + 1) by omega]; exact hc), show i + 1 + m = i + (m + 1) by omega]
theorem splitGo_pos {s : ByteArray} {c : UInt8} : ∀ (n i f : Nat), 1 ≤ (splitGo s c n i f).length
  | 0, _, _ => by simp [splitGo]
  | n + 1, i, f => by rw [splitGo]; split; simp; exact splitGo_pos n (i + 1) f
theorem splitGo_some {s : ByteArray} {c : UInt8} : ∀ (n i f : Nat), i + n = s.size → (∃ j, i ≤ j ∧ j < s.size ∧ byteAt s j = c) → 2 ≤ (splitGo s c n i f).length
  | 0, i, f, h, ⟨j, h1, h2, _⟩ => by omega
  | n + 1, i, f, h, ⟨j, h1, h2, h3⟩ => by
    by_cases hc : byteAt s i = c
    · rw [splitGo_hit hc]
      have := splitGo_pos (s := s) (c := c) n (i + 1) (i + 1)
      simp; omega
    · rw [splitGo_miss hc]
      refine splitGo_some n (i + 1) f (by omega) ⟨j, ?_, h2, h3⟩
      rcases Nat.lt_or_ge i j with h4 | h4
      · omega
      · obtain rfl : i = j := by omega
        exact absurd h3 hc

theorem occ_byte {s : ByteArray} {c : UInt8} {j : Nat} (h : j < s.size) : Lib.occAt s.data.toList [c] j = true ↔ byteAt s j = c := by
  have h2 : j < s.data.toList.length := by simpa using h
  rw [Lib.occAt_iff_take _ _ _ (by simp; omega), ← byteAt_get h, List.drop_eq_getElem_cons h2]
  simp only [List.length_cons, List.length_nil, Nat.zero_add, List.take_succ_cons, List.take_zero, beq_iff_eq, List.cons.injEq, and_true]
  exact Iff.rfl

/-- What the text's cut at the first ':' tells. -/
theorem cut_tells (s : ByteArray) :
    ((Lib.cut s.data.toList [58]).2.2 = false ∧ (⟨(Lib.cut s.data.toList [58]).1.toArray⟩ : ByteArray).size ≤ s.size ∧ rgR s = (0, [], false)) ∨
    ((Lib.cut s.data.toList [58]).2.2 = true ∧ (⟨(Lib.cut s.data.toList [58]).1.toArray⟩ : ByteArray).size ≤ s.size ∧ (⟨(Lib.cut s.data.toList [58]).2.1.toArray⟩ : ByteArray).size ≤ s.size ∧
      rgR s = rgT (rdR ⟨(Lib.cut s.data.toList [58]).1.toArray⟩) ⟨(Lib.cut s.data.toList [58]).2.1.toArray⟩) := by
  rcases Lib.index_spec s.data.toList [58] with ⟨h1, h2⟩ | ⟨i, h1, h2, h3, h4⟩
  · refine .inl ⟨by unfold Lib.cut; rw [if_neg (by omega)], by unfold Lib.cut; rw [if_neg (by omega)]; simp, ?_⟩
    have hn : ∀ j, 0 ≤ j → j < s.size → ¬ byteAt s j = 58 := fun j _ hj hc => by
      have := h2 j (by have : s.data.toList.length = s.size := by simp
                       omega)
      rw [(occ_byte hj).2 hc] at this
      cases this
    unfold rgR splitL
    rw [splitGo_none s.size 0 0 (by omega) hn]
    rfl
  · have hsz : s.data.toList.length = s.size := by simp
    have hi : i < s.size := by
      rcases Lib.occAt_room h3 with h | h
      · simp at h; omega
      · cases h
    have hc : byteAt s i = 58 := (occ_byte hi).1 h3
    have hn : ∀ j, 0 ≤ j → j < 0 + i → ¬ byteAt s j = 58 := fun j _ hj hc => by
      have := h4 j (by omega)
      rw [(occ_byte (by omega)).2 hc] at this
      cases this
    have e1 : (Lib.cut s.data.toList [58]) = (s.data.toList.take i, s.data.toList.drop (i + 1), true) := by
      unfold Lib.cut; rw [if_pos (by omega), h1]; simp
    have e2 : (⟨(s.data.toList.take i).toArray⟩ : ByteArray) = s.extract 0 i := by
      apply WideShapes.bytes_inj
      rw [Lib.extract_data]; simp
    have e3 : (⟨(s.data.toList.drop (i + 1)).toArray⟩ : ByteArray) = s.extract (i + 1) s.size := by
      apply WideShapes.bytes_inj
      rw [Lib.extract_to_end]
    have e4 : splitL s 58 = s.extract 0 i :: splitGo s 58 (s.size - (i + 1)) (i + 1) (i + 1) := by
      have := splitGo_first (s := s) (c := 58) i (s.size - (i + 1)) 0 0 hn (by rw [Nat.zero_add]; exact hc)
      rw [show i + 1 + (s.size - (i + 1)) = s.size by omega, Nat.zero_add] at this
      exact this
    rw [e1]
    refine .inr ⟨rfl, ?_, ?_, ?_⟩
    · rw [e2]; (simp) <;> omega
    · rw [e3]; (simp) <;> omega
    · simp only [e2, e3]
      unfold rgR
      rw [e4]
      by_cases hx : ∃ j, i + 1 ≤ j ∧ j < s.size ∧ byteAt s j = 58
      · have hl := splitGo_some (s := s) (c := 58) (s.size - (i + 1)) (i + 1) (i + 1) (by omega) hx
        rw [rgL_len (by simp; omega)]
        obtain ⟨j, j1, j2, j3⟩ := hx
        refine (rgT_bad (okB_sign (k := j - (i + 1)) (by simp; omega) ?_)).symm
        have hk : j - (i + 1) < (s.extract (i + 1) s.size).size := by simp; omega
        have : byteAt (s.extract (i + 1) s.size) (j - (i + 1)) = 58 := by
          rw [← byteAt_get hk, ← j3, ← byteAt_get j2]
          simp only [ByteArray.getElem_extract]
          congr 1
          omega
        rw [this]; decide
      · rw [splitGo_none (s.size - (i + 1)) (i + 1) (i + 1) (by omega) fun j h1 h2 h3 => hx ⟨j, h1, h2, h3⟩]
        rfl
end Go.Proofs.YtgfopieojpjddaaDoor
