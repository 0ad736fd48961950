/-
  Words: the runes' way is the bytes' way.
-/
import Derived.Test.YtmnnciiiifjjcaaSplitM
import Derived.Lib.SpaceUEq
import Derived.Lib.FieldsP
namespace Go.Proofs.Ytmnnciiiifjjcaa
open Go Go.Lib

theorem get_byteAt {s : ByteArray} {i : Nat} (h : i < s.size) : s.get! i = byteAt s i := by
  rw [byteAt, dif_pos h]
  have h' : i < s.data.size := h
  show s.data[i]! = s.data[i]
  exact getElem!_pos s.data i h'
theorem decodeN_32 (n b0 b1 b2 b3 : Nat) : (decodeN n b0 b1 b2 b3).1 = 32 ↔ b0 = 32 := by
  rcases decodeN_cases n b0 b1 b2 b3 with h | h | h | h | h
  · rw [h.2]
  · rw [h.2.2.2.2]
    simp only
    omega
  · rw [h.2.2.2.2.2]
    simp only
    omega
  · have h2 := decodeN_conts n b0 b1 b2 b3
    constructor
    · intro h3; omega
    · intro h3
      have : decodeN n b0 b1 b2 b3 = (b0, 1) := by unfold decodeN; rw [if_pos (by omega)]
      rw [this] at h
      simp only at h
      omega
  · rw [h]
    constructor
    · intro h3; simp only at h3; omega
    · intro h3
      have : decodeN n b0 b1 b2 b3 = (b0, 1) := by unfold decodeN; rw [if_pos (by omega)]
      rw [this] at h
      injection h with h1 _
      omega
/-- A rune at a place: a blank just if the byte is one; its other bytes are none. -/
theorem decode_skips {s : ByteArray} {i : Nat} (h : i < s.size) : ((Utf8.decode s i).1 = 32 ↔ byteAt s i = 32) ∧ 1 ≤ (Utf8.decode s i).2 ∧ i + (Utf8.decode s i).2 ≤ s.size ∧ (byteAt s i = 32 → (Utf8.decode s i).2 = 1) ∧
    ∀ j, 0 < j → j < (Utf8.decode s i).2 → ¬ byteAt s (i + j) = 32 := by
  have hc := decodeN_conts (s.size - i) (s.get! i).toNat (s.get! (i + 1)).toNat (s.get! (i + 2)).toNat (s.get! (i + 3)).toNat
  have h32 := decodeN_32 (s.size - i) (s.get! i).toNat (s.get! (i + 1)).toNat (s.get! (i + 2)).toNat (s.get! (i + 3)).toNat
  have hp := width_pos s i
  have hb : (s.get! i).toNat = 32 ↔ byteAt s i = 32 := by
    rw [get_byteAt h]
    constructor
    · intro e; exact UInt8.toNat_inj.1 (by rw [e]; rfl)
    · intro e; rw [e]; rfl
  have h1 : byteAt s i = 32 → (Utf8.decode s i).2 = 1 := by
    intro e
    rw [decode_at]
    have : (s.get! i).toNat = 32 := hb.2 e
    unfold decodeN
    rw [if_pos (by omega)]
  rw [← decode_at] at hc h32
  obtain ⟨c1, c2, c3, c4⟩ := hc
  refine ⟨h32.trans hb, hp, by omega, h1, ?_⟩
  intro j j0 j1 e
  have hlt : i + j < s.size := by omega
  have he : (s.get! (i + j)).toNat = 32 := by rw [get_byteAt hlt, e]; rfl
  have : j = 1 ∨ j = 2 ∨ j = 3 := by omega
  rcases this with rfl | rfl | rfl
  · have := (c1 (by omega)).1; omega
  · have := (c2 (by omega)).1; omega
  · have := (c3 (by omega)).1; omega
/-- Over bytes that are no blanks. -/
theorem splitGo_skip {s : ByteArray} {c : UInt8} : ∀ (k n i f : Nat), (∀ j, j < k → ¬ byteAt s (i + j) = c) → splitGo s c (n + k) i f = splitGo s c n (i + k) f
  | 0, _, _, _, _ => rfl
  | k + 1, n, i, f, h => by
    rw [show n + (k + 1) = (n + k) + 1 by omega, splitGo_miss (by simpa using h 0 (by omega)), splitGo_skip k n (i + 1) f (fun j hj => by have := h (j + 1) (by omega); rwa [show i + 1 + j = i + (j + 1) by omega])]
    congr 1
    omega
theorem someB_extract {s : ByteArray} {a b : Nat} (h : a < b) (hb : b ≤ s.size) : someB (s.extract a b) = true := by
  refine decide_eq_true ?_
  intro e
  have h1 : (s.extract a b).size = 0 := by
    show (s.extract a b).data.size = 0
    rw [← Array.length_toList, e]; rfl
  simp at h1
  omega
theorem someB_empty {s : ByteArray} {a b : Nat} (h : b ≤ a) : someB (s.extract a b) = false := by
  refine decide_eq_false ?_
  intro e
  apply e
  have h1 : (s.extract a b).size = 0 := by simp; omega
  have h2 : (s.extract a b).data.toList.length = 0 := by rw [Array.length_toList]; exact h1
  exact List.eq_nil_of_length_eq_zero h2
def exOf (s : ByteArray) (x : Nat × Nat) : ByteArray := s.extract x.1 x.2
theorem spans_eq (s : ByteArray) : ∀ (f pos : Nat) (st : Option Nat) (acc : List (Nat × Nat)), pos ≤ s.size → s.size - pos ≤ f → (∀ a, st = some a → a < pos) →
    (closeSpans s (spansFromP (fun x => decide (x = 32)) s f pos st acc)).map (exOf s) = acc.map (exOf s) ++ (splitGo s 32 (s.size - pos) pos (st.getD pos)).filter someB
  | f, pos, st, acc, hp, hf, hst => by
    by_cases hlt : pos < s.size
    · obtain ⟨d1, d2, d3, d4, d5⟩ := decode_skips hlt
      cases f with
      | zero => omega
      | succ f =>
        unfold spansFromP
        rw [if_pos hlt]
        by_cases hb : byteAt s pos = 32
        · have hd : (decide ((Utf8.decode s pos).1 = 32)) = true := decide_eq_true (d1.2 hb)
          have hn : s.size - pos = (s.size - (pos + 1)) + 1 := by omega
          rw [if_pos hd, d4 hb, hn, splitGo_hit hb]
          cases st with
          | none =>
            rw [spans_eq s f (pos + 1) none acc (by omega) (by omega) (by intro a h; cases h)]
            simp only [Option.getD_none]
            rw [List.filter_cons, someB_empty (Nat.le_refl _)]
            rfl
          | some a =>
            have ha := hst a rfl
            simp only
            rw [spans_eq s f (pos + 1) none (acc ++ [(a, pos)]) (by omega) (by omega) (by intro a h; cases h)]
            simp only [Option.getD_none, Option.getD_some]
            rw [List.filter_cons, someB_extract ha hp, List.map_append, List.append_assoc]
            rfl
        · have hd : ¬ (decide ((Utf8.decode s pos).1 = 32)) = true := by
            intro h; exact hb (d1.1 (of_decide_eq_true h))
          have hsk : ∀ g, splitGo s 32 (s.size - pos) pos g = splitGo s 32 (s.size - (pos + (Utf8.decode s pos).2)) (pos + (Utf8.decode s pos).2) g := by
            intro g
            have := splitGo_skip (s := s) (c := 32) (Utf8.decode s pos).2 (s.size - (pos + (Utf8.decode s pos).2)) pos g (fun j hj => by
              rcases Nat.eq_zero_or_pos j with rfl | h0
              · exact hb
              · exact d5 j h0 hj)
            rwa [show s.size - (pos + (Utf8.decode s pos).2) + (Utf8.decode s pos).2 = s.size - pos by omega] at this
          rw [if_neg hd]
          cases st with
          | none =>
            simp only
            rw [spans_eq s f _ (some pos) acc (by omega) (by omega) (by intro a h; injection h with h; omega), hsk]
            rfl
          | some a =>
            have ha := hst a rfl
            simp only
            rw [spans_eq s f _ (some a) acc (by omega) (by omega) (by intro b h; injection h with h; omega), hsk]
            rfl
    · have he : pos = s.size := by omega
      rw [spansFromP_end _ _ _ _ _ _ hlt, he, Nat.sub_self]
      unfold closeSpans splitGo
      cases st with
      | none =>
        simp only [Option.getD_none]
        rw [List.filter_cons, someB_empty (Nat.le_refl _)]
        simp
      | some a =>
        have ha := hst a rfl
        simp only [Option.getD_some]
        rw [List.filter_cons, someB_extract (by omega) (Nat.le_refl _)]
        simp [exOf]
theorem fields_words (s : ByteArray) : goFieldsP (fun x => decide (x = 32)) s = wordsL s := by
  have h := spans_eq s s.size 0 none [] (Nat.zero_le _) (by omega) (by intro a h; cases h)
  show List.map (exOf s) (closeSpans s (spansFromP _ s s.size 0 none [])) = List.filter someB (splitGo s 32 s.size 0 0)
  rw [h]
  rfl
end Go.Proofs.Ytmnnciiiifjjcaa
