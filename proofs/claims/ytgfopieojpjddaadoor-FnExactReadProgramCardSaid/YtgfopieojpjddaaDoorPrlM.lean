/-
  Lines of programs: the maths.
-/
import Derived.Test.YtgfopieojpjddaaDoorProg
import Derived.Test.YtgfopieojpjddaaDoorPrgM
import Derived.Test.YtgfopieojpjddaaDoorRgM
import Derived.Lib.SplitLaws
namespace Go.Proofs.YtgfopieojpjddaaDoor
open Go.RowKit

theorem pl_byteAt_drop (s : ByteArray) (a i : Nat) (h : i < s.size - a) : byteAt (s.extract a s.size) i = byteAt s (a + i) := by
  have h1 : i < (s.extract a s.size).size := by simp; omega
  have h2 : a + i < s.size := by omega
  rw [← byteAt_get h1, ← byteAt_get h2]
  simp only [ByteArray.getElem_extract]
theorem pl_splitGo_drop {s : ByteArray} {c : UInt8} {a : Nat} (ha : a ≤ s.size) : ∀ (n i f : Nat), i + n = s.size - a → splitGo (s.extract a s.size) c n i f = splitGo s c n (a + i) (a + f)
  | 0, i, f, h => by
    simp only [splitGo]
    congr 1
    apply WideShapes.bytes_inj
    rw [Lib.extract_to_end, Lib.extract_to_end, Lib.extract_to_end, List.drop_drop]
  | n + 1, i, f, h => by
    have hb := pl_byteAt_drop s a i (by omega)
    by_cases hc : byteAt s (a + i) = c
    · rw [splitGo_hit (hb.trans hc), splitGo_hit hc, pl_splitGo_drop ha n (i + 1) (i + 1) (by omega)]
      congr 1
      apply WideShapes.bytes_inj
      rw [Lib.extract_data, Lib.extract_to_end, Lib.extract_data, List.drop_drop, show a + i - (a + f) = i - f by omega]
    · rw [splitGo_miss (fun e => hc (hb.symm.trans e)), splitGo_miss hc, pl_splitGo_drop ha n (i + 1) f (by omega)]
      rfl
theorem pl_splitL_none {s : ByteArray} {c : UInt8} (h : Lib.indexB s ⟨#[c]⟩ = -1) : splitL s c = [s] := by
  have hx : Lib.index s.data.toList [c] = -1 := h
  rcases Lib.index_spec s.data.toList [c] with ⟨h1, h2⟩ | ⟨i, h1, h2, h3, h4⟩
  · have hn : ∀ j, 0 ≤ j → j < s.size → ¬ byteAt s j = c := fun j _ hj hc => by
      have := h2 j (by have : s.data.toList.length = s.size := by simp
                       omega)
      rw [(occ_byte hj).2 hc] at this
      cases this
    unfold splitL
    rw [splitGo_none s.size 0 0 (by omega) hn]
    congr 1
    apply WideShapes.bytes_inj
    rw [Lib.extract_to_end]; rfl
  · omega
theorem pl_splitL_hit {s : ByteArray} {c : UInt8} {i : Nat} (h : Lib.indexB s ⟨#[c]⟩ = i) : i < s.size ∧ byteAt s i = c ∧ splitL s c = s.extract 0 i :: splitL (s.extract (i + 1) s.size) c := by
  have hx : Lib.index s.data.toList [c] = i := h
  rcases Lib.index_spec s.data.toList [c] with ⟨h1, h2⟩ | ⟨i', h1, h2, h3, h4⟩
  · omega
  · obtain rfl : i' = i := by omega
    have hsz : s.data.toList.length = s.size := by simp
    have hi : i' < s.size := by
      rcases Lib.occAt_room h3 with h | h
      · simp at h; omega
      · cases h
    have hc : byteAt s i' = c := (occ_byte hi).1 h3
    have hn : ∀ j, 0 ≤ j → j < 0 + i' → ¬ byteAt s j = c := fun j _ hj hc => by
      have := h4 j (by omega)
      rw [(occ_byte (by omega)).2 hc] at this
      cases this
    refine ⟨hi, hc, ?_⟩
    have := splitGo_first (s := s) (c := c) i' (s.size - (i' + 1)) 0 0 hn (by rw [Nat.zero_add]; exact hc)
    rw [show i' + 1 + (s.size - (i' + 1)) = s.size by omega, Nat.zero_add] at this
    unfold splitL
    rw [this, pl_splitGo_drop (by omega) _ 0 0 (by simp)]
    simp
theorem pl_splitL_free {a : ByteArray} {c : UInt8} (ha : ∀ x ∈ a.data.toList, ¬ x = c) : splitL a c = [a] := by
  rcases Lib.indexB_cases a ⟨#[c]⟩ with h | ⟨i, h, _⟩
  · exact pl_splitL_none h
  · obtain ⟨hi, hc, _⟩ := pl_splitL_hit h
    refine absurd hc (ha _ ?_)
    rw [← byteAt_get hi]
    exact List.getElem_mem (l := a.data.toList) (by simpa using hi)
theorem pl_splitL_app {a r : ByteArray} {c : UInt8} (ha : ∀ x ∈ a.data.toList, ¬ x = c) : splitL ((a ++ ⟨#[c]⟩) ++ r) c = a :: splitL r c := by
  have es : ((a ++ ⟨#[c]⟩) ++ r : ByteArray).data.toList = a.data.toList ++ c :: r.data.toList := by simp
  have hs : ((a ++ ⟨#[c]⟩) ++ r : ByteArray).size = a.size + 1 + r.size := by simp [ByteArray.size_append]; rfl
  have hl : a.data.toList.length = a.size := by simp
  have hi : Lib.indexB ((a ++ ⟨#[c]⟩) ++ r) ⟨#[c]⟩ = (a.size : Nat) := by
    show Lib.index ((a ++ ⟨#[c]⟩) ++ r : ByteArray).data.toList [c] = _
    rw [es, ← hl]
    refine Lib.index_first (by simp) (by simp [Lib.occAt]) fun j hj => ?_
    unfold Lib.occAt
    rw [List.drop_append_of_le_length (by omega), List.drop_eq_getElem_cons hj]
    have := ha _ (List.getElem_mem hj)
    rw [List.cons_append, List.isPrefixOf, beq_eq_false_iff_ne.2 (fun e => this e.symm), Bool.false_and]
  obtain ⟨_, _, e⟩ := pl_splitL_hit hi
  rw [e]
  have e1 : ((a ++ ⟨#[c]⟩) ++ r : ByteArray).extract 0 a.size = a := by
    apply WideShapes.bytes_inj
    rw [Lib.extract_data, es, ← hl]; simp
  have e2 : ((a ++ ⟨#[c]⟩) ++ r : ByteArray).extract (a.size + 1) ((a ++ ⟨#[c]⟩) ++ r : ByteArray).size = r := by
    apply WideShapes.bytes_inj
    rw [Lib.extract_to_end, es, ← hl]
    generalize a.data.toList = l
    simp
  rw [e1, e2]
theorem pl_itoa_sp (v : Int) : ∀ x ∈ Lib.itoa v, ¬ x = 32 := by
  intro x hx
  have hd := fun c hc => dd_dig v.natAbs c hc
  have h0 : ¬ isNum 32 := by unfold isNum; decide
  unfold Lib.itoa at hx
  split at hx
  · rcases List.mem_cons.1 hx with h | h
    · rw [h]; decide
    · rintro rfl; exact h0 (hd 32 h)
  · rename_i hv
    have e : v.toNat = v.natAbs := by omega
    rw [e] at hx
    rintro rfl; exact h0 (hd 32 hx)
theorem pl_rdR_sp {s : ByteArray} {j : Nat} (hj : j < s.size) (h : byteAt s j = 32) : rdR s = (0, false) := by
  refine rdR_no ?_
  rintro ⟨v, hv⟩
  have hm : (32 : UInt8) ∈ s.data.toList := by
    rw [← h, ← byteAt_get hj]
    exact List.getElem_mem (l := s.data.toList) (by simpa using hj)
  rw [hv.2] at hm
  exact pl_itoa_sp v 32 (by simpa using hm) rfl

/-- The words of the operations. -/
def wdO (k : Nat) : ByteArray :=
  match k with
  | 1 => ⟨#[115, 101, 116]⟩
  | 2 => ⟨#[97, 100, 100]⟩
  | 3 => ⟨#[115, 117, 98]⟩
  | 4 => ⟨#[114, 105, 103, 104, 116]⟩
  | 5 => ⟨#[108, 101, 102, 116]⟩
  | 6 => ⟨#[99, 108, 101, 97, 114]⟩
  | 7 => ⟨#[122, 101, 114, 111]⟩
  | 8 => ⟨#[116, 105, 109, 101, 115]⟩
  | 9 => ⟨#[98, 101, 108, 108]⟩
  | 10 => ⟨#[101, 110, 100]⟩
  | _ => ByteArray.empty
theorem wdO_inj : ∀ i j : Fin 11, wdO i.1 = wdO j.1 → i = j := by
  intro i j h
  have h2 : (wdO i.1).data.toList = (wdO j.1).data.toList := by rw [h]
  revert h2
  revert i j
  decide +kernel
theorem wdO_sp : ∀ i : Fin 11, ∀ x ∈ (wdO i.1).data.toList, ¬ x = 32 := by decide +kernel
theorem wdO_len : ∀ i : Fin 11, (wdO i.1).size ≤ 5 := by decide +kernel
theorem itoa_len {n : Int} (h1 : 0 ≤ n) (h2 : n ≤ 1000000000000) : (Lib.itoa n).length ≤ 13 := by
  unfold Lib.itoa
  rw [if_neg (by omega)]
  exact dd_len 12 _ (by omega)
/-- The operation of a word, among the first n; 0 if it is none of them. -/
noncomputable def opT (s : ByteArray) : Nat → Nat
  | 0 => 0
  | n + 1 => open Classical in if wdO (n + 1) = s then n + 1 else opT s n
theorem opT_hit {s : ByteArray} {n : Nat} (h : wdO (n + 1) = s) : opT s (n + 1) = n + 1 := by rw [opT, if_pos h]
theorem opT_miss {s : ByteArray} {n : Nat} (h : ¬ wdO (n + 1) = s) : opT s (n + 1) = opT s n := by rw [opT, if_neg h]
theorem opT_le (s : ByteArray) : ∀ n, opT s n ≤ n
  | 0 => Nat.le_refl _
  | n + 1 => by
    rw [opT]
    split
    · omega
    · have := opT_le s n; omega
theorem opT_pos {s : ByteArray} : ∀ {n : Nat}, ¬ opT s n = 0 → wdO (opT s n) = s
  | 0, h => absurd rfl h
  | n + 1, h => by
    by_cases h1 : wdO (n + 1) = s
    · rw [opT_hit h1]; exact h1
    · rw [opT_miss h1] at h ⊢; exact opT_pos h
theorem opT_found {s : ByteArray} {k : Nat} (h1 : 1 ≤ k) (hk : k ≤ 10) (h : wdO k = s) : opT s 10 = k := by
  have key : ∀ n, k ≤ n → n ≤ 10 → opT s n = k := by
    intro n
    induction n with
    | zero => intro h2 _; omega
    | succ n ih =>
      intro h2 h3
      by_cases h4 : wdO (n + 1) = s
      · have := wdO_inj ⟨n + 1, by omega⟩ ⟨k, by omega⟩ (h4.trans h.symm)
        injection this with this
        rw [opT_hit h4, this]
      · rw [opT_miss h4]
        refine ih ?_ (by omega)
        rcases Nat.lt_or_ge k (n + 1) with h5 | h5
        · omega
        · obtain rfl : k = n + 1 := by omega
          exact absurd h h4
  exact key 10 hk (Nat.le_refl _)
theorem opT_none {s : ByteArray} (h : ∀ k, 1 ≤ k → k ≤ 10 → ¬ wdO k = s) : opT s 10 = 0 := by
  cases h1 : opT s 10 with
  | zero => rfl
  | succ n =>
    have h2 := opT_pos (s := s) (n := 10) (by omega)
    have h3 := opT_le s 10
    exact absurd h2 (h _ (by omega) (by omega))

/-- The number of an operation in a line without one. -/
def impN (op : Int) : Int := if inB op 2 5 = true then 1 else 0
/-- The line of an instruction. -/
def txP (x : Int × Int) : ByteArray := if x.2 = impN x.1 ∧ ¬ x.1 = 1 then wdO x.1.toNat else (wdO x.1.toNat ++ ⟨#[32]⟩) ++ ⟨(Lib.itoa x.2).toArray⟩
theorem txP_bare {x : Int × Int} (h1 : x.2 = impN x.1) (h2 : ¬ x.1 = 1) : txP x = wdO x.1.toNat := by rw [txP, if_pos ⟨h1, h2⟩]
theorem txP_full {x : Int × Int} (h : ¬ (x.2 = impN x.1 ∧ ¬ x.1 = 1)) : txP x = (wdO x.1.toNat ++ ⟨#[32]⟩) ++ ⟨(Lib.itoa x.2).toArray⟩ := by rw [txP, if_neg h]
/-- The model asks for another condition. -/
theorem txP_ask {x : Int × Int} (h : insB x = true) : (x.2 = impN x.1 ∧ ¬ x.1 = 1) ↔ ¬ (x.1 = 1 ∨ x.1 = 8 ∨ 1 < x.2) := by
  have h2 := insB_arg h
  obtain ⟨o1, o2⟩ := insB_op h
  by_cases c1 : x.1 = 1
  · constructor
    · rintro ⟨_, q⟩; exact absurd c1 q
    · intro q; exact absurd (.inl c1) q
  · by_cases c2 : x.1 = 8
    · have e : impN x.1 = 0 := by rw [impN, c2]; rfl
      rw [argB_num (by omega)] at h2
      have := inB_true h2
      rw [e]
      constructor
      · rintro ⟨q, _⟩; omega
      · intro q; exact absurd (.inr (.inl c2)) q
    · by_cases c3 : x.1 = 2 ∨ x.1 = 3 ∨ x.1 = 4 ∨ x.1 = 5
      · have e : impN x.1 = 1 := by rw [impN, if_pos (inB_yes (by omega) (by omega))]
        rw [argB_num (by omega)] at h2
        have := inB_true h2
        rw [e]
        omega
      · have e : impN x.1 = 0 := by rw [impN, if_neg (by rw [inB_no (by omega)]; simp)]
        rw [argB_else c1 (by omega)] at h2
        have : x.2 = 0 := by simpa using h2
        rw [e]
        omega

/-- What a word with a number tells: the instruction, and the fault. -/
def lnW (op n : Int) (ok : Bool) : (Int × Int) × Int := if ok = true ∧ argB op n = true then ((op, n), 0) else ((0, 0), 2)
theorem lnW_ok {op n : Int} {ok : Bool} (h1 : ok = true) (h2 : argB op n = true) : lnW op n ok = ((op, n), 0) := by rw [lnW, if_pos ⟨h1, h2⟩]
theorem lnW_no {op n : Int} {ok : Bool} (h : ok = false ∨ argB op n = false) : lnW op n ok = ((0, 0), 2) := by
  rw [lnW, if_neg]
  rintro ⟨h1, h2⟩
  rcases h with h | h
  · rw [h] at h1; cases h1
  · rw [h] at h2; cases h2
noncomputable def numK (op : Int) (r : Int × Bool) : Bool := r.2 && (decide (¬ r.1 = 1) || decide (op = 1) || decide (op = 8)) && (decide (¬ r.1 = 0) || decide (op = 1))
noncomputable def lnL : List ByteArray → (Int × Int) × Int
  | [] => ((0, 0), 1)
  | [h] => if opT h 10 = 0 then ((0, 0), 1) else lnW (opT h 10 : Nat) (impN (opT h 10 : Nat)) (decide (¬ ((opT h 10 : Nat) : Int) = 1))
  | [h, t] => if opT h 10 = 0 then ((0, 0), 1) else lnW (opT h 10 : Nat) (rdR t).1 (numK (opT h 10 : Nat) (rdR t))
  | h :: _ => if opT h 10 = 0 then ((0, 0), 1) else ((0, 0), 2)
/-- What a line tells. -/
noncomputable def lnR (s : ByteArray) : (Int × Int) × Int := lnL (splitL s 32)
theorem lnL_word {h : ByteArray} {r : List ByteArray} (e : opT h 10 = 0) : lnL (h :: r) = ((0, 0), 1) := by
  match r with
  | [] => rw [lnL, if_pos e]
  | [_] => rw [lnL, if_pos e]
  | _ :: _ :: _ => rw [lnL, if_pos e]; all_goals (intros; first | contradiction | simp_all)
theorem lnL_one {h : ByteArray} (e : ¬ opT h 10 = 0) : lnL [h] = lnW (opT h 10 : Nat) (impN (opT h 10 : Nat)) (decide (¬ ((opT h 10 : Nat) : Int) = 1)) := by rw [lnL, if_neg e]
theorem lnL_two {h t : ByteArray} (e : ¬ opT h 10 = 0) : lnL [h, t] = lnW (opT h 10 : Nat) (rdR t).1 (numK (opT h 10 : Nat) (rdR t)) := by rw [lnL, if_neg e]
theorem lnL_more {h : ByteArray} {r : List ByteArray} (e : ¬ opT h 10 = 0) (hr : 2 ≤ r.length) : lnL (h :: r) = ((0, 0), 2) := by
  match r, hr with
  | _ :: _ :: _, _ => rw [lnL, if_neg e]; all_goals (intros; first | contradiction | simp_all)

theorem arg_ins {k : Nat} {n : Int} (h1 : 1 ≤ k) (h2 : k ≤ 10) : insB ((k : Int), n) = argB (k : Int) n := by
  rw [insB]
  simp only [inB_yes (show (1 : Int) ≤ (k : Int) by omega) (show (k : Int) ≤ 10 by omega), Bool.true_and]

/-- The program's way: the line of the instruction that it may be must be the line itself. -/
theorem ln_bare {s : ByteArray} (hs : splitL s 32 = [s]) (e : ¬ opT s 10 = 0) :
    lnR s = if insB (((opT s 10 : Nat) : Int), impN ((opT s 10 : Nat) : Int)) = true ∧ txP (((opT s 10 : Nat) : Int), impN ((opT s 10 : Nat) : Int)) = s then ((((opT s 10 : Nat) : Int), impN ((opT s 10 : Nat) : Int)), 0) else ((0, 0), 2) := by
  have hw := opT_pos e
  have hle := opT_le s 10
  rw [lnR, hs, lnL_one e, arg_ins (by omega) hle]
  generalize opT s 10 = k at *
  by_cases c1 : (k : Int) = 1
  · rw [lnW_no (.inl (by simp [c1])), if_neg]
    rintro ⟨_, h2⟩
    rw [txP_full (fun h => h.2 c1)] at h2
    have := congrArg (fun b : ByteArray => b.size) h2
    rw [← hw] at this
    simp only [Int.toNat_natCast, ByteArray.size_append] at this
    have e1 : (⟨#[32]⟩ : ByteArray).size = 1 := rfl
    omega
  · have ht : txP ((k : Int), impN (k : Int)) = s := by rw [txP_bare rfl c1]; exact hw
    cases ha : argB (k : Int) (impN (k : Int)) with
    | true => rw [lnW_ok (by simp [c1]) ha, if_pos ⟨rfl, ht⟩]
    | false => rw [lnW_no (.inr ha), if_neg (fun h => by cases h.1)]

theorem app_left {a b c : ByteArray} (h : a ++ b = a ++ c) : b = c := by
  have h2 := congrArg (fun x : ByteArray => x.data.toList) h
  simp only [ByteArray.data_append, Array.toList_append, List.append_cancel_left_eq] at h2
  apply WideShapes.bytes_inj
  exact h2

theorem ln_full {s H T : ByteArray} (hH : ∀ x ∈ H.data.toList, ¬ x = 32) (he : s = (H ++ ⟨#[32]⟩) ++ T) (e : ¬ opT H 10 = 0) :
    lnR s = if insB (((opT H 10 : Nat) : Int), (rdR T).1) = true ∧ txP (((opT H 10 : Nat) : Int), (rdR T).1) = s then ((((opT H 10 : Nat) : Int), (rdR T).1), 0) else ((0, 0), 2) := by
  have hw := opT_pos e
  have hle := opT_le H 10
  have hs : splitL s 32 = H :: splitL T 32 := by rw [he]; exact pl_splitL_app hH
  -- the line of the instruction is the line just if it tells its number, and the number is spelt so
  have hbare : ¬ wdO (opT H 10) = s := by
    intro h
    rw [hw, he] at h
    have := congrArg (fun b : ByteArray => b.size) h
    have e1 : (⟨#[32]⟩ : ByteArray).size = 1 := rfl
    simp only [ByteArray.size_append] at this
    omega
  have hdec : ∀ n : Int, (wdO (opT H 10) ++ ⟨#[32]⟩) ++ ⟨(Lib.itoa n).toArray⟩ = s ↔ (⟨(Lib.itoa n).toArray⟩ : ByteArray) = T := by
    intro n
    constructor
    · intro h; rw [he, hw] at h; exact app_left h
    · intro h; rw [he, hw, h]
  have hrd : (⟨(Lib.itoa (rdR T).1).toArray⟩ : ByteArray) = T ↔ (rdR T).2 = true := by
    by_cases hx : ∃ v, isDec T v
    · obtain ⟨v, hv⟩ := hx
      rw [rdR_yes hv]
      exact ⟨fun _ => rfl, fun _ => hv.2.symm⟩
    · rw [rdR_no hx]
      constructor
      · intro h; exact absurd ⟨0, by decide, h.symm⟩ hx
      · intro h; cases h
  rw [arg_ins (by omega) hle]
  have hask : (txP (((opT H 10 : Nat) : Int), (rdR T).1) = s) ↔ (¬ ((rdR T).1 = impN ((opT H 10 : Nat) : Int) ∧ ¬ ((opT H 10 : Nat) : Int) = 1) ∧ (rdR T).2 = true) := by
    by_cases hc : (rdR T).1 = impN ((opT H 10 : Nat) : Int) ∧ ¬ ((opT H 10 : Nat) : Int) = 1
    · rw [txP_bare hc.1 hc.2]
      constructor
      · intro h; exact absurd h hbare
      · intro h; exact absurd hc h.1
    · rw [txP_full hc]
      simp only [Int.toNat_natCast]
      rw [hdec, hrd]
      exact ⟨fun h => ⟨hc, h⟩, fun h => h.2⟩
  simp only [hask]
  by_cases hb : ∃ j, j < T.size ∧ byteAt T j = 32
  · obtain ⟨j, j1, j2⟩ := hb
    have h0 : rdR T = (0, false) := pl_rdR_sp j1 j2
    have hl : 2 ≤ (splitL T 32).length := by
      unfold splitL
      exact splitGo_some T.size 0 0 (by omega) ⟨j, by omega, j1, j2⟩
    rw [lnR, hs, lnL_more e hl, if_neg]
    rintro ⟨_, _, h3⟩
    rw [h0] at h3
    cases h3
  · have ht : splitL T 32 = [T] := by
      apply pl_splitL_free
      intro x hx h
      obtain ⟨j, hj, rfl⟩ := List.mem_iff_getElem.1 hx
      have hj' : j < T.size := by simpa using hj
      refine hb ⟨j, hj', ?_⟩
      rw [← byteAt_get hj']
      exact h
    rw [lnR, hs, ht, lnL_two e]
    generalize rdR T = R at *
    obtain ⟨n, ok⟩ := R
    generalize opT H 10 = k at *
    simp only at *
    cases ha : argB (k : Int) n with
    | false => rw [lnW_no (.inr ha), if_neg (fun h => by cases h.1)]
    | true =>
      cases ok with
      | false => rw [lnW_no (.inl (by simp [numK])), if_neg (fun h => by cases h.2.2)]
      | true =>
        have key : numK (k : Int) (n, true) = true ↔ ¬ (n = impN (k : Int) ∧ ¬ (k : Int) = 1) := by
          have hn : numK (k : Int) (n, true) = true ↔ ((¬ n = 1 ∨ (k : Int) = 1 ∨ (k : Int) = 8) ∧ (¬ n = 0 ∨ (k : Int) = 1)) := by
            simp only [numK, Bool.true_and, Bool.and_eq_true, Bool.or_eq_true, decide_eq_true_eq, or_assoc]
          rw [hn]
          by_cases c1 : (k : Int) = 1
          · omega
          · by_cases c2 : (k : Int) = 8
            · have e1 : impN (k : Int) = 0 := by rw [impN, c2]; rfl
              rw [e1]; omega
            · by_cases c3 : (k : Int) = 2 ∨ (k : Int) = 3 ∨ (k : Int) = 4 ∨ (k : Int) = 5
              · have e1 : impN (k : Int) = 1 := by rw [impN, if_pos (inB_yes (by omega) (by omega))]
                rw [argB_num (by omega)] at ha
                have := inB_true ha
                rw [e1]; omega
              · have e1 : impN (k : Int) = 0 := by rw [impN, if_neg (by rw [inB_no (by omega)]; simp)]
                rw [argB_else c1 (by omega)] at ha
                have : n = 0 := by simpa using ha
                rw [e1]; omega
        by_cases hq : n = impN (k : Int) ∧ ¬ (k : Int) = 1
        · have : numK (k : Int) (n, true) = false := by
            cases h5 : numK (k : Int) (n, true) with
            | false => rfl
            | true => exact absurd hq (key.1 h5)
          rw [lnW_no (.inl this), if_neg (fun h => h.2.1 hq)]
        · rw [lnW_ok (key.2 hq) ha, if_pos ⟨rfl, hq, rfl⟩]

/-- The instructions of lines, the first wrong line, its fault; d loops are open. -/
noncomputable def rdF : Nat → Nat → List ByteArray → List (Int × Int) → List (Int × Int) × Int × Int
  | d, i, [], acc => if d = 0 then (acc, -1, 0) else ([], (i : Int), 3)
  | d, i, s :: r, acc => if ¬ (lnR s).2 = 0 then ([], (i : Int), (lnR s).2) else
      if opnB (lnR s).1.1 = true then (if d < 4 then rdF (d + 1) (i + 1) r (acc ++ [(lnR s).1]) else ([], (i : Int), 5))
      else if (lnR s).1.1 = 10 then (if 0 < d then rdF (d - 1) (i + 1) r (acc ++ [(lnR s).1]) else ([], (i : Int), 4))
      else rdF d (i + 1) r (acc ++ [(lnR s).1])
section
variable {d i : Nat} {s : ByteArray} {r : List ByteArray} {acc : List (Int × Int)} {x : Int × Int}
theorem rdF_done : rdF 0 i [] acc = (acc, -1, 0) := by rw [rdF, if_pos rfl]
theorem rdF_left (h : ¬ d = 0) : rdF d i [] acc = ([], (i : Int), 3) := by rw [rdF, if_neg h]
theorem rdF_bad {f : Int} (h : lnR s = (x, f)) (hf : ¬ f = 0) : rdF d i (s :: r) acc = ([], (i : Int), f) := by rw [rdF, h, if_pos hf]
theorem rdF_open (h : lnR s = (x, 0)) (ho : opnB x.1 = true) (hd : d < 4) : rdF d i (s :: r) acc = rdF (d + 1) (i + 1) r (acc ++ [x]) := by rw [rdF, h, if_neg (by simp), if_pos ho, if_pos hd]
theorem rdF_deep (h : lnR s = (x, 0)) (ho : opnB x.1 = true) (hd : ¬ d < 4) : rdF d i (s :: r) acc = ([], (i : Int), 5) := by rw [rdF, h, if_neg (by simp), if_pos ho, if_neg hd]
theorem rdF_end (h : lnR s = (x, 0)) (he : x.1 = 10) (hd : 0 < d) : rdF d i (s :: r) acc = rdF (d - 1) (i + 1) r (acc ++ [x]) := by rw [rdF, h, if_neg (by simp), if_neg (by rw [he]; decide), if_pos he, if_pos hd]
theorem rdF_loose (h : lnR s = (x, 0)) (he : x.1 = 10) : rdF 0 i (s :: r) acc = ([], (i : Int), 4) := by rw [rdF, h, if_neg (by simp), if_neg (by rw [he]; decide), if_pos he, if_neg (by omega)]
theorem rdF_plain (h : lnR s = (x, 0)) (ho : opnB x.1 = false) (he : ¬ x.1 = 10) : rdF d i (s :: r) acc = rdF d (i + 1) r (acc ++ [x]) := by rw [rdF, h, if_neg (by simp), if_neg (by rw [ho]; simp), if_neg he]
theorem rdF_drop {xs : List ByteArray} {j : Nat} (hj : j < xs.length) : rdF d i (xs.drop j) acc = rdF d i (elt textF xs j :: xs.drop (j + 1)) acc := by rw [dropE (F := textF) hj]
end
/-- What CheckProgram and ReadProgram tell. -/
noncomputable def chR (l : List ByteArray) : Int × Int × Int := if 120 < l.length then (0, 0, 5) else ((rdF 0 0 l []).2.1, (rdF 0 0 l []).2.2, 0)
noncomputable def rpR (l : List ByteArray) : List (Int × Int) × Int := if 120 < l.length then ([], 5) else if ¬ (rdF 0 0 l []).2.2 = 0 then ([], 7) else ((rdF 0 0 l []).1, 0)
/-- What ProgramLines tells. -/
noncomputable def plR (xs : List (Int × Int)) : List ByteArray × Int := if prgB xs = true then (xs.map txP, 0) else ([], 1)
theorem plR_bad {xs : List (Int × Int)} (h : prgB xs = false) : plR xs = ([], 1) := by rw [plR, if_neg (by rw [h]; simp)]
theorem plR_ok {xs : List (Int × Int)} (h : prgB xs = true) : plR xs = (xs.map txP, 0) := by rw [plR, if_pos h]
theorem newsP (w : World) (x : Int × Int) (e : TypeId) : ∀ i u, (flat pairF [x])[i]? = some u → (w.alloc (.cells #[.int .i64 x.1, .int .i64 x.2] e)).cell? ((⟨w.heap.size, 0, none⟩ : Addr).add i) = some u := by
  intro i u hu
  have bx := Bx.new w #[.int .i64 x.1, .int .i64 x.2] e
  match i, hu with
  | 0, hu => simp [flat, pairF] at hu; subst hu; exact bx.at_ 0 rfl
  | 1, hu => simp [flat, pairF] at hu; subst hu; exact bx.at_ 1 rfl

/-- What reading lines leaves. -/
def ReadPost (l : List ByteArray) (w : World) (e : Ending) (w' : World) : Prop := ∃ A C, e = .returned (.tuple #[.slice A (rdF 0 0 l []).1.length C, .int .i64 (rdF 0 0 l []).2.1, .int .i64 (rdF 0 0 l []).2.2]) ∧
  OwnF pairF 83 w' w.heap.size w'.heap.size (.slice A (rdF 0 0 l []).1.length C) (rdF 0 0 l []).1 ∧ Below w.heap.size w w'
theorem readPost_bad {l : List ByteArray} {w w' : World} {x y : Int} (h : rdF 0 0 l [] = ([], x, y)) (hb : Below w.heap.size w w') : ReadPost l w (.returned (.tuple #[.slice none 0 0, .int .i64 x, .int .i64 y])) w' := by
  unfold ReadPost
  rw [h]
  exact ⟨none, 0, rfl, ownF_nil _ _ _ _ _, hb⟩

end Go.Proofs.YtgfopieojpjddaaDoor
