/-
  Numbers and their decimal forms: plain mathematics.
-/
import Derived.Lib.ItoaNum
import Derived.Lib.ParseIntB
namespace Go.Proofs.YtgfopieojpjddaaDoor
open Go Go.Lib

/-- What digits say, behind a number. -/
def pv (acc : Nat) (l : List UInt8) : Nat := l.foldl (fun a c => a * 10 + (c.toNat - 48)) acc
def isNum (c : UInt8) : Prop := 48 ≤ c.toNat ∧ c.toNat ≤ 57
theorem pv_nil (acc : Nat) : pv acc [] = acc := rfl
theorem pv_cons (acc : Nat) (c : UInt8) (l : List UInt8) : pv acc (c :: l) = pv (acc * 10 + (c.toNat - 48)) l := by unfold pv; rw [List.foldl_cons]
theorem pv_snoc (acc : Nat) (l : List UInt8) (c : UInt8) : pv acc (l ++ [c]) = pv acc l * 10 + (c.toNat - 48) := by unfold pv; rw [List.foldl_append, List.foldl_cons, List.foldl_nil]
theorem pv_ge : ∀ (l : List UInt8) (acc : Nat), acc ≤ pv acc l
  | [], acc => Nat.le_refl _
  | c :: l, acc => by rw [pv_cons]; exact Nat.le_trans (by omega) (pv_ge l _)
theorem pv_lt : ∀ (l : List UInt8) (acc : Nat), (∀ c ∈ l, isNum c) → pv acc l < (acc + 1) * 10 ^ l.length
  | [], acc, _ => by simp [pv_nil]
  | c :: l, acc, h => by
    have hc := h c (by simp)
    have := pv_lt l (acc * 10 + (c.toNat - 48)) (fun x hx => h x (by simp [hx]))
    rw [pv_cons, List.length_cons, Nat.pow_succ]
    refine Nat.lt_of_lt_of_le this ?_
    rw [Nat.mul_comm (10 ^ l.length) 10, ← Nat.mul_assoc]
    exact Nat.mul_le_mul_right _ (by have := hc.2; omega)
theorem pu_ok : ∀ (l : List UInt8) (acc : Nat), (∀ c ∈ l, isNum c) → pv acc l < 10 ^ 18 → parseUintM (2 ^ 64 - 1) acc l = .ok (pv acc l)
  | [], acc, _, _ => rfl
  | c :: l, acc, h, hb => by
    have hc := h c (by simp)
    have hge := pv_ge l (acc * 10 + (c.toNat - 48))
    rw [pv_cons] at hb ⊢
    rw [parseUintM, if_pos (show 48 ≤ c.toNat ∧ c.toNat ≤ 57 from hc), if_neg (by omega), if_neg (by omega)]
    exact pu_ok l _ (fun x hx => h x (by simp [hx])) hb
theorem dd_rec (u : Nat) : (u < 10 ∧ decDigits u = [UInt8.ofNat (48 + u)]) ∨ (¬ u < 10 ∧ decDigits u = decDigits (u / 10) ++ [UInt8.ofNat (48 + u % 10)]) := by
  by_cases h : u < 10
  · exact .inl ⟨h, by rw [decDigits, dif_pos h]⟩
  · exact .inr ⟨h, by rw [decDigits, dif_neg h]⟩
theorem ofDig {d : Nat} (h : d < 10) : (UInt8.ofNat (48 + d)).toNat = 48 + d := by rw [UInt8.toNat_ofNat']; omega
theorem dd_dig : ∀ (u : Nat), ∀ c ∈ decDigits u, isNum c := by
  intro u
  induction u using Nat.strongRecOn with
  | _ u ih =>
    intro c hc
    rcases dd_rec u with ⟨h, e⟩ | ⟨h, e⟩ <;> rw [e] at hc
    · rw [List.mem_singleton] at hc; subst hc; unfold isNum; rw [ofDig h]; omega
    · rcases List.mem_append.1 hc with hc | hc
      · exact ih (u / 10) (by omega) c hc
      · rw [List.mem_singleton] at hc; subst hc; unfold isNum; rw [ofDig (by omega)]; omega
theorem dd_pv : ∀ (u : Nat), pv 0 (decDigits u) = u := by
  intro u
  induction u using Nat.strongRecOn with
  | _ u ih =>
    rcases dd_rec u with ⟨h, e⟩ | ⟨h, e⟩ <;> rw [e]
    · rw [pv_cons, pv_nil, ofDig h]; omega
    · rw [pv_snoc, ih (u / 10) (by omega), ofDig (by omega)]; omega
theorem dd_ne (u : Nat) : decDigits u ≠ [] := by
  rcases dd_rec u with ⟨_, e⟩ | ⟨_, e⟩ <;> rw [e] <;> simp
theorem dd_len : ∀ (k u : Nat), u < 10 ^ (k + 1) → (decDigits u).length ≤ k + 1 := by
  intro k
  induction k with
  | zero => intro u h; rcases dd_rec u with ⟨_, e⟩ | ⟨h2, e⟩ <;> rw [e] <;> simp <;> omega
  | succ k ih =>
    intro u h
    rcases dd_rec u with ⟨_, e⟩ | ⟨h2, e⟩ <;> rw [e]
    · simp
    · have := ih (u / 10) (by rw [Nat.pow_succ] at h; omega)
      simp; omega
theorem dd_head (u : Nat) : ∃ c l, decDigits u = c :: l ∧ isNum c := by
  cases h : decDigits u with
  | nil => exact absurd h (dd_ne u)
  | cons c l => exact ⟨c, l, rfl, dd_dig u c (by rw [h]; simp)⟩
/-- The decimal form of a number of at most 18 digits is read as that number. -/
theorem parse_itoa {v : Int} (h : v.natAbs < 10 ^ 18) : parseIntB 64 (itoa v) = .ok v := by
  obtain ⟨c, l, e, hc⟩ := dd_head v.natAbs
  have hu : parseUintB 64 (decDigits v.natAbs) = .ok v.natAbs := by
    unfold parseUintB
    rw [if_neg (dd_ne _), pu_ok _ _ (dd_dig _) (by rw [dd_pv]; exact h), dd_pv]
  unfold itoa
  by_cases hv : v < 0
  · rw [if_pos hv]
    unfold parseIntB
    dsimp only
    rw [if_pos (.inr rfl), hu]
    dsimp only
    rw [if_neg (by simp), if_neg (by omega)]
    simp; omega
  · rw [if_neg hv, show v.toNat = v.natAbs by omega]
    unfold parseIntB
    rw [e] at hu ⊢
    have h1 : ¬ c.toNat = 45 := by have := hc.1; omega
    have h2 : ¬ (c.toNat = 43 ∨ c.toNat = 45) := by have := hc.1; omega
    dsimp only
    rw [if_neg h2, hu]
    dsimp only
    rw [if_neg (by omega), if_neg (by simp [h1]), if_neg h1]
    congr 1; omega
theorem itoa_inj {v v' : Int} (h : v.natAbs < 10 ^ 18) (h' : v'.natAbs < 10 ^ 18) (e : itoa v = itoa v') : v = v' := by
  have h1 := parse_itoa h
  rw [e, parse_itoa h'] at h1
  injection h1 with h1; exact h1.symm

/-- s is the decimal form of a number of at most 18 digits. -/
def isDec (s : ByteArray) (v : Int) : Prop := v.natAbs < 10 ^ 18 ∧ s = ⟨(itoa v).toArray⟩
/-- The number with this decimal form. -/
noncomputable def rdR (s : ByteArray) : Int × Bool := open Classical in if h : ∃ v, isDec s v then (Classical.choose h, true) else (0, false)
theorem rdR_yes {s : ByteArray} {v : Int} (h : isDec s v) : rdR s = (v, true) := by
  have hx : ∃ v, isDec s v := ⟨v, h⟩
  have hc := Classical.choose_spec hx
  have : Classical.choose hx = v := itoa_inj hc.1 h.1 (by
    have := hc.2.symm.trans h.2
    injection this with this
    exact List.toArray_inj this)
  unfold rdR
  rw [dif_pos hx, this]
theorem rdR_no {s : ByteArray} (h : ¬ ∃ v, isDec s v) : rdR s = (0, false) := by unfold rdR; rw [dif_neg h]
end Go.Proofs.YtgfopieojpjddaaDoor
