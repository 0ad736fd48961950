/-
  Programs as trees: the maths (a forest: its first instruction, what is within it, and the rest).
-/
import Derived.Test.YtgfopieojpjddaaPrgM
namespace Go.Proofs.Ytgfopieojpjddaa
open Go.RowKit

inductive Fo where
  | nil : Fo
  | cons (op arg : Int) (kids rest : Fo) : Fo

def Fo.len : Fo → Nat
  | .nil => 0
  | .cons _ _ _ r => r.len + 1

def Fo.size : Fo → Nat
  | .nil => 0
  | .cons _ _ k r => k.size + r.size + 1
/-- A list, n times. -/
def repL : Nat → List Int → List Int
  | 0, _ => []
  | n + 1, l => l ++ repL n l
theorem repL_len (l : List Int) : ∀ n, (repL n l).length = n * l.length
  | 0 => by simp [repL]
  | n + 1 => by rw [repL, List.length_append, repL_len l n, Nat.succ_mul, Nat.add_comm]
theorem repL_snoc (l : List Int) : ∀ n, repL (n + 1) l = repL n l ++ l
  | 0 => by simp [repL]
  | n + 1 => by have h := repL_snoc l n; show l ++ repL (n + 1) l = (l ++ repL n l) ++ l; rw [h, List.append_assoc]
/-- The strokes of a forest without settings and bells. -/
def flS : Fo → List Int
  | .nil => []
  | .cons op arg k r => (if op = 8 then repL arg.toNat (flS k) else repL (max arg 1).toNat [op - 1]) ++ flS r

/-- The instructions from a up to e, as a forest. -/
inductive PF (xs : List (Int × Int)) : Nat → Nat → Fo → Prop where
  | nil (a : Nat) : PF xs a a .nil
  | leaf {a e : Nat} {r : Fo} (ha : a < xs.length) (ho : opnB (elt pairF xs a).1 = false) (hx : ¬ (elt pairF xs a).1 = 10) (hr : PF xs (a + 1) e r) :
      PF xs a e (.cons (elt pairF xs a).1 (elt pairF xs a).2 .nil r)
  | loop {a t e : Nat} {k r : Fo} (ha : a < xs.length) (ho : opnB (elt pairF xs a).1 = true) (ht : mtN xs a = t) (htl : t < xs.length) (hx : (elt pairF xs t).1 = 10) (hk : PF xs (a + 1) t k) (hr : PF xs (t + 1) e r) :
      PF xs a e (.cons (elt pairF xs a).1 (elt pairF xs a).2 k r)
theorem PF.le {xs : List (Int × Int)} {a e : Nat} {f : Fo} (h : PF xs a e f) : a ≤ e := by
  induction h with
  | nil => exact Nat.le_refl _
  | leaf _ _ _ _ ih => omega
  | loop _ _ _ _ _ _ _ ih1 ih2 => omega

theorem pf_from {xs : List (Int × Int)} : ∀ (n a : Nat), a + n = xs.length → ∀ d, okF d (xs.drop a) = true →
    ∃ e f, PF xs a e f ∧ e ≤ xs.length ∧ ((d = 0 ∧ e = xs.length) ∨ (0 < d ∧ e < xs.length ∧ (elt pairF xs e).1 = 10 ∧ okF (d - 1) (xs.drop (e + 1)) = true ∧
      ∀ p, mtF (p + 1) a (xs.drop a) = if p = 0 then e else mtF p (e + 1) (xs.drop (e + 1)))) := by
  intro n
  induction n using Nat.strongRecOn with
  | ind n ih =>
    intro a hn d hd
    by_cases ha : a < xs.length
    · have hdr := hd
      rw [dropE (F := pairF) ha] at hdr
      obtain ⟨hi, hs, h4, h0⟩ := okF_step hdr
      by_cases ho : opnB (elt pairF xs a).1 = true
      · rw [stepD_open ho] at hs
        obtain ⟨e1, k, pk, _, hc⟩ := ih (n - 1) (by omega) (a + 1) (by omega) (d + 1) hs
        rcases hc with ⟨h5, _⟩ | ⟨_, he1, hx, hok, hmt⟩
        · omega
        · have hle := pk.le
          have hmt0 : mtN xs a = e1 := by
            rw [mtN, dropE (F := pairF) ha, mtF_miss (by rw [stepD_open ho]; omega), stepD_open ho]
            exact (hmt 0).trans (if_pos rfl)
          obtain ⟨e2, r, pr, he2, hc2⟩ := ih (xs.length - (e1 + 1)) (by omega) (e1 + 1) (by omega) d (by simpa using hok)
          refine ⟨e2, _, .loop ha ho hmt0 he1 hx pk pr, he2, ?_⟩
          rcases hc2 with h5 | ⟨q1, q2, q3, q4, q5⟩
          · exact .inl h5
          · refine .inr ⟨q1, q2, q3, q4, fun p => ?_⟩
            rw [dropE (F := pairF) ha, mtF_miss (by rw [stepD_open ho]; omega), stepD_open ho, hmt (p + 1), if_neg (by omega)]
            exact q5 p
      · have ho' : opnB (elt pairF xs a).1 = false := by simpa using ho
        by_cases hx : (elt pairF xs a).1 = 10
        · rw [stepD_end hx] at hs
          refine ⟨a, .nil, .nil a, by omega, .inr ⟨h0 hx, ha, hx, hs, fun p => ?_⟩⟩
          rw [dropE (F := pairF) ha]
          by_cases hp : p = 0
          · rw [if_pos hp, mtF_hit (by rw [stepD_end hx]; omega)]
          · rw [if_neg hp, mtF_miss (by rw [stepD_end hx]; omega), stepD_end hx]; rfl
        · rw [stepD_plain ho' hx] at hs
          obtain ⟨e, r, pr, he, hc⟩ := ih (n - 1) (by omega) (a + 1) (by omega) d hs
          refine ⟨e, _, .leaf ha ho' hx pr, he, ?_⟩
          rcases hc with h5 | ⟨q1, q2, q3, q4, q5⟩
          · exact .inl h5
          · refine .inr ⟨q1, q2, q3, q4, fun p => ?_⟩
            rw [dropE (F := pairF) ha, mtF_miss (by rw [stepD_plain ho' hx]; omega), stepD_plain ho' hx]
            exact q5 p
    · have e0 : a = xs.length := by omega
      have hdr : xs.drop a = [] := List.drop_eq_nil_of_le (by omega)
      rw [hdr, okF_nil] at hd
      exact ⟨a, .nil, .nil a, by omega, .inl ⟨by simpa using hd, e0⟩⟩
/-- A program is a forest. -/
theorem pf_of {xs : List (Int × Int)} (h : prgB xs = true) : ∃ f, PF xs 0 xs.length f := by
  obtain ⟨e, f, p, _, hc⟩ := pf_from (xs := xs) xs.length 0 (by omega) 0 (by simpa using prgB_ok h)
  rcases hc with ⟨_, rfl⟩ | ⟨h0, _⟩
  · exact ⟨f, p⟩
  · omega
theorem PF.det {xs : List (Int × Int)} {a e : Nat} {f g : Fo} (h : PF xs a e f) (hg : PF xs a e g) : f = g := by
  induction h generalizing g with
  | nil a =>
    cases hg with
    | nil => rfl
    | leaf _ _ _ hr => have := hr.le; omega
    | loop _ _ _ _ _ hk hr => have := hr.le; have := hk.le; omega
  | leaf ha ho hx hr ih =>
    cases hg with
    | nil => have := hr.le; omega
    | leaf _ _ _ hr2 => rw [ih hr2]
    | loop _ ho2 _ _ _ _ _ => rw [ho] at ho2; cases ho2
  | loop ha ho ht htl hx hk hr ih1 ih2 =>
    cases hg with
    | nil => have := hr.le; have := hk.le; omega
    | leaf _ ho2 _ _ => rw [ho] at ho2; cases ho2
    | loop _ _ ht2 _ _ hk2 hr2 =>
      subst ht
      subst ht2
      rw [ih1 hk2, ih2 hr2]

/-- Is no instruction a setting or a loop until the bell? -/
def flatB (xs : List (Int × Int)) : Bool := xs.all fun x => decide (¬ x.1 = 1) && decide (¬ x.1 = 9)
noncomputable def foOf (xs : List (Int × Int)) : Fo := open Classical in if h : ∃ f, PF xs 0 xs.length f then h.choose else .nil
theorem foOf_pf {xs : List (Int × Int)} (h : prgB xs = true) : PF xs 0 xs.length (foOf xs) := by
  have := pf_of h
  rw [foOf, dif_pos this]
  exact this.choose_spec
/-- What FlatStrokes tells. -/
noncomputable def flR (xs : List (Int × Int)) : List Int × Int :=
  if prgB xs = false then ([], 1) else if flatB xs = false then ([], 6) else if 3000 < (flS (foOf xs)).length then ([], 5) else (flS (foOf xs), 0)
end Go.Proofs.Ytgfopieojpjddaa
