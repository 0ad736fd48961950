/-
  Programs: the maths (forms, loops, depths, matches).
-/
import Derived.Test.YtgfopieojpjddaaGear
namespace Go.Proofs.Ytgfopieojpjddaa
open Go.RowKit

/-- Does this operation begin a loop? -/
def opnB (op : Int) : Bool := decide (op = 8) || decide (op = 9)
theorem opnB_t {op : Int} (h : opnB op = true) : op = 8 ∨ op = 9 := by simpa [opnB] using h
theorem opnB_f {op : Int} (h : opnB op = false) : ¬ op = 8 ∧ ¬ op = 9 := by simpa [opnB] using h
/-- Is n a number for the operation? -/
def argB (op n : Int) : Bool := if op = 1 then inB n 0 1000000000000 else if op = 2 ∨ op = 3 ∨ op = 4 ∨ op = 5 ∨ op = 8 then inB n 1 100 else decide (n = 0)
theorem argB_set (n : Int) : argB 1 n = inB n 0 1000000000000 := by simp [argB]
theorem argB_num {op n : Int} (h : op = 2 ∨ op = 3 ∨ op = 4 ∨ op = 5 ∨ op = 8) : argB op n = inB n 1 100 := by
  rw [argB, if_neg (by omega), if_pos h]
theorem argB_else {op n : Int} (h1 : ¬ op = 1) (h : ¬ (op = 2 ∨ op = 3 ∨ op = 4 ∨ op = 5 ∨ op = 8)) : argB op n = decide (n = 0) := by
  rw [argB, if_neg h1, if_neg h]
/-- Has the instruction its form? -/
def insB (x : Int × Int) : Bool := inB x.1 1 10 && argB x.1 x.2
theorem insB_op {x : Int × Int} (h : insB x = true) : 1 ≤ x.1 ∧ x.1 ≤ 10 := by
  simp only [insB, Bool.and_eq_true] at h; exact inB_true h.1
theorem insB_arg {x : Int × Int} (h : insB x = true) : argB x.1 x.2 = true := by
  simp only [insB, Bool.and_eq_true] at h; exact h.2
theorem insB_bd {x : Int × Int} (h : insB x = true) : 0 ≤ x.2 ∧ x.2 ≤ 1000000000000 := by
  have h2 := insB_arg h
  unfold argB at h2
  split at h2
  · exact inB_true h2
  · split at h2
    · have := inB_true h2; omega
    · have : x.2 = 0 := by simpa using h2
      omega
/-- The rest of a program, while d loops are open. -/
def okF : Nat → List (Int × Int) → Bool
  | d, [] => decide (d = 0)
  | d, x :: xs => insB x && (if opnB x.1 then decide (d < 4) && okF (d + 1) xs else if x.1 = 10 then decide (0 < d) && okF (d - 1) xs else okF d xs)
theorem okF_nil (d : Nat) : okF d [] = decide (d = 0) := rfl
theorem okF_bad {d : Nat} {x : Int × Int} {xs : List (Int × Int)} (h : insB x = false) : okF d (x :: xs) = false := by rw [okF, h, Bool.false_and]
theorem okF_open {d : Nat} {x : Int × Int} {xs : List (Int × Int)} (h : insB x = true) (ho : opnB x.1 = true) (hd : d < 4) : okF d (x :: xs) = okF (d + 1) xs := by
  rw [okF, h, ho, if_pos rfl, decide_eq_true hd, Bool.true_and, Bool.true_and]
theorem okF_deep {d : Nat} {x : Int × Int} {xs : List (Int × Int)} (ho : opnB x.1 = true) (hd : ¬ d < 4) : okF d (x :: xs) = false := by
  rw [okF, ho, if_pos rfl, decide_eq_false hd, Bool.false_and, Bool.and_false]
theorem okF_end {d : Nat} {x : Int × Int} {xs : List (Int × Int)} (h : insB x = true) (he : x.1 = 10) (hd : 0 < d) : okF d (x :: xs) = okF (d - 1) xs := by
  rw [okF, h, if_neg (by rw [he]; decide), if_pos he, decide_eq_true hd, Bool.true_and, Bool.true_and]
theorem okF_loose {x : Int × Int} {xs : List (Int × Int)} (he : x.1 = 10) : okF 0 (x :: xs) = false := by
  rw [okF, if_neg (by rw [he]; decide), if_pos he, decide_eq_false (by omega), Bool.false_and, Bool.and_false]
theorem okF_plain {d : Nat} {x : Int × Int} {xs : List (Int × Int)} (h : insB x = true) (ho : opnB x.1 = false) (he : ¬ x.1 = 10) : okF d (x :: xs) = okF d xs := by
  rw [okF, h, ho, if_neg (by simp), if_neg he, Bool.true_and]
/-- A program. -/
def prgB (xs : List (Int × Int)) : Bool := okF 0 xs && decide (xs.length ≤ 120)
theorem prgB_len {xs : List (Int × Int)} (h : prgB xs = true) : xs.length ≤ 120 := by simp [prgB] at h; exact h.2
theorem prgB_ok {xs : List (Int × Int)} (h : prgB xs = true) : okF 0 xs = true := by simp [prgB] at h; exact h.1
theorem prgB_long {xs : List (Int × Int)} (h : 120 < xs.length) : prgB xs = false := by simp [prgB]; omega
theorem prgB_short {xs : List (Int × Int)} (h : xs.length ≤ 120) : prgB xs = okF 0 xs := by simp [prgB, h]
theorem prgB_no {xs : List (Int × Int)} (h : okF 0 xs = false) : prgB xs = false := by rw [prgB, h, Bool.false_and]
theorem okF_drop {xs : List (Int × Int)} {j d : Nat} (hj : j < xs.length) : okF d (xs.drop j) = okF d (elt pairF xs j :: xs.drop (j + 1)) := by rw [dropE (F := pairF) hj]
theorem okF_ins : ∀ {xs : List (Int × Int)} {d : Nat}, okF d xs = true → ∀ x ∈ xs, insB x = true
  | [], _, _, x, hx => by cases hx
  | y :: ys, d, h, x, hx => by
    rw [okF, Bool.and_eq_true] at h
    rcases List.mem_cons.1 hx with rfl | hx
    · exact h.1
    · by_cases h1 : opnB y.1 = true
      · have h2 := h.2
        rw [if_pos h1, Bool.and_eq_true] at h2
        exact okF_ins h2.2 x hx
      · have h2 := h.2
        rw [if_neg h1] at h2
        by_cases h3 : y.1 = 10
        · rw [if_pos h3, Bool.and_eq_true] at h2
          exact okF_ins h2.2 x hx
        · rw [if_neg h3] at h2
          exact okF_ins h2 x hx
theorem prgB_ins {xs : List (Int × Int)} (h : prgB xs = true) {j : Nat} (hj : j < xs.length) : insB (elt pairF xs j) = true := okF_ins (prgB_ok h) _ (elt_mem hj)

/-- How many loops are open behind the instruction. -/
def stepD (d : Nat) (x : Int × Int) : Nat := if opnB x.1 then d + 1 else if x.1 = 10 then d - 1 else d
theorem stepD_open {d : Nat} {x : Int × Int} (h : opnB x.1 = true) : stepD d x = d + 1 := by rw [stepD, if_pos h]
theorem stepD_end {d : Nat} {x : Int × Int} (h : x.1 = 10) : stepD d x = d - 1 := by rw [stepD, if_neg (by rw [h]; decide), if_pos h]
theorem stepD_plain {d : Nat} {x : Int × Int} (h : opnB x.1 = false) (h2 : ¬ x.1 = 10) : stepD d x = d := by rw [stepD, h, if_neg (by simp), if_neg h2]
/-- The rest of a program stays one. -/
theorem okF_step {d : Nat} {x : Int × Int} {xs : List (Int × Int)} (h : okF d (x :: xs) = true) : insB x = true ∧ okF (stepD d x) xs = true ∧ (opnB x.1 = true → d < 4) ∧ (x.1 = 10 → 0 < d) := by
  rw [okF, Bool.and_eq_true] at h
  refine ⟨h.1, ?_⟩
  have h2 := h.2
  by_cases h1 : opnB x.1 = true
  · rw [if_pos h1, Bool.and_eq_true] at h2
    exact ⟨by rw [stepD_open h1]; exact h2.2, fun _ => by simpa using h2.1, fun h3 => by rw [h3] at h1; cases h1⟩
  · rw [if_neg h1] at h2
    by_cases h3 : x.1 = 10
    · rw [if_pos h3, Bool.and_eq_true] at h2
      exact ⟨by rw [stepD_end h3]; exact h2.2, fun h4 => absurd h4 h1, fun _ => by simpa using h2.1⟩
    · rw [if_neg h3] at h2
      exact ⟨by rw [stepD_plain (by simpa using h1) h3]; exact h2, fun h4 => absurd h4 h1, fun h4 => absurd h4 h3⟩

/-- The greatest depth. -/
def dpF : Nat → Nat → List (Int × Int) → Nat
  | _, m, [] => m
  | d, m, x :: xs => dpF (stepD d x) (max m (stepD d x)) xs
def dpR (xs : List (Int × Int)) : Int × Int := if prgB xs = true then (((dpF 0 0 xs : Nat) : Int), 0) else (0, 1)
theorem dpR_bad {xs : List (Int × Int)} (h : prgB xs = false) : dpR xs = (0, 1) := by rw [dpR, if_neg (by rw [h]; simp)]
theorem dpR_ok {xs : List (Int × Int)} (h : prgB xs = true) : dpR xs = (((dpF 0 0 xs : Nat) : Int), 0) := by rw [dpR, if_pos h]
theorem dpF_le {d m : Nat} {x : Int × Int} {xs : List (Int × Int)} (h : opnB x.1 = false) (hm : d ≤ m) : dpF d m (x :: xs) = dpF (stepD d x) m xs := by
  rw [dpF]
  congr 1
  unfold stepD
  rw [h, if_neg (by simp)]
  split <;> omega

/-- Where the loop ends that is d deep. -/
def mtF : Nat → Nat → List (Int × Int) → Nat
  | _, i, [] => i
  | d, i, x :: xs => if stepD d x = 0 then i else mtF (stepD d x) (i + 1) xs
theorem mtF_hit {d i : Nat} {x : Int × Int} {xs : List (Int × Int)} (h : stepD d x = 0) : mtF d i (x :: xs) = i := by rw [mtF, if_pos h]
theorem mtF_miss {d i : Nat} {x : Int × Int} {xs : List (Int × Int)} (h : ¬ stepD d x = 0) : mtF d i (x :: xs) = mtF (stepD d x) (i + 1) xs := by rw [mtF, if_neg h]
def mtN (xs : List (Int × Int)) (i : Nat) : Nat := mtF 0 i (xs.drop i)
theorem mtF_bd : ∀ {xs : List (Int × Int)} {d i : Nat}, i ≤ mtF d i xs ∧ mtF d i xs ≤ i + xs.length
  | [], _, _ => by simp [mtF]
  | x :: xs, d, i => by
    rw [mtF]
    split
    · simp
    · have := mtF_bd (xs := xs) (d := stepD d x) (i := i + 1)
      simp only [List.length_cons]
      omega
/-- What MatchOf tells. -/
def mtR (xs : List (Int × Int)) (a : Int) : Int × Int :=
  if prgB xs = false then (0, 1) else if inB a 0 ((xs.length : Int) - 1) = false then (0, 2) else if opnB (elt pairF xs a.toNat).1 = false then (0, 6) else (((mtN xs a.toNat : Nat) : Int), 0)

/-! The loops as the program keeps them: those that are open (the innermost first), and where the others end. -/
structure LpInv (xs : List (Int × Int)) (k : Nat) (st : List Nat) (e : Nat → Nat) : Prop where
  at_ : ∀ p i, st[p]? = some i → i < k ∧ mtN xs i = mtF (p + 1) k (xs.drop k)
  out : ∀ i, i < k → opnB (elt pairF xs i).1 = true → i ∈ st ∨ e i = mtN xs i
theorem lpInv_start (xs : List (Int × Int)) (e : Nat → Nat) : LpInv xs 0 [] e := ⟨fun p i h => by simp at h, fun i h => by omega⟩
section
variable {xs : List (Int × Int)} {k : Nat} {st : List Nat} {e : Nat → Nat}
theorem LpInv.plain (h : LpInv xs k st e) (hk : k < xs.length) (ho : opnB (elt pairF xs k).1 = false) (he : ¬ (elt pairF xs k).1 = 10) : LpInv xs (k + 1) st e := by
  refine ⟨fun p i hp => ?_, fun i hi hp => ?_⟩
  · obtain ⟨h1, h2⟩ := h.at_ p i hp
    refine ⟨by omega, ?_⟩
    rw [h2, dropE (F := pairF) hk, mtF_miss (by rw [stepD_plain ho he]; omega), stepD_plain ho he]
  · by_cases e1 : i = k
    · subst e1; rw [ho] at hp; cases hp
    · exact h.out i (by omega) hp
theorem LpInv.open_ (h : LpInv xs k st e) (hk : k < xs.length) (ho : opnB (elt pairF xs k).1 = true) : LpInv xs (k + 1) (k :: st) e := by
  refine ⟨fun p i hp => ?_, fun i hi hp => ?_⟩
  · cases p with
    | zero =>
      simp only [List.getElem?_cons_zero, Option.some.injEq] at hp
      subst hp
      refine ⟨by omega, ?_⟩
      rw [mtN, dropE (F := pairF) hk, mtF_miss (by rw [stepD_open ho]; omega), stepD_open ho]
    | succ p =>
      simp only [List.getElem?_cons_succ] at hp
      obtain ⟨h1, h2⟩ := h.at_ p i hp
      refine ⟨by omega, ?_⟩
      rw [h2, dropE (F := pairF) hk, mtF_miss (by rw [stepD_open ho]; omega), stepD_open ho]
  · by_cases e1 : i = k
    · subst e1; exact .inl (by simp)
    · rcases h.out i (by omega) hp with h1 | h1
      · exact .inl (List.mem_cons_of_mem _ h1)
      · exact .inr h1
theorem LpInv.end_ {top : Nat} (h : LpInv xs k (top :: st) e) (hk : k < xs.length) (he : (elt pairF xs k).1 = 10) : LpInv xs (k + 1) st (fun i => if i = top then k else e i) := by
  have hmt : mtN xs top = k := by
    rw [(h.at_ 0 top rfl).2, dropE (F := pairF) hk, mtF_hit (by rw [stepD_end he])]
  refine ⟨fun p i hp => ?_, fun i hi hp => ?_⟩
  · obtain ⟨h1, h2⟩ := h.at_ (p + 1) i (by simpa using hp)
    refine ⟨by omega, ?_⟩
    rw [h2, dropE (F := pairF) hk, mtF_miss (by rw [stepD_end he]; omega), stepD_end he]
    rfl
  · by_cases e1 : i = k
    · subst e1; rw [he] at hp; cases hp
    · by_cases e2 : i = top
      · subst e2; right; rw [if_pos rfl]; exact hmt.symm
      · rw [if_neg e2]
        rcases h.out i (by omega) hp with h1 | h1
        · rcases List.mem_cons.1 h1 with h3 | h3
          · exact absurd h3 e2
          · exact .inl h3
        · exact .inr h1
theorem LpInv.top (h : LpInv xs k st e) {i : Nat} {r : List Nat} (hs : st = i :: r) : i < k := (h.at_ 0 i (by rw [hs]; rfl)).1
theorem LpInv.done (h : LpInv xs xs.length [] e) {i : Nat} (hi : i < xs.length) (ho : opnB (elt pairF xs i).1 = true) : e i = mtN xs i := by
  rcases h.out i hi ho with h1 | h1
  · cases h1
  · exact h1
end
end Go.Proofs.Ytgfopieojpjddaa
