/-
  Adding on an abacus: the maths.
-/
import Derived.Test.YtcfpfhlgcfmioaaAba
namespace Go.Proofs.Ytcfpfhlgcfmioaa
open Go.RowKit

/-- Adds a digit, then the carries: the rods, the moves, whether there were all the rods that it needs. -/
def addD (U W : Int) (rs : List (Int × Int)) (k : Nat) (d : Int) : List (Int × Int) × List (Int × Int × Int) × Bool :=
  if d = 0 then (rs, [], true)
  else if k < rs.length then
    ((addD U W (rs.set k (digP U W ((showR W (elt pairF rs k) + d) % 10))) (k + 1) ((showR W (elt pairF rs k) + d) / 10)).1,
     ((k : Int), (digP U W ((showR W (elt pairF rs k) + d) % 10)).1 - (elt pairF rs k).1, (digP U W ((showR W (elt pairF rs k) + d) % 10)).2 - (elt pairF rs k).2) ::
       (addD U W (rs.set k (digP U W ((showR W (elt pairF rs k) + d) % 10))) (k + 1) ((showR W (elt pairF rs k) + d) / 10)).2.1,
     (addD U W (rs.set k (digP U W ((showR W (elt pairF rs k) + d) % 10))) (k + 1) ((showR W (elt pairF rs k) + d) / 10)).2.2)
  else (rs, [], false)
termination_by rs.length - k
decreasing_by all_goals (simp; omega)

/-- The rod behind a digit that is added, the move for it, what is carried. -/
def addT (U W : Int) (rs : List (Int × Int)) (k : Nat) (d : Int) : Int × Int := digP U W ((showR W (elt pairF rs k) + d) % 10)
def addM (U W : Int) (rs : List (Int × Int)) (k : Nat) (d : Int) : Int × Int × Int := ((k : Int), (addT U W rs k d).1 - (elt pairF rs k).1, (addT U W rs k d).2 - (elt pairF rs k).2)
def addC (W : Int) (rs : List (Int × Int)) (k : Nat) (d : Int) : Int := (showR W (elt pairF rs k) + d) / 10
theorem addD_zero (U W : Int) (rs : List (Int × Int)) (k : Nat) : addD U W rs k 0 = (rs, [], true) := by rw [addD, if_pos rfl]
theorem addD_full {U W d : Int} {rs : List (Int × Int)} {k : Nat} (hd : ¬ d = 0) (hk : ¬ k < rs.length) : addD U W rs k d = (rs, [], false) := by rw [addD, if_neg hd, if_neg hk]
theorem addD_step {U W d : Int} {rs : List (Int × Int)} {k : Nat} (hd : ¬ d = 0) (hk : k < rs.length) : addD U W rs k d =
    ((addD U W (rs.set k (addT U W rs k d)) (k + 1) (addC W rs k d)).1, addM U W rs k d :: (addD U W (rs.set k (addT U W rs k d)) (k + 1) (addC W rs k d)).2.1, (addD U W (rs.set k (addT U W rs k d)) (k + 1) (addC W rs k d)).2.2) := by
  rw [addD, if_neg hd, if_pos hk]; rfl
theorem addD_len (U W : Int) : ∀ (n : Nat) (rs : List (Int × Int)) (k : Nat) (d : Int), rs.length - k ≤ n → (addD U W rs k d).1.length = rs.length
  | n, rs, k, d, h => by
    by_cases hd : d = 0
    · subst hd; rw [addD_zero]
    · by_cases hk : k < rs.length
      · rw [addD_step hd hk]
        cases n with
        | zero => omega
        | succ n =>
          rw [addD_len U W n _ _ _ (by simp; omega)]
          simp
      · rw [addD_full hd hk]

/-- A valid abacus with the plain setting. -/
structure Pln (U L W : Int) (rs : List (Int × Int)) : Prop where
  aba : Aba U L W rs
  plain : ∀ r ∈ rs, plainRodB U W r = true
theorem Pln.show {U L W : Int} {rs : List (Int × Int)} (h : Pln U L W rs) {k : Nat} (hk : k < rs.length) : 0 ≤ showR W (elt pairF rs k) ∧ showR W (elt pairF rs k) ≤ 9 := by
  have h1 := (show_bd h.aba.u1 h.aba.l1 h.aba.w0 h.aba.w1 (rodsB_at h.aba.rods hk)).2.2.1
  have h2 := h.plain _ (elt_mem (F := pairF) hk)
  simp only [plainRodB, Bool.and_eq_true, decide_eq_true_eq] at h2
  exact ⟨h1, h2.1⟩
theorem plainRod_digP {U W d : Int} (d1 : d ≤ 9) : plainRodB U W (digP U W d) = true := by
  simp only [plainRodB, show_digP, Bool.and_eq_true, decide_eq_true_eq]
  exact ⟨d1, trivial⟩
theorem Pln.set {U L W d : Int} {rs : List (Int × Int)} (h : Pln U L W rs) {k : Nat} (hk : k < rs.length) (_ : 0 ≤ d) (_ : d ≤ 9) : Pln U L W (rs.set k (addT U W rs k d)) := by
  obtain ⟨s0, s1⟩ := h.show hk
  have hr : rodB U L (addT U W rs k d) = true := digP_bd h.aba.u0 h.aba.w0 h.aba.lw h.aba.nine (by omega) (by omega)
  have hp : plainRodB U W (addT U W rs k d) = true := plainRod_digP (by omega)
  obtain ⟨⟨u0, u1, l0, l1, w0, w1, lw, n0, n1, nine, rods⟩, plain⟩ := h
  refine ⟨⟨u0, u1, l0, l1, w0, w1, lw, by simpa using n0, by simpa using n1, nine, rodsB_all fun r hr' => ?_⟩, fun r hr' => ?_⟩
  · rcases List.mem_or_eq_of_mem_set hr' with h1 | rfl
    · exact rodsB_true rods _ h1
    · exact hr
  · rcases List.mem_or_eq_of_mem_set hr' with h1 | rfl
    · exact plain _ h1
    · exact hp
theorem Pln.carry {U L W d : Int} {rs : List (Int × Int)} (h : Pln U L W rs) {k : Nat} (hk : k < rs.length) (d0 : 0 ≤ d) (d1 : d ≤ 9) : addC W rs k d = 0 ∧ showR W (elt pairF rs k) + d < 10 ∨ addC W rs k d = 1 ∧ 10 ≤ showR W (elt pairF rs k) + d := by
  obtain ⟨s0, s1⟩ := h.show hk
  unfold addC
  omega
theorem Pln.add {U L W : Int} : ∀ (n : Nat) {rs : List (Int × Int)} {k : Nat} {d : Int}, rs.length - k ≤ n → Pln U L W rs → 0 ≤ d → d ≤ 9 → Pln U L W (addD U W rs k d).1
  | n, rs, k, d, hn, h, d0, d1 => by
    by_cases hd : d = 0
    · subst hd; rw [addD_zero]; exact h
    · by_cases hk : k < rs.length
      · rw [addD_step hd hk]
        cases n with
        | zero => omega
        | succ n =>
          have hc := h.carry hk d0 d1
          exact Pln.add n (by simp; omega) (h.set hk d0 d1) (by omega) (by omega)
      · rw [addD_full hd hk]; exact h

/-- Adds the n lowest digits ds, the highest one first. -/
def addN (U W : Int) (ds : Nat → Int) : Nat → List (Int × Int) → List (Int × Int) × List (Int × Int × Int) × Bool
  | 0, rs => (rs, [], true)
  | n + 1, rs => if (addD U W rs n (ds n)).2.2 = true then
      ((addN U W ds n (addD U W rs n (ds n)).1).1, (addD U W rs n (ds n)).2.1 ++ (addN U W ds n (addD U W rs n (ds n)).1).2.1, (addN U W ds n (addD U W rs n (ds n)).1).2.2)
    else (rs, [], false)
theorem addN_zeros {U W : Int} {ds : Nat → Int} {m : Nat} : ∀ (j : Nat) (rs : List (Int × Int)), (∀ i, m ≤ i → i < m + j → ds i = 0) → addN U W ds (m + j) rs = addN U W ds m rs
  | 0, _, _ => rfl
  | j + 1, rs, h => by
    have e : ds (m + j) = 0 := h _ (by omega) (by omega)
    show addN U W ds (m + j + 1) rs = _
    rw [addN, e, addD_zero]
    simpa using addN_zeros j rs fun i h1 h2 => h i h1 (by omega)
theorem addN_cong {U W : Int} {ds es : Nat → Int} : ∀ (n : Nat) (rs : List (Int × Int)), (∀ i, i < n → ds i = es i) → addN U W ds n rs = addN U W es n rs
  | 0, _, _ => rfl
  | n + 1, rs, h => by
    rw [addN, addN, h n (by omega)]
    rw [addN_cong n _ fun i hi => h i (by omega)]

/-- AddOnAbacus: beads, worth, rods, moves, code. -/
def addAR (U L W : Int) (rs : List (Int × Int)) (v : Int) : Int × Int × Int × List (Int × Int) × List (Int × Int × Int) × Int :=
  if abaB U L W rs = true then
    if 0 ≤ v ∧ v ≤ 1000000000000 then
      if plainB U L W rs = true then
        if (addN U W (fun i => leftR 10 i v % 10) 13 rs).2.2 = true then (U, L, W, (addN U W (fun i => leftR 10 i v % 10) 13 rs).1, (addN U W (fun i => leftR 10 i v % 10) 13 rs).2.1, 0)
        else (0, 0, 0, [], [], 5)
      else (0, 0, 0, [], [], 6)
    else (0, 0, 0, [], [], 2)
  else (0, 0, 0, [], [], 1)
/-- As many moves as rods from k on, at most. -/
theorem addD_moves (U W : Int) : ∀ (n : Nat) (rs : List (Int × Int)) (k : Nat) (d : Int), rs.length - k ≤ n → (addD U W rs k d).2.1.length ≤ n
  | n, rs, k, d, h => by
    by_cases hd : d = 0
    · subst hd; rw [addD_zero]; simp
    · by_cases hk : k < rs.length
      · rw [addD_step hd hk]
        cases n with
        | zero => omega
        | succ n =>
          have := addD_moves U W n (rs.set k (addT U W rs k d)) (k + 1) (addC W rs k d) (by simp; omega)
          simp only [List.length_cons]
          omega
      · rw [addD_full hd hk]; simp
/-- A digit that is not 0 and was added has moved beads. -/
theorem addD_some {U W d : Int} {rs : List (Int × Int)} {k : Nat} (hd : ¬ d = 0) (h : (addD U W rs k d).2.2 = true) : (addD U W rs k d).2.1 ≠ [] := by
  by_cases hk : k < rs.length
  · rw [addD_step hd hk]; simp
  · rw [addD_full hd hk] at h; cases h
/-- What is left to do: j digits are to be added to the rods cur, the moves acc have been made. -/
def AnAt (U W : Int) (ds : Nat → Int) (R : List (Int × Int) × List (Int × Int × Int) × Bool) (cur : List (Int × Int)) (j : Nat) (acc : List (Int × Int × Int)) : Prop :=
  ((addN U W ds j cur).2.2 = R.2.2) ∧ (R.2.2 = true → R.1 = (addN U W ds j cur).1 ∧ R.2.1 = acc ++ (addN U W ds j cur).2.1)
theorem anAt_zero (U W : Int) (ds : Nat → Int) (rs : List (Int × Int)) (n : Nat) : AnAt U W ds (addN U W ds n rs) rs n [] := ⟨rfl, fun _ => ⟨rfl, rfl⟩⟩
theorem anAt_step {U W : Int} {ds : Nat → Int} {R : List (Int × Int) × List (Int × Int × Int) × Bool} {cur : List (Int × Int)} {j : Nat} {acc : List (Int × Int × Int)} (h : AnAt U W ds R cur (j + 1) acc) (hb : (addD U W cur j (ds j)).2.2 = true) :
    AnAt U W ds R (addD U W cur j (ds j)).1 j (acc ++ (addD U W cur j (ds j)).2.1) := by
  obtain ⟨h1, h2⟩ := h
  rw [addN, if_pos hb] at h1 h2
  exact ⟨h1, fun hR => ⟨(h2 hR).1, by rw [(h2 hR).2, List.append_assoc]⟩⟩
theorem anAt_full {U W : Int} {ds : Nat → Int} {R : List (Int × Int) × List (Int × Int × Int) × Bool} {cur : List (Int × Int)} {j : Nat} {acc : List (Int × Int × Int)} (h : AnAt U W ds R cur (j + 1) acc) (hb : (addD U W cur j (ds j)).2.2 = false) : R.2.2 = false := by
  obtain ⟨h1, _⟩ := h
  rw [addN, if_neg (by rw [hb]; decide)] at h1
  exact h1.symm
theorem anAt_end {U W : Int} {ds : Nat → Int} {R : List (Int × Int) × List (Int × Int × Int) × Bool} {cur : List (Int × Int)} {acc : List (Int × Int × Int)} (h : AnAt U W ds R cur 0 acc) : R = (cur, acc, true) := by
  obtain ⟨h1, h2⟩ := h
  have h3 : R.2.2 = true := h1.symm
  obtain ⟨h4, h5⟩ := h2 h3
  rw [addN, List.append_nil] at h5
  exact Prod.ext h4 (Prod.ext h5 h3)
theorem addAR_bad {U L W v : Int} {rs : List (Int × Int)} (h : abaB U L W rs = false) : addAR U L W rs v = (0, 0, 0, [], [], 1) := by rw [addAR, if_neg (by rw [h]; decide)]
theorem addAR_range {U L W v : Int} {rs : List (Int × Int)} (h : abaB U L W rs = true) (hv : ¬ (0 ≤ v ∧ v ≤ 1000000000000)) : addAR U L W rs v = (0, 0, 0, [], [], 2) := by rw [addAR, if_pos h, if_neg hv]
theorem addAR_state {U L W v : Int} {rs : List (Int × Int)} (h : abaB U L W rs = true) (hv : 0 ≤ v ∧ v ≤ 1000000000000) (hp : plainB U L W rs = false) : addAR U L W rs v = (0, 0, 0, [], [], 6) := by
  rw [addAR, if_pos h, if_pos hv, if_neg (by rw [hp]; decide)]
theorem addAR_full {U L W v : Int} {rs : List (Int × Int)} (h : abaB U L W rs = true) (hv : 0 ≤ v ∧ v ≤ 1000000000000) (hp : plainB U L W rs = true) (hn : (addN U W (fun i => leftR 10 i v % 10) 13 rs).2.2 = false) : addAR U L W rs v = (0, 0, 0, [], [], 5) := by
  rw [addAR, if_pos h, if_pos hv, if_pos hp, if_neg (by rw [hn]; decide)]
theorem addAR_ok {U L W v : Int} {rs cur : List (Int × Int)} {acc : List (Int × Int × Int)} (h : abaB U L W rs = true) (hv : 0 ≤ v ∧ v ≤ 1000000000000) (hp : plainB U L W rs = true) (hn : addN U W (fun i => leftR 10 i v % 10) 13 rs = (cur, acc, true)) : addAR U L W rs v = (U, L, W, cur, acc, 0) := by
  rw [addAR, if_pos h, if_pos hv, if_pos hp, hn, if_pos rfl]
/-- A result: the abacus, the moves, each of its own, the code. -/
def AbaM2 (R : Int × Int × Int × List (Int × Int) × List (Int × Int × Int) × Int) (w : World) (e : Ending) (w' : World) : Prop := ∃ A C B D m,
  e = .returned (.tuple #[.agg #[.int .i64 R.1, .int .i64 R.2.1, .int .i64 R.2.2.1, .slice A R.2.2.2.1.length C], .slice B R.2.2.2.2.1.length D, .int .i64 R.2.2.2.2.2]) ∧ OwnF pairF 102 w' w.heap.size m (.slice A R.2.2.2.1.length C) R.2.2.2.1 ∧
    OwnF tripF 37 w' m w'.heap.size (.slice B R.2.2.2.2.1.length D) R.2.2.2.2.1 ∧ w.heap.size ≤ m ∧ m ≤ w'.heap.size ∧ Below w.heap.size w w'
theorem abaM2_err {R : Int × Int × Int × List (Int × Int) × List (Int × Int × Int) × Int} {c : Int} {w w' : World} {e : Ending} (h : R = (0, 0, 0, [], [], c)) (he : e = .returned (.tuple #[.agg #[.int .i64 0, .int .i64 0, .int .i64 0, .slice none 0 0], .slice none 0 0, .int .i64 c])) (hb : Below w.heap.size w w') : AbaM2 R w e w' := by
  subst h
  exact ⟨none, 0, none, 0, w.heap.size, he, ownF_nil _ _ _ _ _, ownF_nil _ _ _ _ _, Nat.le_refl _, hb.size, hb⟩
theorem abaM2_ok {R : Int × Int × Int × List (Int × Int) × List (Int × Int × Int) × Int} {U L W c : Int} {xs : List (Int × Int)} {ms : List (Int × Int × Int)} {n k : Nat} {w w' : World} {A B : Option Addr} {C D lo hi lo2 hi2 : Nat} {e : Ending} (h : R = (U, L, W, xs, ms, c)) (hn : xs.length = n) (hk : ms.length = k)
    (he : e = .returned (.tuple #[.agg #[.int .i64 U, .int .i64 L, .int .i64 W, .slice A n C], .slice B k D, .int .i64 c])) (ho : OwnF pairF 102 w' lo hi (.slice A n C) xs) (hm : OwnF tripF 37 w' lo2 hi2 (.slice B k D) ms) (hl : w.heap.size ≤ lo) (hh : lo ≤ hi) (hl2 : hi ≤ lo2) (hh2 : hi2 ≤ w'.heap.size) (hi3 : hi ≤ w'.heap.size) (hb : Below w.heap.size w w') : AbaM2 R w e w' := by
  subst h hn hk
  exact ⟨A, C, B, D, hi, he, ho.wide hl (Nat.le_refl _), hm.wide hl2 hh2, by omega, hi3, hb⟩
end Go.Proofs.Ytcfpfhlgcfmioaa
