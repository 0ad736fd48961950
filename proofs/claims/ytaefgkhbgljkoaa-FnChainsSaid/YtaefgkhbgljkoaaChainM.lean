/-
  Drawn chains: the maths.
-/
import Derived.Test.YtaefgkhbgljkoaaDrawM
namespace Go.Proofs.Ytaefgkhbgljkoaa
open Go.RowKit

/-- A chain that is being drawn: each play from 0 to 4, places next to each other differ by the play at most. -/
structure DrawnC (p q : List Int) : Prop where
  ln : q.length = p.length + 1
  first : -10 ≤ nth q 0 ∧ nth q 0 ≤ 9
  play : ∀ k, k < p.length → 0 ≤ nth p k ∧ nth p k ≤ 4
  join : ∀ k, k < p.length → nth q (k + 1) - nth q k ≤ nth p k ∧ nth q k - nth q (k + 1) ≤ nth p k
theorem nth_snoc_lt {zs : List Int} {z : Int} {k : Nat} (h : k < zs.length) : nth (zs ++ [z]) k = nth zs k := by simp [nth, List.getElem?_append_left h]
theorem nth_snoc_eq {zs : List Int} {z : Int} : nth (zs ++ [z]) zs.length = z := by simp [nth]
theorem nth_snoc_at {zs : List Int} {z : Int} {k : Nat} (h : k = zs.length) : nth (zs ++ [z]) k = z := by subst h; exact nth_snoc_eq
theorem drawnC_start {z : Int} (h0 : -10 ≤ z) (h1 : z ≤ 9) : DrawnC [] [z] := ⟨rfl, by simp [nth]; omega, by intro k hk; simp at hk, by intro k hk; simp at hk⟩
theorem DrawnC.snoc {p q : List Int} (h : DrawnC p q) {x y : Int} (x0 : 0 ≤ x) (x1 : x ≤ 4) (h1 : y - nth q p.length ≤ x) (h2 : nth q p.length - y ≤ x) : DrawnC (p ++ [x]) (q ++ [y]) := by
  have hl := h.ln
  refine ⟨by simp [hl], by rw [nth_snoc_lt (by omega)]; exact h.first, ?_, ?_⟩
  · intro k hk
    rw [List.length_append, List.length_singleton] at hk
    rcases Nat.lt_or_ge k p.length with hlt | hge
    · rw [nth_snoc_lt hlt]; exact h.play k hlt
    · rw [nth_snoc_at (zs := p) (by omega)]; omega
  · intro k hk
    rw [List.length_append, List.length_singleton] at hk
    rcases Nat.lt_or_ge k p.length with hlt | hge
    · rw [nth_snoc_lt hlt, nth_snoc_lt (by omega), nth_snoc_lt (by omega)]; exact h.join k hlt
    · obtain rfl : k = p.length := by omega
      rw [nth_snoc_at (zs := p) rfl, nth_snoc_lt (zs := q) (k := p.length) (by omega), nth_snoc_at (zs := q) (k := p.length + 1) (by omega)]
      exact ⟨h1, h2⟩
theorem DrawnC.near {p q : List Int} (h : DrawnC p q) : ∀ k, k ≤ p.length → -10 - 4 * (k : Int) ≤ nth q k ∧ nth q k ≤ 9 + 4 * (k : Int)
  | 0, _ => by have := h.first; omega
  | k + 1, hk => by
    have := h.near k (by omega)
    have := h.join k (by omega)
    have := h.play k (by omega)
    omega
theorem DrawnC.sum {p q : List Int} (h : DrawnC p q) : ∀ k, k ≤ p.length → 0 ≤ sumTo p k ∧ sumTo p k ≤ 4 * (k : Int)
  | 0, _ => by simp [sumTo]
  | k + 1, hk => by
    have := h.sum k (by omega)
    have := h.play k (by omega)
    simp only [sumTo]; omega
/-- A chain of at most 5 plays whose places are not far: valid. -/
theorem chain_is {p q : List Int} (n0 : 1 ≤ p.length) (n1 : p.length ≤ 10) (ln : q.length = p.length + 1) (hp : ∀ k, k < p.length → 0 ≤ nth p k ∧ nth p k ≤ 100) (hq : ∀ k, k < q.length → -1000000 ≤ nth q k ∧ nth q k ≤ 1000000)
    (hj : ∀ k, k < p.length → nth q (k + 1) - nth q k ≤ nth p k ∧ nth q k - nth q (k + 1) ≤ nth p k) : chainB p q = true := by
  have mem : ∀ {zs : List Int} {lo hi : Int}, (∀ k, k < zs.length → lo ≤ nth zs k ∧ nth zs k ≤ hi) → rangeB lo hi zs = true := by
    intro zs lo hi h
    refine rangeB_true.2 fun z hz => ?_
    obtain ⟨k, hk, rfl⟩ := List.getElem_of_mem hz
    have := h k hk
    rw [nth_get hk] at this
    simp [inB]; omega
  simp only [chainB, Bool.and_eq_true]
  exact ⟨by simp [linksB]; omega, mem hp, mem hq, joinedTo_all.2 fun k hk => by simpa [joinedAt] using hj k hk⟩
theorem DrawnC.chain {p q : List Int} (h : DrawnC p q) (n0 : 1 ≤ p.length) (n1 : p.length ≤ 5) : chainB p q = true :=
  chain_is n0 (by omega) h.ln (fun k hk => by have := h.play k hk; omega) (fun k hk => by have := h.near k (by have := h.ln; omega); have := h.ln; omega) h.join
theorem mvF_step' (p q : List Int) (t : Int) (k : Nat) : mvF p q t (k + 1) = min (max (nth q (k + 1)) (mvF p q t k - nth p k)) (mvF p q t k + nth p k) := rfl
/-- Where the places go: next to each other, near the first one. -/
theorem mvF_join {p q : List Int} (t : Int) {k : Nat} (h : 0 ≤ nth p k) : mvF p q t (k + 1) - mvF p q t k ≤ nth p k ∧ mvF p q t k - mvF p q t (k + 1) ≤ nth p k := by
  rw [mvF_step']; omega
theorem DrawnC.far {p q : List Int} (h : DrawnC p q) (t : Int) : ∀ k, k ≤ p.length → mvF p q t k - t ≤ sumTo p k ∧ t - mvF p q t k ≤ sumTo p k
  | 0, _ => by simp [mvF, sumTo]
  | k + 1, hk => by
    have := h.far t k (by omega)
    have := mvF_join (q := q) t (h.play k (by omega)).1
    simp only [sumTo]; omega
theorem DrawnC.sum_le {p q : List Int} (h : DrawnC p q) {k : Nat} : ∀ n, k ≤ n → n ≤ p.length → sumTo p k ≤ sumTo p n
  | 0, hk, _ => by
    obtain rfl : k = 0 := by omega
    exact Int.le_refl _
  | n + 1, hk, hn => by
    rcases Nat.lt_or_ge k (n + 1) with hlt | hge
    · have := DrawnC.sum_le h (k := k) n (by omega) (by omega)
      have := h.play n (by omega)
      simp only [sumTo]; omega
    · obtain rfl : k = n + 1 := by omega
      exact Int.le_refl _
/-- No place goes back. -/
theorem DrawnC.up {p q : List Int} (h : DrawnC p q) {t : Int} (ht : nth q 0 ≤ t) : ∀ k, k ≤ p.length → nth q k ≤ mvF p q t k
  | 0, _ => by simp only [mvF]; omega
  | k + 1, hk => by
    have := h.up ht k (by omega)
    have := h.join k (by omega)
    rw [mvF_step']; omega
theorem DrawnC.down {p q : List Int} (h : DrawnC p q) {t : Int} (ht : t ≤ nth q 0) : ∀ k, k ≤ p.length → mvF p q t k ≤ nth q k
  | 0, _ => by simp only [mvF]; omega
  | k + 1, hk => by
    have := h.down ht k (by omega)
    have := h.join k (by omega)
    rw [mvF_step']; omega
/-- A chain whose first place stays. -/
theorem mvF_stay {p q : List Int} (hj : ∀ k, k < p.length → nth q (k + 1) - nth q k ≤ nth p k ∧ nth q k - nth q (k + 1) ≤ nth p k) : ∀ k, k ≤ p.length → mvF p q (nth q 0) k = nth q k
  | 0, _ => rfl
  | k + 1, hk => by
    have e := mvF_stay hj k (by omega)
    have := hj k (by omega)
    rw [mvF_step', e]; omega
theorem mvL_stay {p q : List Int} (ln : q.length = p.length + 1) (hj : ∀ k, k < p.length → nth q (k + 1) - nth q k ≤ nth p k ∧ nth q k - nth q (k + 1) ≤ nth p k) : mvL p q (nth q 0) = q := by
  apply List.ext_getElem (by rw [mvL, tab_len, ln])
  intro k h1 h2
  rw [← nth_get h1, ← nth_get h2]
  rw [mvL, tab_len] at h1
  rw [mvL, tab_nth h1, mvF_stay hj k (by omega)]
theorem mvL_len (p q : List Int) (t : Int) : (mvL p q t).length = p.length + 1 := by rw [mvL, tab_len]
theorem mvL_at {p q : List Int} {t : Int} {k : Nat} (h : k ≤ p.length) : nth (mvL p q t) k = mvF p q t k := by rw [mvL, tab_nth (by omega)]
theorem DrawnC.moved {p q : List Int} (h : DrawnC p q) (n0 : 1 ≤ p.length) (n1 : p.length ≤ 5) {t : Int} (t0 : -1000 ≤ t) (t1 : t ≤ 1000) : chainB p (mvL p q t) = true := by
  refine chain_is n0 (by omega) (mvL_len _ _ _) (fun k hk => by have := h.play k hk; omega) (fun k hk => ?_) (fun k hk => ?_)
  · rw [mvL_len] at hk
    rw [mvL_at (by omega)]
    have := h.far t k (by omega)
    have := h.sum k (by omega)
    omega
  · rw [mvL_at (by omega), mvL_at (by omega)]
    exact mvF_join t (h.play k hk).1
theorem DrawnC.again {p q : List Int} (h : DrawnC p q) (t : Int) : mvL p (mvL p q t) t = mvL p q t := by
  have e : nth (mvL p q t) 0 = t := by rw [mvL_at (by omega)]; rfl
  have := mvL_stay (p := p) (q := mvL p q t) (mvL_len _ _ _) fun k hk => by
    rw [mvL_at (by omega), mvL_at (by omega)]
    exact mvF_join t (h.play k hk).1
  rwa [e] at this
/-- The last place comes where it must. -/
theorem DrawnC.hi {p q : List Int} (h : DrawnC p q) {t s : Int} : ∀ k, k ≤ p.length → t = s → s - sumTo p k ≤ mvF p q t k ∧ (mvF p q t k ≤ nth q k ∨ mvF p q t k ≤ s - sumTo p k)
  | 0, _, e => by subst e; simp [mvF, sumTo]
  | k + 1, hk, e => by
    have b := h.hi k (by omega) e
    have := h.join k (by omega)
    have := h.play k (by omega)
    rw [mvF_step']; simp only [sumTo]; omega
theorem DrawnC.lo {p q : List Int} (h : DrawnC p q) {t s : Int} : ∀ k, k ≤ p.length → t = s → mvF p q t k ≤ s + sumTo p k ∧ (nth q k ≤ mvF p q t k ∨ s + sumTo p k ≤ mvF p q t k)
  | 0, _, e => by subst e; simp [mvF, sumTo]
  | k + 1, hk, e => by
    have b := h.lo k (by omega) e
    have := h.join k (by omega)
    have := h.play k (by omega)
    rw [mvF_step']; simp only [sumTo]; omega
theorem DrawnC.reach {p q : List Int} (h : DrawnC p q) (g : Int) : mvF p q (needTo p q g) p.length = g := by
  unfold needTo
  by_cases h1 : nth q p.length < g
  · rw [if_pos h1]
    have := h.hi (t := g + sumTo p p.length) p.length (Nat.le_refl _) rfl
    omega
  · rw [if_neg h1]
    by_cases h2 : g < nth q p.length
    · rw [if_pos h2]
      have := h.lo (t := g - sumTo p p.length) p.length (Nat.le_refl _) rfl
      omega
    · rw [if_neg h2, mvF_stay h.join p.length (Nat.le_refl _)]; omega
theorem DrawnC.need {p q : List Int} (h : DrawnC p q) (n0 : 1 ≤ p.length) (n1 : p.length ≤ 5) {g : Int} (g0 : -20 ≤ g) (g1 : g ≤ 19) : -1000 ≤ needTo p q g ∧ needTo p q g ≤ 1000 ∧ needR p q g = (needTo p q g, 0) := by
  have hb : -1000 ≤ needTo p q g ∧ needTo p q g ≤ 1000 := by
    have := h.sum p.length (Nat.le_refl _)
    have := h.first
    unfold needTo
    split
    · omega
    · split <;> omega
  exact ⟨hb.1, hb.2, needR_ok (h.chain n0 n1) (by simp [inB]; omega) (by simp [inB]; omega)⟩
end Go.Proofs.Ytaefgkhbgljkoaa
