/-
  The maths of the busiest time.
-/
import Derived.Test.YtkhfbhphmdcelaaDrumM
import Derived.Test.YtkhfbhphmdcelaaAr
namespace Go.Proofs.Ytkhfbhphmdcelaa

/-- BusiestTime. -/
def busyR (K B T F b : Int) (ds : List Int) : Int × Int × Int :=
  if drumB K B T F = true ∧ okB b ds = true then (if b = B then ((bestTo (cntR K B T F ds) T.toNat : Nat), nth (cntR K B T F ds) (bestTo (cntR K B T F ds) T.toNat), 0) else (0, 0, 6)) else (0, 0, 1)
theorem allT_len {K B T F : Int} : ∀ {ds : List Int}, (∀ d ∈ ds, d < 16) → (allT K B T F ds).length ≤ 16 * ds.length
  | [], _ => by simp [allT]
  | d :: ds, h => by
    have h1 := h d (List.mem_cons_self ..)
    have h2 := allT_len (K := K) (B := B) (T := T) (F := F) (ds := ds) (fun x hx => h x (List.mem_cons_of_mem _ hx))
    have e : allT K B T F (d :: ds) = tms K B T F d ++ allT K B T F ds := by simp [allT]
    rw [e, List.length_append, tms_len, List.length_cons]
    omega
theorem allT_mem {K B T F t : Int} {ds : List Int} (h : Drm K B T F) (hd : ∀ d ∈ ds, d < B) (ht : t ∈ allT K B T F ds) : 1 ≤ t ∧ t ≤ T := by
  unfold allT at ht
  obtain ⟨d, h1, h2⟩ := List.mem_flatMap.1 ht
  exact tms_mem h (hd d h1) h2
theorem rep_nth (n j : Nat) : nth (List.replicate n 0) j = 0 := by
  unfold nth
  rw [List.getElem?_replicate]
  split <;> rfl
theorem cnt_bd {K B T F : Int} {ts : List Int} (h : ∀ t ∈ ts, 1 ≤ t ∧ t ≤ T) (j : Nat) : 0 ≤ nth (cntT K B T F ts) j ∧ nth (cntT K B T F ts) j ≤ ts.length := by
  unfold cntT
  rw [bumps_nth (T := T) ts _ (fun t ht => by have := h t ht; omega) (by rw [List.length_replicate]; omega), rep_nth]
  have := List.length_filter_le (fun t : Int => decide (t.toNat = j)) ts
  omega
theorem take_snocI {xs : List Int} {k : Nat} (h : k < xs.length) : xs.take (k + 1) = xs.take k ++ [nth xs k] := by
  rw [List.take_succ_eq_append_getElem h, nth_get h]
theorem bestTo_cast {cs : List Int} {n : Nat} : bestTo cs n ≤ n := bestTo_le cs n
theorem bestTo_step (cs : List Int) (n : Nat) : nth cs (bestTo cs (n + 1)) = max (nth cs (bestTo cs n)) (nth cs (n + 1)) := by
  rw [bestTo]
  split <;> omega
/-- A filter of a strictly growing list keeps at most one of equal numbers. -/
theorem eq_le_one {j : Nat} : ∀ (l : List Int), (∀ x ∈ l, 0 ≤ x) → l.Pairwise (· < ·) → (l.filter fun t : Int => decide (t.toNat = j)).length ≤ 1
  | [], _, _ => by simp
  | x :: l, h0, hp => by
    rw [List.pairwise_cons] at hp
    have ih := eq_le_one (j := j) l (fun y hy => h0 y (List.mem_cons_of_mem _ hy)) hp.2
    rw [List.filter_cons]
    split
    · rename_i hx
      have hx' : x.toNat = j := by simpa using hx
      have : (l.filter fun t : Int => decide (t.toNat = j)) = [] := by
        rw [List.filter_eq_nil_iff]
        intro y hy
        have := hp.1 y hy
        have := h0 x (List.mem_cons_self ..)
        simp
        omega
      rw [this]; simp
    · exact ih
theorem tms_up {K B T F d : Int} (h : Drm K B T F) (h2 : d < B) : (tms K B T F d).Pairwise (· < ·) := by
  have key : ∀ n : Nat, n ≤ d.toNat → (tmsN K B T F d n).Pairwise (· < ·) ∧ ∀ x ∈ tmsN K B T F d n, ∀ m : Nat, n ≤ m → m < d.toNat → x < tm K B T F d m := by
    intro n
    induction n with
    | zero => intro _; simp [tmsN]
    | succ n ih =>
      intro hn
      obtain ⟨i1, i2⟩ := ih (by omega)
      rw [tmsN_succ]
      have step : ∀ k : Nat, n + k + 1 < d.toNat → tm K B T F d (n : Int) < tm K B T F d ((n + k + 1 : Nat) : Int) := by
        intro k
        induction k with
        | zero => intro hk; have := tm_mono h (k := (n : Int)) (by omega) (by omega) h2; exact_mod_cast this
        | succ k ihk =>
          intro hk
          have a := ihk (by omega)
          have b := tm_mono h (k := ((n + k + 1 : Nat) : Int)) (by omega) (by omega) h2
          have : ((n + k + 1 : Nat) : Int) + 1 = ((n + (k + 1) + 1 : Nat) : Int) := by omega
          rw [this] at b
          omega
      refine ⟨List.pairwise_append.2 ⟨i1, by simp, ?_⟩, ?_⟩
      · intro x hx y hy
        have : y = tm K B T F d (n : Int) := by simpa using hy
        rw [this]; exact i2 x hx n (Nat.le_refl _) (by omega)
      · intro x hx m h1 h3
        rcases List.mem_append.1 hx with hx | hx
        · exact i2 x hx m (by omega) h3
        · have : x = tm K B T F d (n : Int) := by simpa using hx
          rw [this]
          have := step (m - (n + 1)) (by omega)
          rwa [show n + (m - (n + 1)) + 1 = m by omega] at this
  exact (key _ (Nat.le_refl _)).1
/-- No time has more steps than there are wheels. -/
theorem cnt_wheels {K B T F : Int} {ds : List Int} (h : Drm K B T F) (hd : ∀ d ∈ ds, d < B) (j : Nat) : nth (cntR K B T F ds) j ≤ ds.length := by
  unfold cntR cntT
  rw [bumps_nth (T := T) _ _ (fun t ht => by have := allT_mem h hd ht; omega) (by rw [List.length_replicate]; omega), rep_nth]
  have key : ∀ es : List Int, (∀ d ∈ es, d < B) → ((allT K B T F es).filter fun t : Int => decide (t.toNat = j)).length ≤ es.length := by
    intro es
    induction es with
    | nil => intro _; simp [allT]
    | cons e es ih =>
      intro he
      have e1 : allT K B T F (e :: es) = tms K B T F e ++ allT K B T F es := by simp [allT]
      have e2 := ih (fun x hx => he x (List.mem_cons_of_mem _ hx))
      have e3 := eq_le_one (j := j) (tms K B T F e) (fun x hx => by have := tms_mem h (he e (List.mem_cons_self ..)) hx; omega) (tms_up h (he e (List.mem_cons_self ..)))
      rw [e1, List.filter_append, List.length_append, List.length_cons]
      omega
  have := key ds hd
  omega
end Go.Proofs.Ytkhfbhphmdcelaa
