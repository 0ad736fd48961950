/-
  Signals that are the rest of a row of the call's own: a slice that begins within its array.
-/
import Derived.Test.YtmdngcoccekdgaaSignalS
namespace Go.Proofs.Ytmdngcoccekdgaa
open Go.RowKit

/-- v is a slice of the call's own that holds xs: the rest of a row. -/
def OffS (t : TypeId) (w : World) (lo hi : Nat) (v : Value) (xs : List (Bool × Bool)) : Prop :=
  (v = .slice none 0 0 ∧ xs = []) ∨ ∃ (g o m K C : Nat) (pre : List (Bool × Bool)), v = .slice (some ⟨g, o, none⟩) xs.length C ∧ o = pre.length * 2 ∧ OwnF sigF t w lo hi (.slice (some ⟨g, 0, none⟩) m K) (pre ++ xs)
section
variable {t : TypeId} {w w' : World} {lo hi : Nat} {v : Value} {xs : List (Bool × Bool)}
theorem OffS.len (h : OffS t w lo hi v xs) : xs.length ≤ 1000000000 := by
  rcases h with ⟨_, rfl⟩ | ⟨g, o, m, K, C, pre, _, _, ow⟩
  · simp
  · have := ow.len; simp at this; omega
theorem OffS.below (h : OffS t w lo hi v xs) (hb : Below w.heap.size w w') : OffS t w' lo hi v xs := by
  rcases h with h | ⟨g, o, m, K, C, pre, h1, h2, ow⟩
  · exact .inl h
  · exact .inr ⟨g, o, m, K, C, pre, h1, h2, ow.below hb⟩
theorem OffS.touch {a b : Nat} (h : OffS t w lo hi v xs) (ht : Touch a b w w') (hd : hi ≤ a ∨ b ≤ lo) : OffS t w' lo hi v xs := by
  rcases h with h | ⟨g, o, m, K, C, pre, h1, h2, ow⟩
  · exact .inl h
  · exact .inr ⟨g, o, m, K, C, pre, h1, h2, ow.touch ht hd⟩
theorem OffS.wide {lo' hi' : Nat} (h : OffS t w lo hi v xs) (hl : lo' ≤ lo) (hh : hi ≤ hi') : OffS t w lo' hi' v xs := by
  rcases h with h | ⟨g, o, m, K, C, pre, h1, h2, ow⟩
  · exact .inl h
  · exact .inr ⟨g, o, m, K, C, pre, h1, h2, ow.wide hl hh⟩
theorem OwnF.off {A : Option Addr} {n C : Nat} (h : OwnF sigF t w lo hi (.slice A n C) xs) (hne : 0 < xs.length) : OffS t w lo hi (.slice A n C) xs := by
  obtain ⟨g, rfl, _⟩ := h.head hne
  have hn := h.num
  subst hn
  exact .inr ⟨g, 0, _, C, C, [], rfl, rfl, by simpa using h⟩
theorem offS_nil (t : TypeId) (w : World) (lo hi : Nat) : OffS t w lo hi (.slice none 0 0) [] := .inl ⟨rfl, rfl⟩
theorem elt_behind {pre xs : List (Bool × Bool)} (k : Nat) : elt sigF (pre ++ xs) (pre.length + k) = elt sigF xs k := by
  simp [elt, List.getElem?_append_right]
theorem OffS.rd {a : Option Addr} {n c : Nat} (h : OffS t w lo hi (.slice a n c) xs) : RdF sigF w a xs := by
  refine ⟨h.len, fun hne => ?_⟩
  rcases h with ⟨_, rfl⟩ | ⟨g, o, m, K, C, pre, h1, h2, ow⟩
  · exact absurd rfl hne
  · injection h1 with h1 _ _
    subst h1
    refine ⟨g, o, rfl, fun i x hx j v hv => ?_⟩
    have hi : i < xs.length := (List.getElem?_eq_some_iff.1 hx).1
    have hlt : pre.length + i < (pre ++ xs).length := by simp; omega
    have he : elt sigF (pre ++ xs) (pre.length + i) = x := by rw [elt_behind]; simp [elt, hx]
    have := ow.get (k := pre.length + i) (j := j) (u := v) hlt (by rw [he]; exact hv)
    rw [show (pre.length + i) * sigF.sz + j = o + i * sigF.sz + j by rw [h2]; show (pre.length + i) * 2 + j = pre.length * 2 + i * 2 + j; omega] at this
    exact this
end

set_option maxHeartbeats 1000000 in
theorem markSignalS_off (t : TypeId) (lo hi : Nat) (A : Option Addr) (C : Nat) (k : Int) (xs : List (Bool × Bool)) (w : World) (ho : OffS t w lo hi (.slice A xs.length C) xs) (h0 : 0 ≤ k) (h1 : k ≤ 1000000000000) :
    Calls Try.prog 55 #[.slice A xs.length C, .int .i64 k] w fun e w' => e = .returned (.int .i64 (k + 2 * (xs.length : Int))) ∧
      OffS t w' lo hi (.slice A xs.length C) (seqS k xs.length) ∧ Touch lo hi w w' := by
  have hx1 := ho.len
  rcases ho with ⟨hv, rfl⟩ | ⟨g, o, m, K, C', pre, hv, hpo, ow⟩
  · injection hv with ha _ hc
    subst ha hc
    refine (markSignalS_any t lo hi none 0 k [] w (ownF_nil _ _ _ _ _) h0 h1).mono ?_
    rintro e w' ⟨rfl, _, ht⟩
    exact ⟨rfl, .inl ⟨rfl, rfl⟩, ht⟩
  · injection hv with ha _ hc
    subst ha hc
    have HP := Lib.hid hpo
    clear hpo
    go_enter Try.func55, Try.ntmps55
    go_wp2
    go_loopw [1, 5] (fun q i wr => ∃ j : Nat, j ≤ xs.length ∧ i = .int .i64 j ∧ q = .int .i64 (k + 2 * (j : Int)) ∧ OwnF sigF t wr lo hi (.slice (some ⟨g, 0, none⟩) m K) (pre ++ mrkF (fun j : Nat => (m3 (k + 2 * (j : Int)), m3 (k + 2 * (j : Int) + 1))) xs j) ∧ Touch lo hi w wr) (fun _ i _ => xs.length - (intOf i).toNat)
    case atStart => exact ⟨0, Nat.zero_le _, rfl, by go_num, by rw [mrkF_zero]; exact ow, Touch.refl _ _ _⟩
    case round =>
      obtain ⟨j, hj, rfl, rfl, hown, htou⟩ := hrel
      clear ow
      by_cases hlt : j < xs.length
      · have hln : (pre ++ mrkF (fun j : Nat => (m3 (k + 2 * (j : Int)), m3 (k + 2 * (j : Int) + 1))) xs j).length = pre.length + xs.length := by rw [List.length_append, mrkF_len hj]
        obtain ⟨hg1, hg2, hg3⟩ := hown.blk
        have eo : (pre.length + j) * 2 = o + j * 2 := by rw [HP.out]; omega
        obtain ⟨g0, g1⟩ := hown.getS (k := pre.length + j) (by omega)
        have f0 := hown.thaw (o + j * 2)
        have f1 := hown.thaw (o + j * 2 + 1)
        obtain ⟨r0, hr0, hb0, _, _⟩ := m3_name (k + 2 * (j : Int))
        obtain ⟨r1, hr1, hb1, _, _⟩ := m3_name (k + 2 * (j : Int) + 1)
        have HQ := hown.putS (k := pre.length + j) (by omega) (m3 (k + 2 * (j : Int)), m3 (k + 2 * (j : Int) + 1))
        rw [List.set_append_right _ _ (Nat.le_add_right _ _), Nat.add_sub_cancel_left, mrkF_set (f := fun j : Nat => (m3 (k + 2 * (j : Int)), m3 (k + 2 * (j : Int) + 1))) hlt] at HQ
        rw [eo] at g0 g1 HQ
        replace HQ := Lib.hid HQ
        clear eo
        go_wp2
        go_roundw
        case rel => exact ⟨j + 1, by omega, by go_num, by first | go_num | (congr 1; omega), HQ.out, ((htou.setCell hg1 hg2 _).setCell hg1 hg2 _)⟩
        case measure => (simp [intOf]) <;> omega
      · obtain rfl : j = xs.length := by omega
        rw [mrkF_all] at hown
        go_wp2
        go_ret
        exact ⟨rfl, .inr ⟨g, o, m, K, C, pre, by rw [seqS_len], HP.out, hown⟩, htou⟩
end Go.Proofs.Ytmdngcoccekdgaa
