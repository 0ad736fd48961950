/-
  impl.digitRow.plus.
-/
import Derived.Test.YtgfpjcckkbhdjaaRegC
namespace Go.Proofs.Ytgfpjcckkbhdjaa
open Go.RowKit

theorem pad_one (n : Nat) : pad (n + 1) [0] = pad (n + 1) [] := by simp [pad, List.replicate_succ]
theorem pad_get {n : Nat} {f : Nat → Int} {k m : Nat} (hm : m ≤ n) (h : k < m) : nth (pad n (tab f m)) k = f k := by
  rw [nth_get (by rw [pad_len (by rw [tab_len]; exact hm)]; omega)]
  unfold pad
  rw [List.getElem_append_left (by rw [tab_len]; exact h)]
  have := tab_nth (f := f) (n := m) (i := k) h
  rwa [nth_get (by rw [tab_len]; exact h)] at this
theorem pad_tab_set {n m : Nat} {f : Nat → Int} (h : m < n) (z : Int) (hz : f m = z) : (pad n (tab f m)).set m z = pad n (tab f (m + 1)) := by
  have := pad_set (n := n) (zs := tab f m) (by rw [tab_len]; exact h) z
  rw [tab_len] at this
  rw [this, tab_succ, hz]
theorem pad_tab_all {n : Nat} {f : Nat → Int} : pad n (tab f n) = tab f n := pad_all (tab_len _ _)
theorem pad_tab_len {n m : Nat} {f : Nat → Int} (h : m ≤ n) : (pad n (tab f m)).length = n := pad_len (by rw [tab_len]; exact h)

end Go.Proofs.Ytgfpjcckkbhdjaa
