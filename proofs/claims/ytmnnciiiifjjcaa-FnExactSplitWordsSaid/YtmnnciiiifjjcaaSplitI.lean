/-
  impl.SplitWords.
-/
import Derived.Test.YtmnnciiiifjjcaaSplitF
import Derived.Test.YtmnnciiiifjjcaaSplitS
import Derived.Test.YtmnnciiiifjjcaaShFf
namespace Go.Proofs.Ytmnnciiiifjjcaa
open Go.RowKit Go.Shelf

theorem isBlank_any (x : Nat) (w : World) (hx : x ≤ 1114111) : Calls Try.prog 93 #[.int .i32 (x : Nat)] w fun e w' => e = .returned (.bool (decide (x = 32))) ∧ w' = w := by
  by_cases h : x = 32
  · subst h
    go_enter Try.func93, Try.ntmps93
    go_wp2
    go_ret
    exact ⟨rfl, rfl⟩
  · have h1 : ((x : Int) == 32) = false := by simp; omega
    have HV := Lib.hid (show decide (x = 32) = false from decide_eq_false h)
    go_enter Try.func93, Try.ntmps93
    go_wp2
    go_ret
    exact ⟨ret_bool HV.out.symm, rfl⟩

theorem implSplitWords (s : ByteArray) (w : World) (hs : s.size ≤ 1048576) :
    Calls Try.prog 43 #[.string s] w fun e w' => ∃ A C, e = .returned (.slice A (wordsL s).length C) ∧
      OwnF textF 9 w' w.heap.size w'.heap.size (.slice A (wordsL s).length C) (wordsL s) ∧ Below w.heap.size w w' := by
  have hcon := Try.strings_FieldsFunc_runes 93 #[] (enters_of Try.func93 (by kernel_rfl) rfl) (fun x => decide (x = 32)) s w (by omega)
    (fun W x hx _ => (isBlank_any x W hx).mono fun e w' ⟨he, hw⟩ => ⟨he, 0, hw⟩)
  rw [fields_words] at hcon
  have hl : (wordsL s).length ≤ 1000000000 := by
    have h1 := splitL_len s 32
    have h2 : (wordsL s).length ≤ (splitL s 32).length := List.length_filter_le _ _
    omega
  have hflat : flat textF (wordsL s) = (wordsL s).map Value.string := by
    unfold flat
    rw [List.map_eq_flatMap]
    rfl
  go_enter Try.func43, Try.ntmps43
  go_wp2_with fail
  refine hcon.mono ?_
  rintro e w1 ⟨A, rfl, _, row, hb⟩
  have ow : OwnF textF 9 w1 w.heap.size w1.heap.size (.slice (some ⟨A, 0, none⟩) (wordsL s).length (wordsL s).length) (wordsL s) :=
    ownF_row (n := (wordsL s).length) ⟨by rw [hflat]; exact row, fun k hk => (row.lt k hk).2⟩ rfl hl
  go_wp2
  go_ret
  exact ⟨_, _, rfl, ow, hb⟩
end Go.Proofs.Ytmnnciiiifjjcaa
