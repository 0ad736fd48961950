/-
  spec.l01Split, SplitWords.
-/
import Derived.Test.YtgfopieojpjddaaDoorSplitM
import Derived.Test.YtgfopieojpjddaaDoorStrS
import Derived.Test.YtgfopieojpjddaaDoorInS
import Derived.Deep.Cut
namespace Go.Proofs.YtgfopieojpjddaaDoor
open Go.RowKit

theorem news_text (w : World) (x : ByteArray) (e : TypeId) : ∀ i u, (flat textF [x])[i]? = some u → (w.alloc (.cells #[.string x] e)).cell? ((⟨w.heap.size, 0, none⟩ : Addr).add i) = some u := by
  intro i u hu
  match i, hu with
  | 0, hu => simp [flat, textF] at hu; subst hu; exact cell_new1 w _ _

set_option maxHeartbeats 4000000 in
theorem l01Split_any (s : ByteArray) (c : UInt8) (w : World) (hs : s.size ≤ 1048576) :
    Calls Tryd.prog 74 #[.string s, .int .u8 (c.toNat : Int)] w fun e w' => ∃ A C, e = .returned (.slice A (splitL s c).length C) ∧
      OwnF textF 9 w' w.heap.size w'.heap.size (.slice A (splitL s c).length C) (splitL s c) ∧ Below w.heap.size w w' := by
  obtain ⟨u, hu⟩ : ∃ u, u = w.alloc (.cells #[] 9) := ⟨_, rfl⟩
  have hbu : Below w.heap.size w u := by rw [hu]; exact (by repeat (first | exact Below.refl _ _ | refine Below.setCell ?_ (by first | omega | (simp <;> omega)) _ | refine Below.alloc ?_ (by first | omega | (simp <;> omega)) _ | refine Below.drew ?_))
  have hsu : u.heap.size = w.heap.size + 1 := by rw [hu]; simp
  have ow0 : OwnF textF 9 u w.heap.size u.heap.size (.slice (some ⟨w.heap.size, 0, none⟩) 0 0) [] := by
    rw [hsu, hu]
    exact ownF_row (n := 0) (row_new 9 1 w #[] 0 (by simp) (by omega)) rfl (by simp)
  have HU := Lib.hid hu
  clear hu
  have hL := splitL_len s c
  have HL := Lib.hid (show ([] : List ByteArray) ++ splitGo s c (s.size - 0) 0 0 = splitL s c from rfl)
  have HLL := Lib.hid hL
  clear hL
  go_enter Tryd.func74, Tryd.ntmps74
  go_wp2_with fail
  rw [← HU.out]
  go_loopw [5, 6, 7] (fun o f i wr => ∃ (k g : Nat) (acc : List ByteArray) (A : Option Addr) (C : Nat), k ≤ s.size ∧ g ≤ k ∧ acc.length ≤ k ∧ i = .int .i64 (k : Nat) ∧ f = .int .i64 (g : Nat) ∧ o = .slice A acc.length C ∧ Hid (acc ++ splitGo s c (s.size - k) k g = splitL s c) ∧
    OwnF textF 9 wr w.heap.size wr.heap.size (.slice A acc.length C) acc ∧ Below w.heap.size w wr) (fun _ _ i _ => s.size - (intOf i).toNat)
  case atStart => exact ⟨0, 0, [], some ⟨w.heap.size, 0, none⟩, 0, Nat.zero_le _, Nat.le_refl _, by simp, rfl, rfl, rfl, HL, ow0, hbu⟩
  case round =>
    clear ow0 hbu HL
    obtain ⟨k, g, acc, A, C, hk, hg, hl, rfl, rfl, rfl, HS, ow, hbel⟩ := hrel
    have hsz := hbel.size
    by_cases hlt : k < s.size
    · have hb := byteAt_get hlt
      have hn : s.size - k = (s.size - (k + 1)) + 1 := by omega
      by_cases hc : byteAt s k = c
      · have hbe : ((s[k]'hlt).toNat : Int) = (c.toNat : Int) := by rw [hb, hc]
        have HS2 : Hid ((acc ++ [s.extract g k]) ++ splitGo s c (s.size - (k + 1)) (k + 1) (k + 1) = splitL s c) := Lib.hid (by
          have := HS.out
          rw [hn, splitGo_hit hc] at this
          rw [← this]; simp)
        clear hb hn hc HS
        go_wp2_with (at_builtin; go_must (refine wpList_appR rfl (.tmp 20) (.tmp 25) 22 9 rfl (.string ByteArray.empty) 1 16 Tryd.underlying22 info_string rfl (by omega) (by omega) rfl ((ow.row).alloc _) ⟨wr.heap.size, 0, none⟩ 1 1 (flat textF [s.extract g k]) rfl rfl (news_text wr _ _) flat_mem (by omega) (by simp <;> omega) ?_); intro A' C' w5 row5 ht5)
        have ow5 : OwnF textF 9 w5 w.heap.size w5.heap.size (.slice A' (acc ++ [s.extract g k]).length C') (acc ++ [s.extract g k]) := ownF_row (n := acc.length + 1) (by rw [flat_append, List.length_append]; exact row5) (by simp) (by simp; omega)
        have hb5 : Below w.heap.size w w5 := (hbel.alloc hsz _).trans (ht5.below (Nat.le_refl _) (by simp; omega))
        go_roundw
        case rel => exact ⟨k + 1, k + 1, acc ++ [s.extract g k], A', C', by omega, Nat.le_refl _, by simp; omega, by go_num, by go_num, by simp, HS2, ow5, hb5⟩
        case measure => (simp [intOf]) <;> omega
      · have hbe : ¬ (((s[k]'hlt).toNat : Int) = (c.toNat : Int)) := by
          rw [hb]
          intro e
          exact hc (UInt8.toNat_inj.1 (by omega))
        have HS2 : Hid (acc ++ splitGo s c (s.size - (k + 1)) (k + 1) g = splitL s c) := Lib.hid (by
          have := HS.out
          rwa [hn, splitGo_miss hc] at this)
        clear hb hn hc HS
        go_wp2_with fail
        go_roundw
        case rel => exact ⟨k + 1, g, acc, A, C, by omega, by omega, by omega, by go_num, rfl, rfl, HS2, ow, hbel⟩
        case measure => (simp [intOf]) <;> omega
    · obtain rfl : k = s.size := by omega
      have HS2 : Hid (acc ++ [s.extract g s.size] = splitL s c) := Lib.hid (by
        have := HS.out
        rwa [Nat.sub_self] at this)
      clear HS
      go_wp2_with (at_builtin; go_must (refine wpList_appR rfl (.tmp 29) (.tmp 33) 22 9 rfl (.string ByteArray.empty) 1 16 Tryd.underlying22 info_string rfl (by omega) (by omega) rfl ((ow.row).alloc _) ⟨wr.heap.size, 0, none⟩ 1 1 (flat textF [s.extract g s.size]) rfl rfl (news_text wr _ _) flat_mem (by omega) (by simp <;> omega) ?_); intro A' C' w5 row5 ht5)
      have ow5 : OwnF textF 9 w5 w.heap.size w5.heap.size (.slice A' (acc ++ [s.extract g s.size]).length C') (acc ++ [s.extract g s.size]) := ownF_row (n := acc.length + 1) (by rw [flat_append, List.length_append]; exact row5) (by simp) (by simp; omega)
      have hb5 : Below w.heap.size w w5 := (hbel.alloc hsz _).trans (ht5.below (Nat.le_refl _) (by simp; omega))
      rw [HS2.out] at ow5
      have hlen : acc.length + 1 = (splitL s c).length := by rw [← HS2.out]; simp
      go_ret
      exact ⟨A', C', by rw [← hlen]; rfl, ow5, hb5⟩

/-- The parts that are not empty, among the first k. -/
theorem wordsL_step {xs : List ByteArray} {k : Nat} (hk : k < xs.length) : (xs.take (k + 1)).filter someB = (xs.take k).filter someB ++ (if (elt textF xs k).data.toList = [] then [] else [elt textF xs k]) := by
  rw [takeE_succ (F := textF) hk, List.filter_append]
  congr 1
  by_cases h : (elt textF xs k).data.toList = []
  · have hb : someB (elt textF xs k) = false := decide_eq_false (by simpa using h)
    rw [if_pos h, List.filter_cons, hb]; rfl
  · have hb : someB (elt textF xs k) = true := decide_eq_true h
    rw [if_neg h, List.filter_cons, hb]; rfl

end Go.Proofs.YtgfopieojpjddaaDoor
