/-
  Copies of numbers: slices.Clone, spec.l00Own; spec.l00Max, l00Min.
-/
import Derived.Test.YtaefgkhbgljkoaaRow
import Derived.Test.YtaefgkhbgljkoaaApp
import Derived.Test.YtaefgkhbgljkoaaToI
import Derived.Lib.SliceRun
namespace Go.Proofs.Ytaefgkhbgljkoaa
open Go.RowKit

theorem rd_news {w : World} {b off : Nat} {zs : List Int} (h : Rd w (some ⟨b, off, none⟩) zs) : ∀ j u, (zs.map (Value.int .i64))[j]? = some u → w.cell? ((⟨b, off, none⟩ : Addr).add j) = some u := by
  intro j u hj
  rw [List.getElem?_map] at hj
  have hlt : j < zs.length := by
    rcases Nat.lt_or_ge j zs.length with h1 | h1
    · exact h1
    · rw [List.getElem?_eq_none h1] at hj; cases hj
  rw [List.getElem?_eq_getElem hlt, Option.map_some] at hj
  injection hj with hj
  subst hj
  obtain ⟨b', off', e, hc⟩ := h.cells (by rintro rfl; simp at hlt)
  injection e with e
  injection e with e1 e2 _
  subst e1 e2
  have := hc j hlt
  rw [nth_get hlt] at this
  have ea : (⟨b, off, none⟩ : Addr).add j = ⟨b, off + j, none⟩ := by
    by_cases h0 : j = 0
    · subst h0; rfl
    · simp [Addr.add, h0]
  rw [ea]; exact this
theorem own_of_row {t : TypeId} {w : World} {lo hi n : Nat} {v : Value} {zs : List Int} (h : Row t 1 w lo hi v n (zs.map (Value.int .i64))) (hn : n = zs.length) (hl : zs.length ≤ 1000000000) : Own t w lo hi v zs := by
  subst hn; exact ⟨h.row, h.top, hl⟩

set_option maxHeartbeats 1000000 in
theorem clone_any (a : Option Addr) (c : Nat) (zs : List Int) (w : World) (ha : Rd w a zs) (hne : 0 < zs.length) :
    Calls Try.prog 72 #[.slice a zs.length c] w fun e w' => ∃ A C, e = .returned (.slice A zs.length C) ∧ Own 2 w' w.heap.size w'.heap.size (.slice A zs.length C) zs ∧ Below w.heap.size w w' := by
  have hx := ha.len
  obtain ⟨b, off, rfl, _⟩ := ha.cells (by rintro rfl; simp at hne)
  obtain ⟨u, hu⟩ : ∃ u, u = w.alloc (.cells #[] 2) := ⟨_, rfl⟩
  have hbel : Below w.heap.size w u := by rw [hu]; exact (by repeat (first | exact Below.refl _ _ | refine Below.setCell ?_ (by first | omega | (simp <;> omega)) _ | refine Below.alloc ?_ (by first | omega | (simp <;> omega)) _ | refine Below.drew ?_))
  have hrow : Row 2 1 u w.heap.size (w.heap.size + 1) (.slice (some ⟨w.heap.size, 0, none⟩) 0 0) 0 [] := by
    rw [hu]; simpa using row_new 2 1 w #[] 0 (by simp) (by omega)
  have hus : u.heap.size = w.heap.size + 1 := by rw [hu]; simp
  have hnew := rd_news (ha.below hbel)
  have hone : ∀ v ∈ zs.map (Value.int .i64), v.oneCell' = true := by intro v hv; obtain ⟨x, _, rfl⟩ := List.mem_map.1 hv; rfl
  have hnl := fun (w : World) => Lib.run_eql_slice_nil (P := Try.prog) w 39 2 (some ⟨b, off, none⟩) zs.length c 0 0 Try.underlying39
  have HU := Lib.hid hu
  clear hu
  go_enter Try.func72, Try.ntmps72
  go_wp2_with (at_builtin; rw [← HU.out]; refine wpList_appR rfl (.tmp 5) (.tmp 6) 39 2 rfl (.int .i64 0) 1 8 Try.underlying39 info_int64 rfl (by omega) (by omega) rfl hrow ⟨b, off, none⟩ zs.length c (zs.map (Value.int .i64)) rfl (by simp) hnew hone (by omega) (by omega) ?_; intro A' C' w1 hrow1 ht)
  have ow : Own 2 w1 w.heap.size w1.heap.size (.slice A' zs.length C') zs := own_of_row (n := zs.length) (by simpa using hrow1) rfl hx
  go_ret
  exact ⟨A', C', by simp, ow, hbel.trans (ht.below (by omega) (by omega))⟩

set_option maxHeartbeats 1000000 in
theorem l00Own_any (a : Option Addr) (c : Nat) (zs : List Int) (w : World) (ha : Rd w a zs) (hne : 0 < zs.length) :
    Calls Try.prog 88 #[.slice a zs.length c] w fun e w' => ∃ A C, e = .returned (.slice A zs.length C) ∧ Own 2 w' w.heap.size w'.heap.size (.slice A zs.length C) zs ∧ Below w.heap.size w w' := by
  have hx := ha.len
  obtain ⟨b, off, rfl, _⟩ := ha.cells (by rintro rfl; simp at hne)
  obtain ⟨u, hu⟩ : ∃ u, u = w.alloc (.cells #[] 2) := ⟨_, rfl⟩
  have hbel : Below w.heap.size w u := by rw [hu]; exact (by repeat (first | exact Below.refl _ _ | refine Below.setCell ?_ (by first | omega | (simp <;> omega)) _ | refine Below.alloc ?_ (by first | omega | (simp <;> omega)) _ | refine Below.drew ?_))
  have hrow : Row 2 1 u w.heap.size (w.heap.size + 1) (.slice (some ⟨w.heap.size, 0, none⟩) 0 0) 0 [] := by
    rw [hu]; simpa using row_new 2 1 w #[] 0 (by simp) (by omega)
  have hus : u.heap.size = w.heap.size + 1 := by rw [hu]; simp
  have hnew := rd_news (ha.below hbel)
  have hone : ∀ v ∈ zs.map (Value.int .i64), v.oneCell' = true := by intro v hv; obtain ⟨x, _, rfl⟩ := List.mem_map.1 hv; rfl
  have HU := Lib.hid hu
  clear hu
  go_enter Try.func88, Try.ntmps88
  go_wp2_with (at_builtin; rw [← HU.out]; refine wpList_appR rfl (.tmp 3) (.tmp 4) 39 2 rfl (.int .i64 0) 1 8 Try.underlying39 info_int64 rfl (by omega) (by omega) rfl hrow ⟨b, off, none⟩ zs.length c (zs.map (Value.int .i64)) rfl (by simp) hnew hone (by omega) (by omega) ?_; intro A' C' w1 hrow1 ht)
  have ow : Own 2 w1 w.heap.size w1.heap.size (.slice A' zs.length C') zs := own_of_row (n := zs.length) (by simpa using hrow1) rfl hx
  go_ret
  exact ⟨A', C', by simp, ow, hbel.trans (ht.below (by omega) (by omega))⟩

theorem l00Max_any (a b : Int) (w : World) : Calls Try.prog 89 #[.int .i64 a, .int .i64 b] w fun e w' => e = .returned (.int .i64 (max a b)) ∧ w' = w := by
  by_cases h : b < a
  · have H := Lib.hid (show max a b = a by omega)
    go_enter Try.func89, Try.ntmps89
    go_wp2
    go_ret
    exact ⟨ret_int H.out.symm, rfl⟩
  · have H := Lib.hid (show max a b = b by omega)
    go_enter Try.func89, Try.ntmps89
    go_wp2
    go_ret
    exact ⟨ret_int H.out.symm, rfl⟩
theorem l00Min_any (a b : Int) (w : World) : Calls Try.prog 90 #[.int .i64 a, .int .i64 b] w fun e w' => e = .returned (.int .i64 (min a b)) ∧ w' = w := by
  by_cases h : a < b
  · have H := Lib.hid (show min a b = a by omega)
    go_enter Try.func90, Try.ntmps90
    go_wp2
    go_ret
    exact ⟨ret_int H.out.symm, rfl⟩
  · have H := Lib.hid (show min a b = b by omega)
    go_enter Try.func90, Try.ntmps90
    go_wp2
    go_ret
    exact ⟨ret_int H.out.symm, rfl⟩
end Go.Proofs.Ytaefgkhbgljkoaa
