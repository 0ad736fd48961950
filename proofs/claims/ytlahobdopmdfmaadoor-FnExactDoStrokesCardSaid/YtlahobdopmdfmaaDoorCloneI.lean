/-
  Copies of numbers: slices.Clone, spec.l00Own; spec.l00Max, l00Min.
-/
import Derived.Test.YtlahobdopmdfmaaDoorRow
import Derived.Test.YtlahobdopmdfmaaDoorApp
import Derived.Test.YtlahobdopmdfmaaDoorToI
import Derived.Lib.SliceRun
namespace Go.Proofs.YtlahobdopmdfmaaDoor
open Go.RowKit

theorem rd_news {w : World} {b off : Nat} {zs : List Int} (h : Rd w (some ⟨b, off, none⟩) zs) : ∀ j u, (zs.map (Value.int .i64))[j]? = some u → w.cell? ((⟨b, off, none⟩ : Addr).add j) = some u := by
  intro j u hj
  rw [List.getElem?_map] at hj
  have hlt : j < zs.length := by
    rcases Nat.lt_or_ge j zs.length with h1 | h1
    · exact h1
    · rw [List.getElem?_eq_none h1] at hj; cases hj
  rw [List.getElem?_eq_getElem hlt, Option.map_some] at hj
  injection hj with hj
  subst hj
  obtain ⟨b', off', e, hc⟩ := h.cells (by rintro rfl; simp at hlt)
  injection e with e
  injection e with e1 e2 _
  subst e1 e2
  have := hc j hlt
  rw [nth_get hlt] at this
  have ea : (⟨b, off, none⟩ : Addr).add j = ⟨b, off + j, none⟩ := by
    by_cases h0 : j = 0
    · subst h0; rfl
    · simp [Addr.add, h0]
  rw [ea]; exact this

set_option maxHeartbeats 1000000 in
theorem clone_any (a : Option Addr) (c : Nat) (zs : List Int) (w : World) (ha : Rd w a zs) (hne : 0 < zs.length) :
    Calls Tryd.prog 173 #[.slice a zs.length c] w fun e w' => ∃ A C, e = .returned (.slice A zs.length C) ∧ Own 2 w' w.heap.size w'.heap.size (.slice A zs.length C) zs ∧ Below w.heap.size w w' := by
  have hx := ha.len
  obtain ⟨b, off, rfl, _⟩ := ha.cells (by rintro rfl; simp at hne)
  obtain ⟨u, hu⟩ : ∃ u, u = w.alloc (.cells #[] 2) := ⟨_, rfl⟩
  have hbel : Below w.heap.size w u := by rw [hu]; exact (by repeat (first | exact Below.refl _ _ | refine Below.setCell ?_ (by first | omega | (simp <;> omega)) _ | refine Below.alloc ?_ (by first | omega | (simp <;> omega)) _ | refine Below.drew ?_))
  have hrow : Row 2 1 u w.heap.size (w.heap.size + 1) (.slice (some ⟨w.heap.size, 0, none⟩) 0 0) 0 [] := by
    rw [hu]; simpa using row_new 2 1 w #[] 0 (by simp) (by omega)
  have hus : u.heap.size = w.heap.size + 1 := by rw [hu]; simp
  have hnew := rd_news (ha.below hbel)
  have hone : ∀ v ∈ zs.map (Value.int .i64), v.oneCell' = true := by intro v hv; obtain ⟨x, _, rfl⟩ := List.mem_map.1 hv; rfl
  have hnl := fun (w : World) => Lib.run_eql_slice_nil (P := Tryd.prog) w 24 2 (some ⟨b, off, none⟩) zs.length c 0 0 Tryd.underlying24
  have HU := Lib.hid hu
  clear hu
  go_enter Tryd.func173, Tryd.ntmps173
  go_wp2_with (at_builtin; rw [← HU.out]; refine wpList_appR rfl (.tmp 5) (.tmp 6) 24 2 rfl (.int .i64 0) 1 8 Tryd.underlying24 info_int64 rfl (by omega) (by omega) rfl hrow ⟨b, off, none⟩ zs.length c (zs.map (Value.int .i64)) rfl (by simp) hnew hone (by omega) (by omega) ?_; intro A' C' w1 hrow1 ht)
  have ow : Own 2 w1 w.heap.size w1.heap.size (.slice A' zs.length C') zs := own_of_row (n := zs.length) (by simpa using hrow1) rfl hx
  go_ret
  exact ⟨A', C', by simp, ow, hbel.trans (ht.below (by omega) (by omega))⟩

set_option maxHeartbeats 1000000 in
theorem l00Own_any (a : Option Addr) (c : Nat) (zs : List Int) (w : World) (ha : Rd w a zs) (hne : 0 < zs.length) :
    Calls Tryd.prog 169 #[.slice a zs.length c] w fun e w' => ∃ A C, e = .returned (.slice A zs.length C) ∧ Own 2 w' w.heap.size w'.heap.size (.slice A zs.length C) zs ∧ Below w.heap.size w w' := by
  have hx := ha.len
  obtain ⟨b, off, rfl, _⟩ := ha.cells (by rintro rfl; simp at hne)
  obtain ⟨u, hu⟩ : ∃ u, u = w.alloc (.cells #[] 2) := ⟨_, rfl⟩
  have hbel : Below w.heap.size w u := by rw [hu]; exact (by repeat (first | exact Below.refl _ _ | refine Below.setCell ?_ (by first | omega | (simp <;> omega)) _ | refine Below.alloc ?_ (by first | omega | (simp <;> omega)) _ | refine Below.drew ?_))
  have hrow : Row 2 1 u w.heap.size (w.heap.size + 1) (.slice (some ⟨w.heap.size, 0, none⟩) 0 0) 0 [] := by
    rw [hu]; simpa using row_new 2 1 w #[] 0 (by simp) (by omega)
  have hus : u.heap.size = w.heap.size + 1 := by rw [hu]; simp
  have hnew := rd_news (ha.below hbel)
  have hone : ∀ v ∈ zs.map (Value.int .i64), v.oneCell' = true := by intro v hv; obtain ⟨x, _, rfl⟩ := List.mem_map.1 hv; rfl
  have HU := Lib.hid hu
  clear hu
  go_enter Tryd.func169, Tryd.ntmps169
  go_wp2_with (at_builtin; rw [← HU.out]; refine wpList_appR rfl (.tmp 3) (.tmp 4) 24 2 rfl (.int .i64 0) 1 8 Tryd.underlying24 info_int64 rfl (by omega) (by omega) rfl hrow ⟨b, off, none⟩ zs.length c (zs.map (Value.int .i64)) rfl (by simp) hnew hone (by omega) (by omega) ?_; intro A' C' w1 hrow1 ht)
  have ow : Own 2 w1 w.heap.size w1.heap.size (.slice A' zs.length C') zs := own_of_row (n := zs.length) (by simpa using hrow1) rfl hx
  go_ret
  exact ⟨A', C', by simp, ow, hbel.trans (ht.below (by omega) (by omega))⟩

end Go.Proofs.YtlahobdopmdfmaaDoor
