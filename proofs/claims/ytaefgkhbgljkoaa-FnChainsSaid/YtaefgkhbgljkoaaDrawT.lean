/-
  Some train, some chain out of some bytes: spec.l04Draw, l04DrawChain, A2Train, A2Chain.
-/
import Derived.Test.YtaefgkhbgljkoaaSrc
import Derived.Test.YtaefgkhbgljkoaaTrainT
import Derived.Test.YtaefgkhbgljkoaaDrawM
import Derived.Deep.Cut
namespace Go.Proofs.Ytaefgkhbgljkoaa
open Go.RowKit


theorem Touch.then_ {a b lo hi : Nat} {w w1 w2 : World} (h : Touch a b w w1) (k : Touch lo hi w1 w2) (hl : w.heap.size ≤ lo) : Touch a b w w2 :=
  ⟨k.os.trans h.os, k.tape.trans h.tape, k.output.trans h.output, Nat.le_trans h.size k.size, fun i hi ho => (k.block i (by have := h.size; omega) (.inl (by omega))).trans (h.block i hi ho)⟩

set_option maxHeartbeats 4000000 in
theorem draw_any (g : Nat) (w : World) (h : Src w g 0) :
    Calls Try.prog 57 #[.pointer (some ⟨g, 0, none⟩), .int .i64 3] w fun e w' => ∃ xs A C, e = .returned (.slice A (List.length xs) C) ∧ Drawn xs ∧
      OwnF pairF 76 w' w.heap.size w'.heap.size (.slice A xs.length C) xs ∧ Touch g (g + 1) w w' := by
  have hg := h.lt
  obtain ⟨u, hu⟩ : ∃ u, u = w.alloc (.cells #[] 76) := ⟨_, rfl⟩
  have hsu : u.heap.size = w.heap.size + 1 := by rw [hu]; simp
  have tu : Touch g (g + 1) w u := by rw [hu]; exact (Touch.refl _ _ _).alloc _
  have ow0 : OwnF pairF 76 u w.heap.size u.heap.size (.slice (some ⟨w.heap.size, 0, none⟩) 0 0) [] := by
    rw [hsu, hu]
    exact ownF_of_row (n := 0) (by simpa [flat] using row_new 76 2 w #[] 0 (by simp) (by omega)) rfl (by simp)
  have hs0 : Src u g 0 := by
    rw [hu]
    exact h.lo (L := w.heap.size) (by repeat (first | exact Below.refl _ _ | refine Below.setCell ?_ (by first | omega | (simp <;> omega)) _ | refine Below.alloc ?_ (by first | omega | (simp <;> omega)) _ | refine Below.drew ?_)) hg
  have HU := Lib.hid hu
  clear hu h
  go_enter Try.func57, Try.ntmps57
  go_wp2_with fail
  rw [← HU.out]
  refine (pick_any g 0 3 u hs0 (by omega) (by omega)).mono ?_
  rintro e w1 ⟨z, rfl, z0, z1, hs1, ht1⟩
  have own1 := ow0.touch ht1 (.inr (by omega))
  have hl1 := ht1.size
  have v1 : IntKind.i64.wrap (1 + z) = 1 + z := fits_int _ (by omega) (by omega)
  obtain ⟨j0, hj0⟩ : ∃ j : Nat, 1 + z = j := ⟨(1 + z).toNat, by omega⟩
  have hj1 : 1 ≤ j0 ∧ j0 ≤ 3 := by omega
  have HJ := Lib.hid hj0
  clear hj0 z0 z1
  go_wp2_with fail
  rw [HJ.out]
  go_loopw [5, 6, 7] (fun o i _ wr => ∃ (j : Nat) (xs : List (Int × Int)) (A : Option Addr) (C : Nat), j + xs.length ≤ 3 ∧ 1 ≤ j + xs.length ∧ i = .int .i64 (j : Nat) ∧ o = .slice A xs.length C ∧ (∀ x ∈ xs, 2 ≤ x.1 ∧ x.1 ≤ 31 ∧ 2 ≤ x.2 ∧ x.2 ≤ 31) ∧
    OwnF pairF 76 wr w.heap.size wr.heap.size (.slice A xs.length C) xs ∧ Src wr g (2 + 4 * xs.length) ∧ Touch g (g + 1) w wr) (fun _ i _ _ => (intOf i).toNat)
  case atStart =>
    exact ⟨j0, [], some ⟨w.heap.size, 0, none⟩, 0, by simp; omega, by simp; omega, by go_num, rfl, by simp, own1.wide (Nat.le_refl _) hl1, hs1, tu.trans ht1⟩
  case round =>
    obtain ⟨j, xs, A, C, hj, hj2, hi, ho, hall, own, hsrc, ht⟩ := hrel
    subst hi ho
    have hsz := ht.size
    cases j with
    | zero =>
      go_wp2_with fail
      exact bodyPost_ret (v := .slice A xs.length C) (by simp [results, Try.results57, go_sem]) rfl ⟨xs, A, C, rfl, ⟨by omega, by omega, hall⟩, own, ht⟩
    | succ j =>
      have hpos : (0 : Int) < ((j + 1 : Nat) : Int) := by omega
      go_wp2_with fail
      refine (pick_any g _ 30 _ hsrc (by omega) (by omega)).mono ?_
      rintro e w2 ⟨z, rfl, z0, z1, hs2, ht2⟩
      have v2 : IntKind.i64.wrap (2 + z) = 2 + z := fits_int _ (by omega) (by omega)
      go_wp2_with fail
      refine (pick_any g _ 30 _ hs2 (by omega) (by omega)).mono ?_
      rintro e w3 ⟨y, rfl, y0, y1, hs3, ht3⟩
      have v3 : IntKind.i64.wrap (2 + y) = 2 + y := fits_int _ (by omega) (by omega)
      have hl2 := ht2.size
      have hl3 := ht3.size
      have own3 := (own.touch ht2 (.inr (by omega))).touch ht3 (.inr (by omega))
      have ht4 := (ht.trans ht2).trans ht3
      have hl4 := ht4.size
      have hnew : ∀ i u, (flat pairF [(2 + z, 2 + y)])[i]? = some u → (w3.alloc (.cells #[.int .i64 (2 + z), .int .i64 (2 + y)] 76)).cell? ((⟨w3.heap.size, 0, none⟩ : Addr).add i) = some u := by
        intro i u hu
        have hbx := Bx.new w3 #[.int .i64 (2 + z), .int .i64 (2 + y)] 76
        match i, hu with
        | 0, hu => simp [flat, pairF] at hu; subst hu; exact hbx.at_ 0 rfl
        | 1, hu => simp [flat, pairF] at hu; subst hu; exact hbx.at_ 1 rfl
      have hX := Lib.hid (show ∀ x ∈ xs ++ [(2 + z, 2 + y)], 2 ≤ x.1 ∧ x.1 ≤ 31 ∧ 2 ≤ x.2 ∧ x.2 ≤ 31 by
        intro x hx
        rcases List.mem_append.1 hx with hx | hx
        · exact hall x hx
        · simp at hx; subst hx; simp; omega)
      clear z0 z1 y0 y1 hall
      go_wp2_with (at_builtin; go_must (refine wpList_appR rfl (.tmp 20) (.tmp 26) 24 76 rfl (.agg #[.int .i64 0, .int .i64 0]) 2 16 Try.underlying24 info_GearPair rfl (by omega) (by omega) rfl ((own3.row).alloc _) ⟨w3.heap.size, 0, none⟩ 1 1 (flat pairF [(2 + z, 2 + y)]) rfl rfl hnew flat_mem (by omega) (by simp <;> omega) ?_); intro A' C' w5 row5 ht5)
      have ht6 := (ht4.alloc (.cells #[.int .i64 (2 + z), .int .i64 (2 + y)] 76)).then_ ht5 (Nat.le_refl _)
      have hs6 := ((hs3.touch ((Touch.refl w3.heap.size w3.heap.size w3).alloc (.cells #[.int .i64 (2 + z), .int .i64 (2 + y)] 76)) (by omega)).touch ht5 hg).mono (M := 2 + 4 * (xs ++ [(2 + z, 2 + y)]).length) (by simp <;> omega)
      have ow5 : OwnF pairF 76 w5 w.heap.size w5.heap.size (.slice A' (xs.length + 1) C') (xs ++ [(2 + z, 2 + y)]) := ⟨by rw [flat_append, List.length_append]; exact row5, by simp; omega⟩
      go_roundw
      case rel => exact ⟨j, xs ++ [(2 + z, 2 + y)], A', C', by simp; omega, by simp; omega, by go_num, by simp, hX.out, by simpa using ow5, hs6, ht6⟩
      case measure => (simp [intOf]) <;> omega

theorem a2Train_any (a : Option Addr) (zs : List Int) (c : Nat) (w : World) (h : RdU w a zs) :
    Calls Try.prog 18 #[.slice a zs.length c] w fun e w' => ∃ xs A C, e = .returned (.slice A (List.length xs) C) ∧ Drawn xs ∧
      OwnF pairF 76 w' w.heap.size w'.heap.size (.slice A xs.length C) xs ∧ Below w.heap.size w w' := by
  go_enter Try.func18, Try.ntmps18
  go_wp2_with fail
  refine (from_any a zs c w h).mono ?_
  rintro e w1 ⟨g, rfl, hg, hs, hb1⟩
  have hl := hb1.size
  go_wp2_with fail
  refine (draw_any g w1 hs).mono ?_
  rintro e w2 ⟨xs, A, C, rfl, hd, own, ht⟩
  have hl2 := ht.size
  go_wp2_with fail
  exact bodyPost_ret (v := .slice A xs.length C) (by simp [results, Try.results18, go_sem]) rfl ⟨xs, A, C, rfl, hd, own.wide hl (Nat.le_refl _), hb1.trans (ht.below hg hl)⟩
end Go.Proofs.Ytaefgkhbgljkoaa
