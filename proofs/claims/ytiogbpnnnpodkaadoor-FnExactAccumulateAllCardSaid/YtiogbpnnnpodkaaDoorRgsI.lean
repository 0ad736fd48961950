/-
  impl: the register that shows a number.
-/
import Derived.Test.YtiogbpnnnpodkaaDoorShnI
namespace Go.Proofs.YtiogbpnnnpodkaaDoor
open Go.RowKit

/-- A register of its own. -/
def RegVI (B : Int) (zs : List Int) (w : World) (e : Ending) (w' : World) : Prop := ∃ A C,
  e = .returned (.agg #[.int .i64 B, .slice A zs.length C]) ∧ Own 2 w' w.heap.size w'.heap.size (.slice A zs.length C) zs ∧ Below w.heap.size w w'

set_option maxRecDepth 100000 in
set_option maxHeartbeats 8000000 in
theorem register_any (B n x : Int) (w : World) (h : fullB B n = true) :
    Calls Tryd.prog 71 #[.agg #[.int .i64 B, .int .i64 n, .int .i64 (cntA B n)], .int .i64 x] w (RegVI B (setA B n x) w) := by
  have R := Tryd.results71
  have hbel : Below w.heap.size w w := Below.refl _ _
  obtain ⟨h1, h2, n1, n2, h5⟩ := fullB_spec h
  have hc := cntA_bd h
  have hm := modA_bd h x
  have HM := Lib.hid (fun w => modulo_any x (cntA B n) w (by omega) (by omega))
  have HN : Hid (∀ v : World, Calls Tryd.prog 120 #[.int .i64 B, .int .i64 n, .int .i64 (x % cntA B n)] v fun e w' => ∃ A C,
      e = .returned (.tuple #[.agg #[.int .i64 B, .slice A (setA B n x).length C], .int .i64 0]) ∧ Own 2 w' v.heap.size w'.heap.size (.slice A (setA B n x).length C) (setA B n x) ∧ Below v.heap.size v w') := Lib.hid fun v => by
    have := implNewRegister B n (x % cntA B n) v (i64_of (by omega) (by omega)) (i64_of (by omega) (by omega)) (i64_of (by omega) (by omega))
    unfold NewRegPost at this
    rw [nrR_set h] at this
    exact this
  obtain ⟨q, hq⟩ : ∃ q, q = x % cntA B n := ⟨_, rfl⟩
  rw [← hq] at HM HN
  obtain ⟨c, hcc⟩ : ∃ c, c = cntA B n := ⟨_, rfl⟩
  rw [← hcc] at HM ⊢
  clear hq hcc h5 h hm hc
  go_enter Tryd.func71, Tryd.ntmps71
  go_upto_region 1 with fail
  have hsu0 : ((w.alloc (.cells #[.int .i64 B, .int .i64 n, .int .i64 c] 81)).alloc (.cells #[.int .i64 0, .slice none 0 0] 24)).heap.size = w.heap.size + 2 := by simp
  obtain ⟨p, hp⟩ : ∃ g, g = w.heap.size := ⟨_, rfl⟩
  have hk_p : w.heap.size ≤ p := Nat.le_of_eq hp.symm
  obtain ⟨u, hu⟩ : ∃ V, V = (w.alloc (.cells #[.int .i64 B, .int .i64 n, .int .i64 c] 81)).alloc (.cells #[.int .i64 0, .slice none 0 0] 24) := ⟨_, rfl⟩
  have b_p : Bx u p 81 #[.int .i64 B, .int .i64 n, .int .i64 c] := by rw [hu, hp]; exact (Bx.new _ _ _).alloc _
  have b_p1 : Bx u (p + 1) 24 #[.int .i64 0, .slice none 0 0] := by rw [hu, hp]; simpa using Bx.new (w.alloc (.cells #[.int .i64 B, .int .i64 n, .int .i64 c] 81)) #[.int .i64 0, .slice none 0 0] 24
  have hb : Below w.heap.size w u := by rw [hu]; exact ((Below.refl _ _).alloc (Nat.le_refl _) _).alloc (by simp) _
  rw [← hp, ← hu]
  clear hu hp
  replace hbel := hbel.trans (hb.mono hbel.size)
  clear hb
  have hsu : w.heap.size + 2 ≤ u.heap.size := by have := b_p1.lt; omega
  have hpu : p + 1 < u.heap.size := b_p1.lt
  clear hsu0
  have k0 := kept_all (b_p.at_ 0 rfl)
  have k1 := kept_all (b_p.at_ 1 rfl)
  have k2 := kept_all (b_p.at_ 2 rfl)
  have hS : Below u.heap.size u u.drew := (Below.refl _ _).drew
  refine wp_region_marked (fun w' => Below u.heap.size u w') 14 (by kernel_rfl) ?_
  refine wpAnyM_take (i := 0) (v := ?_) rfl (by kernel_rfl) (by kernel_rfl) (by kernel_rfl) (by kernel_rfl) (by kernel_rfl) (fun _ _ _ h => h) hS (.inl ⟨by rfl, ?_⟩) ?_
  rotate_left 1
  · intro w' hS'; go_simp; try with_reducible rfl
  simp only [Act.put, List.setIfInBounds_toArray, List.set_cons_succ, List.set_cons_zero, List.getElem_toArray, List.getElem_cons_zero]
  refine wpAnyM_take (i := 1) (v := ?_) rfl (by kernel_rfl) (by kernel_rfl) (by kernel_rfl) (by kernel_rfl) (by kernel_rfl) (fun _ _ _ h => h) hS (.inl ⟨by rfl, ?_⟩) ?_
  rotate_left 1
  · intro w' hS'; go_simp; try with_reducible rfl
  simp only [Act.put, List.setIfInBounds_toArray, List.set_cons_succ, List.set_cons_zero, List.getElem_toArray, List.getElem_cons_succ, List.getElem_cons_zero]
  refine wpAnyM_take (i := 2) (v := ?_) rfl (by kernel_rfl) (by kernel_rfl) (by kernel_rfl) (by kernel_rfl) (by kernel_rfl) (fun _ _ _ h => h) hS (.inl ⟨by rfl, ?_⟩) ?_
  rotate_left 1
  · intro w' hS'; go_simp; try with_reducible rfl
  simp only [Act.put, List.setIfInBounds_toArray, List.set_cons_succ, List.set_cons_zero, List.getElem_toArray, List.getElem_cons_succ, List.getElem_cons_zero]
  refine wpAnyM_take (i := 3) (v := ?_) rfl (by kernel_rfl) (by kernel_rfl) (by kernel_rfl) (by kernel_rfl) (by kernel_rfl) (fun _ _ _ h => h) hS (.inl ⟨by rfl, ?_⟩) ?_
  rotate_left 1
  · intro w' hS'; go_simp; try with_reducible rfl
  simp only [Act.put, List.setIfInBounds_toArray, List.set_cons_succ, List.set_cons_zero, List.getElem_toArray, List.getElem_cons_succ, List.getElem_cons_zero]
  refine wpAnyM_take (i := 4) (v := ?_) rfl (by kernel_rfl) (by kernel_rfl) (by kernel_rfl) (by kernel_rfl) (by kernel_rfl) (fun _ _ _ h => h) hS (.inl ⟨by rfl, ?_⟩) ?_
  rotate_left 1
  · intro w' hS'; go_simp; try with_reducible rfl
  simp only [Act.put, List.setIfInBounds_toArray, List.set_cons_succ, List.set_cons_zero, List.getElem_toArray, List.getElem_cons_succ, List.getElem_cons_zero]
  refine wpAnyM_take (i := 5) (v := ?_) rfl (by kernel_rfl) (by kernel_rfl) (by kernel_rfl) (by kernel_rfl) (by kernel_rfl) (fun _ _ _ h => h) hS (.inl ⟨by rfl, ?_⟩) ?_
  rotate_left 1
  · intro w' hS'; go_simp; try with_reducible rfl
  simp only [Act.put, List.setIfInBounds_toArray, List.set_cons_succ, List.set_cons_zero, List.getElem_toArray, List.getElem_cons_succ, List.getElem_cons_zero]
  refine wpAnyM_take (i := 6) (v := ?_) rfl (by kernel_rfl) (by kernel_rfl) (by kernel_rfl) (by kernel_rfl) (by kernel_rfl) (fun _ _ _ h => h) hS (.inl ⟨by rfl, ?_⟩) ?_
  rotate_left 1
  · intro w' hS'; go_simp; try with_reducible rfl
  simp only [Act.put, List.setIfInBounds_toArray, List.set_cons_succ, List.set_cons_zero, List.getElem_toArray, List.getElem_cons_succ, List.getElem_cons_zero]
  refine wpAnyM_two (i := 7) (j := 12) (by kernel_rfl) rfl rfl (by rfl) (by rfl) (fun K hK => ?_) (fun K hK => ?_)
  · go_simp
    refine (HM.out _).mono ?_
    rintro e X ⟨rfl, hX⟩
    subst X
    refine hK _ _ (.inr hS) ?_
    try simp only [Act.put, List.setIfInBounds_toArray, List.set_cons_succ, List.set_cons_zero, List.getElem_toArray, List.getElem_cons_succ, List.getElem_cons_zero]
    clear hK K
    refine wpAnyM_two (i := 8) (j := 12) (by kernel_rfl) rfl rfl (by rfl) (by rfl) (fun K hK => ?_) (fun K hK => ?_)
    · go_simp
      refine (HN.out u.drew).mono ?_
      rintro e M ⟨A, C, rfl, own, hb⟩
      have hlo := hS.size
      replace hS : Below u.heap.size u M := hS.trans (hb.mono (by simp))
      refine hK _ _ (.inr hS) ?_
      try simp only [Act.put, List.setIfInBounds_toArray, List.set_cons_succ, List.set_cons_zero, List.getElem_toArray, List.getElem_cons_succ, List.getElem_cons_zero]
      clear hK K
      refine wpAnyM_take (i := 9) (v := ?_) rfl (by kernel_rfl) (by kernel_rfl) (by kernel_rfl) (by kernel_rfl) (by kernel_rfl) (fun _ _ _ h => h) hS (.inl ⟨by rfl, ?_⟩) ?_
      rotate_left 1
      · intro w' hS'; go_simp; try with_reducible rfl
      simp only [Act.put, List.setIfInBounds_toArray, List.set_cons_succ, List.set_cons_zero, List.getElem_toArray, List.getElem_cons_succ, List.getElem_cons_zero]
      refine wpAnyM_take (i := 10) (v := ?_) rfl (by kernel_rfl) (by kernel_rfl) (by kernel_rfl) (by kernel_rfl) (by kernel_rfl) (fun _ _ _ h => h) hS (.inl ⟨by rfl, ?_⟩) ?_
      rotate_left 1
      · intro w' hS'; go_simp; try with_reducible rfl
      simp only [Act.put, List.setIfInBounds_toArray, List.set_cons_succ, List.set_cons_zero, List.getElem_toArray, List.getElem_cons_succ, List.getElem_cons_zero]
      refine wpAnyM_take (i := 11) (v := ?_) rfl (by kernel_rfl) (by kernel_rfl) (by kernel_rfl) (by kernel_rfl) (by kernel_rfl) (fun _ _ _ h => h) hS (.inl ⟨by rfl, ?_⟩) ?_
      rotate_left 1
      · intro w' hS'; go_simp; try with_reducible rfl
      simp only [Act.put, List.setIfInBounds_toArray, List.set_cons_succ, List.set_cons_zero, List.getElem_toArray, List.getElem_cons_succ, List.getElem_cons_zero]
      refine wpAnyM_one (i := 12) (by kernel_rfl) rfl (by rfl) (fun K hK => ?_)
      go_simp
      have b5 : Bx (M.alloc (.cells #[.int .i64 0, .slice none 0 0] 24)) M.heap.size 24 #[.int .i64 0, .slice none 0 0] := Bx.new _ _ _
      have hsM : u.heap.size ≤ M.heap.size := hS.size
      replace hS := hS.alloc hsM (.cells #[.int .i64 0, .slice none 0 0] 24)
      obtain ⟨N, hN⟩ : ∃ N, N = M.alloc (.cells #[.int .i64 0, .slice none 0 0] 24) := ⟨_, rfl⟩
      obtain ⟨g, hg⟩ : ∃ g, g = M.heap.size := ⟨_, rfl⟩
      obtain ⟨lo, hlo2⟩ : ∃ lo, lo = u.heap.size := ⟨_, rfl⟩
      obtain ⟨hi, hhi⟩ : ∃ hi, hi = M.heap.size := ⟨_, rfl⟩
      replace own : Own 2 N lo hi (.slice A (setA B n x).length C) (setA B n x) := by rw [hN, hlo2, hhi]; simpa using own.alloc _
      have hgo : lo ≤ g ∧ hi ≤ g := by omega
      rw [← hN] at hS b5 ⊢
      rw [← hg] at b5 ⊢
      have hlw : w.heap.size + 2 ≤ lo := by rw [hlo2]; exact hsu
      have hlu : u.heap.size ≤ lo := by omega
      have hhN : hi ≤ N.heap.size := by rw [hN, hhi]; simp
      have hgu : u.heap.size ≤ g := by omega
      clear hN hg hlo2 hhi
      refine hK _ _ (.inr hS) ?_
      try simp only [Act.put, List.setIfInBounds_toArray, List.set_cons_succ, List.set_cons_zero, List.getElem_toArray, List.getElem_cons_succ, List.getElem_cons_zero]
      clear hK K
      have hg5 := b5.lt
      have hg6 := b5.thaw 0
      have hg7 := b5.thaw 1
      have hg8 := b5.at_ 0 rfl
      have hg9 := b5.at_ 1 rfl
      refine wpAnyM_one (i := 13) (by kernel_rfl) rfl (by rfl) (fun K hK => ?_)
      go_simp
      refine hK _ _ (.inr ((hS.setCell (p := ⟨g, 0, none⟩) (by simp <;> omega) _).setCell (p := ⟨g, 1, none⟩) (by simp <;> omega) _)) ?_
      try simp only [Act.put, List.setIfInBounds_toArray, List.set_cons_succ, List.set_cons_zero, List.getElem_toArray, List.getElem_cons_succ, List.getElem_cons_zero]
      clear hK K
      refine wpAnyM_one (i := 14) (by kernel_rfl) rfl (by rfl) (fun K hK => ?_)
      go_simp
      refine hK _ _ (.inl rfl) ?_
      clear hK K
      refine wpAnyM_done (by kernel_rfl) ?_ _
      try simp only [Act.put, List.setIfInBounds_toArray, List.set_cons_succ, List.set_cons_zero, List.getElem_toArray, List.getElem_cons_succ, List.getElem_cons_zero]
      replace b_p1 := b_p1.below hS
      replace hbel : Below w.heap.size w N := hbel.trans (hS.mono hbel.size)
      have r0 := b_p1.at_ 0 rfl
      have r1 := b_p1.at_ 1 rfl
      have f0 := b_p1.thaw 0
      have f1 := b_p1.thaw 1
      have hl := b_p1.lt
      have hne : ¬ p + 1 = g := by omega
      have hne2 : ¬ g = p + 1 := fun h => hne h.symm
      have hbs := hbel.size
      have og : g < lo ∨ hi ≤ g := by omega
      have op : p + 1 < lo ∨ hi ≤ p + 1 := .inl (by omega)
      go_wp2
      exact bodyPost_ret (v := .agg #[.int .i64 B, .slice A (setA B n x).length C]) (by simp [results, go_sem, r0, r1]) rfl
        ⟨A, C, rfl, (show Own 2 _ lo hi (.slice A (setA B n x).length C) (setA B n x) from (((own.setCell (p := ⟨g, 0, none⟩) og _).setCell (p := ⟨g, 1, none⟩) og _).setCell (p := ⟨p + 1, 0, none⟩) op _).setCell (p := ⟨p + 1, 1, none⟩) op _).wide (by omega) (by simp; omega), (by repeat (first | with_reducible exact hbel | with_reducible refine Below.setCell ?_ (by first | omega | (simp <;> omega)) _ | with_reducible refine Below.alloc ?_ (by first | omega | (simp <;> omega)) _ | with_reducible refine Below.drew ?_))⟩
    · go_simp
      obtain ⟨g, hg⟩ : ∃ g, g = u.heap.size := ⟨_, rfl⟩
      obtain ⟨V, hV⟩ : ∃ V, V = (u.alloc (.cells #[.int .i64 0, .slice none 0 0] 24)).drew := ⟨_, rfl⟩
      have b5 : Bx V g 24 #[.int .i64 0, .slice none 0 0] := by rw [hV, hg]; exact (Bx.new u _ _).drew
      replace hS : Below u.heap.size u V := by rw [hV]; exact ((Below.refl _ _).alloc (Nat.le_refl _) _).drew
      first | rw [← hV] | skip
      first | rw [← hg] | skip
      have hgu : u.heap.size ≤ g := by omega
      have hgV : g + 1 ≤ V.heap.size := by rw [hV, hg]; simp
      clear hV hg
      refine hK _ _ (.inr hS) ?_
      try simp only [Act.put, List.setIfInBounds_toArray, List.set_cons_succ, List.set_cons_zero, List.getElem_toArray, List.getElem_cons_succ, List.getElem_cons_zero]
      clear hK K
      refine wpAnyM_one (i := 8) (by kernel_rfl) rfl (by rfl) (fun K hK => ?_)
      go_simp
      refine (HN.out V).mono ?_
      rintro e M ⟨A, C, rfl, own, hb⟩
      have hlo := hS.size
      replace b5 := b5.below hb
      replace hS : Below u.heap.size u M := hS.trans (hb.mono hS.size)
      obtain ⟨lo, hlo2⟩ : ∃ lo, lo = V.heap.size := ⟨_, rfl⟩
      obtain ⟨hi, hhi⟩ : ∃ hi, hi = M.heap.size := ⟨_, rfl⟩
      rw [← hlo2, ← hhi] at own
      have hgo : g < lo := by omega
      have hlw : w.heap.size + 2 ≤ lo := by omega
      have hlu : u.heap.size ≤ lo := by omega
      have hhN : hi ≤ M.heap.size := by omega
      clear hlo2 hhi
      refine hK _ _ (.inr hS) ?_
      try simp only [Act.put, List.setIfInBounds_toArray, List.set_cons_succ, List.set_cons_zero, List.getElem_toArray, List.getElem_cons_succ, List.getElem_cons_zero]
      clear hK K
      refine wpAnyM_take (i := 9) (v := ?_) rfl (by kernel_rfl) (by kernel_rfl) (by kernel_rfl) (by kernel_rfl) (by kernel_rfl) (fun _ _ _ h => h) hS (.inl ⟨by rfl, ?_⟩) ?_
      rotate_left 1
      · intro w' hS'; go_simp; try with_reducible rfl
      simp only [Act.put, List.setIfInBounds_toArray, List.set_cons_succ, List.set_cons_zero, List.getElem_toArray, List.getElem_cons_succ, List.getElem_cons_zero]
      refine wpAnyM_take (i := 10) (v := ?_) rfl (by kernel_rfl) (by kernel_rfl) (by kernel_rfl) (by kernel_rfl) (by kernel_rfl) (fun _ _ _ h => h) hS (.inl ⟨by rfl, ?_⟩) ?_
      rotate_left 1
      · intro w' hS'; go_simp; try with_reducible rfl
      simp only [Act.put, List.setIfInBounds_toArray, List.set_cons_succ, List.set_cons_zero, List.getElem_toArray, List.getElem_cons_succ, List.getElem_cons_zero]
      refine wpAnyM_take (i := 11) (v := ?_) rfl (by kernel_rfl) (by kernel_rfl) (by kernel_rfl) (by kernel_rfl) (by kernel_rfl) (fun _ _ _ h => h) hS (.inl ⟨by rfl, ?_⟩) ?_
      rotate_left 1
      · intro w' hS'; go_simp; try with_reducible rfl
      simp only [Act.put, List.setIfInBounds_toArray, List.set_cons_succ, List.set_cons_zero, List.getElem_toArray, List.getElem_cons_succ, List.getElem_cons_zero]
      have hg5 := b5.lt
      have hg6 := b5.thaw 0
      have hg7 := b5.thaw 1
      have hg8 := b5.at_ 0 rfl
      have hg9 := b5.at_ 1 rfl
      refine wpAnyM_one (i := 13) (by kernel_rfl) rfl (by rfl) (fun K hK => ?_)
      go_simp
      refine hK _ _ (.inr ((hS.setCell (p := ⟨g, 0, none⟩) (by simp <;> omega) _).setCell (p := ⟨g, 1, none⟩) (by simp <;> omega) _)) ?_
      try simp only [Act.put, List.setIfInBounds_toArray, List.set_cons_succ, List.set_cons_zero, List.getElem_toArray, List.getElem_cons_succ, List.getElem_cons_zero]
      clear hK K
      refine wpAnyM_one (i := 14) (by kernel_rfl) rfl (by rfl) (fun K hK => ?_)
      go_simp
      refine hK _ _ (.inl rfl) ?_
      clear hK K
      refine wpAnyM_done (by kernel_rfl) ?_ _
      try simp only [Act.put, List.setIfInBounds_toArray, List.set_cons_succ, List.set_cons_zero, List.getElem_toArray, List.getElem_cons_succ, List.getElem_cons_zero]
      replace b_p1 := b_p1.below hS
      replace hbel : Below w.heap.size w M := hbel.trans (hS.mono hbel.size)
      have r0 := b_p1.at_ 0 rfl
      have r1 := b_p1.at_ 1 rfl
      have f0 := b_p1.thaw 0
      have f1 := b_p1.thaw 1
      have hl := b_p1.lt
      have hne : ¬ p + 1 = g := by omega
      have hne2 : ¬ g = p + 1 := fun h => hne h.symm
      have hbs := hbel.size
      have og : g < lo ∨ hi ≤ g := by omega
      have op : p + 1 < lo ∨ hi ≤ p + 1 := .inl (by omega)
      go_wp2
      exact bodyPost_ret (v := .agg #[.int .i64 B, .slice A (setA B n x).length C]) (by simp [results, go_sem, r0, r1]) rfl
        ⟨A, C, rfl, (show Own 2 _ lo hi (.slice A (setA B n x).length C) (setA B n x) from (((own.setCell (p := ⟨g, 0, none⟩) og _).setCell (p := ⟨g, 1, none⟩) og _).setCell (p := ⟨p + 1, 0, none⟩) op _).setCell (p := ⟨p + 1, 1, none⟩) op _).wide (by omega) (by simp; omega), (by repeat (first | with_reducible exact hbel | with_reducible refine Below.setCell ?_ (by first | omega | (simp <;> omega)) _ | with_reducible refine Below.alloc ?_ (by first | omega | (simp <;> omega)) _ | with_reducible refine Below.drew ?_))⟩
  · go_simp
    obtain ⟨g, hg⟩ : ∃ g, g = u.heap.size := ⟨_, rfl⟩
    obtain ⟨V, hV⟩ : ∃ V, V = (u.alloc (.cells #[.int .i64 0, .slice none 0 0] 24)).drew := ⟨_, rfl⟩
    have b5 : Bx V g 24 #[.int .i64 0, .slice none 0 0] := by rw [hV, hg]; exact (Bx.new u _ _).drew
    replace hS : Below u.heap.size u V := by rw [hV]; exact ((Below.refl _ _).alloc (Nat.le_refl _) _).drew
    first | rw [← hV] | skip
    first | rw [← hg] | skip
    have hgu : u.heap.size ≤ g := by omega
    have hgV : g + 1 ≤ V.heap.size := by rw [hV, hg]; simp
    clear hV hg
    refine hK _ _ (.inr hS) ?_
    try simp only [Act.put, List.setIfInBounds_toArray, List.set_cons_succ, List.set_cons_zero, List.getElem_toArray, List.getElem_cons_succ, List.getElem_cons_zero]
    clear hK K
    refine wpAnyM_one (i := 7) (by kernel_rfl) rfl (by rfl) (fun K hK => ?_)
    go_simp
    refine (HM.out _).mono ?_
    rintro e X ⟨rfl, hX⟩
    subst X
    refine hK _ _ (.inr hS) ?_
    try simp only [Act.put, List.setIfInBounds_toArray, List.set_cons_succ, List.set_cons_zero, List.getElem_toArray, List.getElem_cons_succ, List.getElem_cons_zero]
    clear hK K
    refine wpAnyM_one (i := 8) (by kernel_rfl) rfl (by rfl) (fun K hK => ?_)
    go_simp
    refine (HN.out V).mono ?_
    rintro e M ⟨A, C, rfl, own, hb⟩
    have hlo := hS.size
    replace b5 := b5.below hb
    replace hS : Below u.heap.size u M := hS.trans (hb.mono hS.size)
    obtain ⟨lo, hlo2⟩ : ∃ lo, lo = V.heap.size := ⟨_, rfl⟩
    obtain ⟨hi, hhi⟩ : ∃ hi, hi = M.heap.size := ⟨_, rfl⟩
    rw [← hlo2, ← hhi] at own
    have hgo : g < lo := by omega
    have hlw : w.heap.size + 2 ≤ lo := by omega
    have hlu : u.heap.size ≤ lo := by omega
    have hhN : hi ≤ M.heap.size := by omega
    clear hlo2 hhi
    refine hK _ _ (.inr hS) ?_
    try simp only [Act.put, List.setIfInBounds_toArray, List.set_cons_succ, List.set_cons_zero, List.getElem_toArray, List.getElem_cons_succ, List.getElem_cons_zero]
    clear hK K
    refine wpAnyM_take (i := 9) (v := ?_) rfl (by kernel_rfl) (by kernel_rfl) (by kernel_rfl) (by kernel_rfl) (by kernel_rfl) (fun _ _ _ h => h) hS (.inl ⟨by rfl, ?_⟩) ?_
    rotate_left 1
    · intro w' hS'; go_simp; try with_reducible rfl
    simp only [Act.put, List.setIfInBounds_toArray, List.set_cons_succ, List.set_cons_zero, List.getElem_toArray, List.getElem_cons_succ, List.getElem_cons_zero]
    refine wpAnyM_take (i := 10) (v := ?_) rfl (by kernel_rfl) (by kernel_rfl) (by kernel_rfl) (by kernel_rfl) (by kernel_rfl) (fun _ _ _ h => h) hS (.inl ⟨by rfl, ?_⟩) ?_
    rotate_left 1
    · intro w' hS'; go_simp; try with_reducible rfl
    simp only [Act.put, List.setIfInBounds_toArray, List.set_cons_succ, List.set_cons_zero, List.getElem_toArray, List.getElem_cons_succ, List.getElem_cons_zero]
    refine wpAnyM_take (i := 11) (v := ?_) rfl (by kernel_rfl) (by kernel_rfl) (by kernel_rfl) (by kernel_rfl) (by kernel_rfl) (fun _ _ _ h => h) hS (.inl ⟨by rfl, ?_⟩) ?_
    rotate_left 1
    · intro w' hS'; go_simp; try with_reducible rfl
    simp only [Act.put, List.setIfInBounds_toArray, List.set_cons_succ, List.set_cons_zero, List.getElem_toArray, List.getElem_cons_succ, List.getElem_cons_zero]
    have hg5 := b5.lt
    have hg6 := b5.thaw 0
    have hg7 := b5.thaw 1
    have hg8 := b5.at_ 0 rfl
    have hg9 := b5.at_ 1 rfl
    refine wpAnyM_one (i := 13) (by kernel_rfl) rfl (by rfl) (fun K hK => ?_)
    go_simp
    refine hK _ _ (.inr ((hS.setCell (p := ⟨g, 0, none⟩) (by simp <;> omega) _).setCell (p := ⟨g, 1, none⟩) (by simp <;> omega) _)) ?_
    try simp only [Act.put, List.setIfInBounds_toArray, List.set_cons_succ, List.set_cons_zero, List.getElem_toArray, List.getElem_cons_succ, List.getElem_cons_zero]
    clear hK K
    refine wpAnyM_one (i := 14) (by kernel_rfl) rfl (by rfl) (fun K hK => ?_)
    go_simp
    refine hK _ _ (.inl rfl) ?_
    clear hK K
    refine wpAnyM_done (by kernel_rfl) ?_ _
    try simp only [Act.put, List.setIfInBounds_toArray, List.set_cons_succ, List.set_cons_zero, List.getElem_toArray, List.getElem_cons_succ, List.getElem_cons_zero]
    replace b_p1 := b_p1.below hS
    replace hbel : Below w.heap.size w M := hbel.trans (hS.mono hbel.size)
    have r0 := b_p1.at_ 0 rfl
    have r1 := b_p1.at_ 1 rfl
    have f0 := b_p1.thaw 0
    have f1 := b_p1.thaw 1
    have hl := b_p1.lt
    have hne : ¬ p + 1 = g := by omega
    have hne2 : ¬ g = p + 1 := fun h => hne h.symm
    have hbs := hbel.size
    have og : g < lo ∨ hi ≤ g := by omega
    have op : p + 1 < lo ∨ hi ≤ p + 1 := .inl (by omega)
    go_wp2
    exact bodyPost_ret (v := .agg #[.int .i64 B, .slice A (setA B n x).length C]) (by simp [results, go_sem, r0, r1]) rfl
      ⟨A, C, rfl, (show Own 2 _ lo hi (.slice A (setA B n x).length C) (setA B n x) from (((own.setCell (p := ⟨g, 0, none⟩) og _).setCell (p := ⟨g, 1, none⟩) og _).setCell (p := ⟨p + 1, 0, none⟩) op _).setCell (p := ⟨p + 1, 1, none⟩) op _).wide (by omega) (by simp; omega), (by repeat (first | with_reducible exact hbel | with_reducible refine Below.setCell ?_ (by first | omega | (simp <;> omega)) _ | with_reducible refine Below.alloc ?_ (by first | omega | (simp <;> omega)) _ | with_reducible refine Below.drew ?_))⟩
end Go.Proofs.YtiogbpnnnpodkaaDoor
