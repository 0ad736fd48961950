/-
  Several texts in one: TwA, WiI, WiM, WiR.
-/
import Derived.Test.YtiogbpnnnpodkaaApp
import Derived.Test.YtiogbpnnnpodkaaProg
import Derived.Test.YtiogbpnnnpodkaaOrd
import Derived.Test.YtiogbpnnnpodkaaOrdC
import Derived.Test.YtiogbpnnnpodkaaToI
import Derived.Deep.Cut
import Derived.Test.YtiogbpnnnpodkaaLevM
namespace Go.Proofs.Ytiogbpnnnpodkaa
open Go.RowKit

/-- Two registers of its own, apart from each other, and a code. -/
def TwoAny (R : Int × List Int × Int × List Int × Int) (w : World) (e : Ending) (w' : World) : Prop := ∃ (A : Option Addr) (C : Nat) (D : Option Addr) (E : Nat) (m : (Nat × Nat) × (Nat × Nat)),
  e = .returned (.tuple #[.agg #[.int .i64 R.1, .slice A R.2.1.length C], .agg #[.int .i64 R.2.2.1, .slice D R.2.2.2.1.length E], .int .i64 R.2.2.2.2]) ∧
  Own 2 w' m.1.1 m.1.2 (.slice A R.2.1.length C) R.2.1 ∧ Own 2 w' m.2.1 m.2.2 (.slice D R.2.2.2.1.length E) R.2.2.2.1 ∧ (w.heap.size ≤ m.1.1 ∧ w.heap.size ≤ m.2.1 ∧ m.1.2 ≤ w'.heap.size ∧ m.2.2 ≤ w'.heap.size) ∧ (m.1.2 ≤ m.2.1 ∨ m.2.2 ≤ m.1.1) ∧ Below w.heap.size w w'
theorem twoAny_err {R : Int × List Int × Int × List Int × Int} {c : Int} {w w' : World} {e : Ending} (h : R = (0, [], 0, [], c)) (he : e = .returned (.tuple #[.agg #[.int .i64 0, .slice none 0 0], .agg #[.int .i64 0, .slice none 0 0], .int .i64 c])) (hb : Below w.heap.size w w') : TwoAny R w e w' := by
  subst h
  exact ⟨none, 0, none, 0, ((w.heap.size, w.heap.size), (w.heap.size, w.heap.size)), he, own_nil _ _ _ _, own_nil _ _ _ _, ⟨Nat.le_refl _, Nat.le_refl _, hb.size, hb.size⟩, .inl (Nat.le_refl _), hb⟩
theorem twoAny_ok {R : Int × List Int × Int × List Int × Int} {b : Int} {xs ys : List Int} {w w' : World} {e : Ending} {A D : Option Addr} {C E n k l1 h1 l2 h2 : Nat} (h : R = (b, xs, b, ys, 0)) (hn : xs.length = n) (hk : ys.length = k)
    (he : e = .returned (.tuple #[.agg #[.int .i64 b, .slice A n C], .agg #[.int .i64 b, .slice D k E], .int .i64 0])) (o1 : Own 2 w' l1 h1 (.slice A n C) xs) (o2 : Own 2 w' l2 h2 (.slice D k E) ys)
    (b1 : w.heap.size ≤ l1) (b2 : w.heap.size ≤ l2) (b3 : h1 ≤ w'.heap.size) (b4 : h2 ≤ w'.heap.size) (hd : h1 ≤ l2 ∨ h2 ≤ l1) (hb : Below w.heap.size w w') : TwoAny R w e w' := by
  subst h hn hk
  exact ⟨A, C, D, E, ((l1, h1), (l2, h2)), he, o1, o2, ⟨b1, b2, b3, b4⟩, hd, hb⟩

/-- The witness's digits. -/
def wiA (b : Int) (n : Nat) (k : Int) (l : Nat) : List Int := if k = 1 then (List.replicate n 0).set l (b - 1) else if k = 3 ∧ 0 < l then ((List.replicate n 0).set (l - 1) (b - 1)).set l (b - 1) else List.replicate n 0
def wiB (n : Nat) (k : Int) (l : Nat) : List Int := if k = 1 then (List.replicate n 0).set l 1 else if k = 3 ∧ 0 < l then (List.replicate n 0).set (l - 1) 1 else List.replicate n 0
/-- make([]int64, n), as an operation of a region that draws. -/
theorem wp_makeI {P : Program} {w : World} {o : Oper} {a : Act} {K : Act → World → Prop} {Q : Exit → Act → World → Prop}
    (l c : Operand) (t e : TypeId) (hop : o.op = Op.makeSlice t l c) (h1 : P.underlying t = some (.slice e))
    (hinfo : (P.info? e).map (fun i => (i.zero, i.size, i.bytes)) = some (some (.int .i64 0), 1, 8))
    (n : Nat) (hl : a.eval l = .int .i64 n) (hc : a.eval c = .int .i64 n) (hn : n ≤ 1000000000)
    (hK : ∀ w', Own e w' w.heap.size (w.heap.size + 1) (.slice (some ⟨w.heap.size, 0, none⟩) n n) (pad n []) → Below w.heap.size w w' → K (a.put o.dst (.slice (some ⟨w.heap.size, 0, none⟩) n n)) w') :
    o.wp P a w K Q := by
  obtain ⟨i, hi1, hi2, hi3, hi4⟩ := info_parts hinfo
  obtain ⟨w', hrun, hown, hgr⟩ := run_make_full (P := P) w w.heap.size t e i (.int .i64 0) 1 h1 hi1 hi2 hi3 .i64 .i64 n (by rw [hi4]; omega) (by unfold maxLen; omega) (Nat.le_refl _)
  have hrow : w'.ownsRow w.heap.size e 1 (.slice (some ⟨w.heap.size, 0, none⟩) n n) (pad n []).length ((pad n []).map (Value.int .i64)) := by
    rw [pad_len (by simp)]
    simpa [pad_nil, toList_madeCells_one, Value.cells] using hown
  have hK2 := hK w' ⟨hrow, fun k hk => by simp [Value.ownBlock] at hk; omega, by rw [pad_len (by simp)]; exact hn⟩ ((Below.refl _ _).grown hgr (Nat.le_refl _) (by simp))
  unfold Oper.wp
  simp [execOp, hop, hl, hc, hrun, Result.andThen]
  exact hK2

set_option maxRecDepth 100000 in
set_option maxHeartbeats 4000000 in
theorem witnessDigits_other (b : Int) (n l : Nat) (k : Int) (w : World) (hn : n ≤ 16) (_ : l < n) (hk : ¬ k = 1) (hk3 : ¬ (k = 3 ∧ 0 < l)) :
    Calls Try.prog 48 #[.int .i64 b, .int .i64 n, .agg #[.int .i64 k, .int .i64 l]] w fun e w' => ∃ p q, e = .returned (.tuple #[.slice (some ⟨p, 0, none⟩) n n, .slice (some ⟨q, 0, none⟩) n n]) ∧
      Own 2 w' p (p + 1) (.slice (some ⟨p, 0, none⟩) n n) (wiA b n k l) ∧ Own 2 w' q (q + 1) (.slice (some ⟨q, 0, none⟩) n n) (wiB n k l) ∧ w.heap.size ≤ p ∧ w.heap.size ≤ q ∧ (p < q ∨ q < p) ∧ Below w.heap.size w w' := by
  have HA := Lib.hid (show wiA b n k l = List.replicate n 0 by rw [wiA, if_neg hk, if_neg hk3])
  have HB := Lib.hid (show wiB n k l = List.replicate n 0 by rw [wiB, if_neg hk, if_neg hk3])
  have t1 : (k == 1) = false := by simp [hk]
  obtain ⟨u, hu⟩ : ∃ u, u = w.alloc (.cells #[.int .i64 k, .int .i64 l] 42) := ⟨_, rfl⟩
  have hbel : Below w.heap.size w u := by rw [hu]; exact (Below.refl _ _).alloc (Nat.le_refl _) _
  have bx : Bx u w.heap.size 42 #[.int .i64 k, .int .i64 l] := by rw [hu]; exact Bx.new _ _ _
  have hsz := hbel.size
  have HU := Lib.hid hu
  clear hu
  by_cases h3 : k = 3
  · have t3 : (k == 3) = true := by simp [h3]
    have hd0 : decide (0 < l) = false := decide_eq_false (by omega)
    have hn0 : ¬ 0 < l := by omega
    clear hk hk3 h3
    go_enter Try.func48, Try.ntmps48
    go_upto_region 1 with fail
    rw [← HU.out]
    have hS : Below u.heap.size u u.drew := (Below.refl _ _).drew
    refine wp_region_marked (fun w' => Below u.heap.size u w') 5 (by kernel_rfl) ?_
    refine wpAnyM_takeC (i := 0) (v := ?_) 8 rfl (by kernel_rfl) (by kernel_rfl) (by kernel_rfl) (by kernel_rfl) (by kernel_rfl) (by kernel_rfl) (fun _ _ _ h => h) hS (.inl ⟨by rfl, ?_⟩) ?_
    rotate_left 1
    · intro w' hS'; go_simp; try with_reducible rfl
    simp only [Act.put, List.setIfInBounds_toArray, List.set_cons_succ, List.set_cons_zero, List.getElem_toArray, List.getElem_cons_zero]
    refine wpAnyM_takeC (i := 2) (v := ?_) 8 rfl (by kernel_rfl) (by kernel_rfl) (by kernel_rfl) (by kernel_rfl) (by kernel_rfl) (by kernel_rfl) (fun _ _ _ h => h) hS (.inl ⟨by rfl, ?_⟩) ?_
    rotate_left 1
    · intro w' hS'; go_simp; try with_reducible rfl
    simp only [Act.put, List.setIfInBounds_toArray, List.set_cons_succ, List.set_cons_zero, List.getElem_toArray, List.getElem_cons_succ, List.getElem_cons_zero]
    refine wpAnyM_two (i := 1) (j := 3) (by kernel_rfl) rfl rfl (by rfl) (by rfl) (fun K hK => ?_) (fun K hK => ?_)
    · refine wp_makeI _ _ 74 2 rfl Try.underlying74 info_int64 n rfl rfl (by omega) ?_
      intro M o1 hM
      replace o1 : Own 2 M u.heap.size (u.heap.size + 1) (.slice (some ⟨u.heap.size, 0, none⟩) n n) (pad n []) := by simpa using o1
      replace hS : Below u.heap.size u M := by simpa using hS.trans (hM.mono (by simp))
      have hs1 : u.heap.size + 1 ≤ M.heap.size := by have := o1.block; omega
      clear hM
      simp only [World.size_drew]
      refine hK _ _ (.inr hS) ?_
      try simp only [Act.put, List.setIfInBounds_toArray, List.set_cons_succ, List.set_cons_zero, List.getElem_toArray, List.getElem_cons_succ, List.getElem_cons_zero]
      clear hK K
      refine wpAnyM_takeC (i := 4) (v := ?_) 8 rfl (by kernel_rfl) (by kernel_rfl) (by kernel_rfl) (by kernel_rfl) (by kernel_rfl) (by kernel_rfl) (fun _ _ _ h => h) hS (.inl ⟨by rfl, ?_⟩) ?_
      rotate_left 1
      · intro w' hS'; go_simp; try with_reducible rfl
      simp only [Act.put, List.setIfInBounds_toArray, List.set_cons_succ, List.set_cons_zero, List.getElem_toArray, List.getElem_cons_succ, List.getElem_cons_zero]
      refine wpAnyM_one (i := 3) (by kernel_rfl) rfl (by rfl) (fun K hK => ?_)
      refine wp_makeI _ _ 74 2 rfl Try.underlying74 info_int64 n rfl rfl (by omega) ?_
      intro N o2 hN
      replace o1 := o1.below hN
      replace hS : Below u.heap.size u N := hS.trans (hN.mono hS.size)
      have hs2 : M.heap.size + 1 ≤ N.heap.size := by have := o2.block; omega
      clear hN
      refine hK _ _ (.inr hS) ?_
      try simp only [Act.put, List.setIfInBounds_toArray, List.set_cons_succ, List.set_cons_zero, List.getElem_toArray, List.getElem_cons_succ, List.getElem_cons_zero]
      clear hK K
      refine wpAnyM_one (i := 5) (by kernel_rfl) rfl (by rfl) (fun K hK => ?_)
      go_simp
      refine hK _ _ (.inl rfl) ?_
      clear hK K
      refine wpAnyM_done (by kernel_rfl) ?_ _
      try simp only [Act.put, List.setIfInBounds_toArray, List.set_cons_succ, List.set_cons_zero, List.getElem_toArray, List.getElem_cons_succ, List.getElem_cons_zero]
      have e0 := (bx.below hS).at_ 0 rfl
      have e1 := (bx.below hS).at_ 1 rfl
      replace hbel := hbel.trans (hS.mono hsz)
      go_wp2
      exact bodyPost_ret (v := .tuple #[.slice (some ⟨u.heap.size, 0, none⟩) n n, .slice (some ⟨M.heap.size, 0, none⟩) n n]) (by simp [results, Try.results48, go_sem]) rfl
        ⟨u.heap.size, M.heap.size, rfl, by rw [HA.out]; exact by simpa [pad_nil] using o1, by rw [HB.out]; exact by simpa [pad_nil] using o2, by omega, by omega, by omega, hbel⟩
    · refine wp_makeI _ _ 74 2 rfl Try.underlying74 info_int64 n rfl rfl (by omega) ?_
      intro M o1 hM
      replace o1 : Own 2 M u.heap.size (u.heap.size + 1) (.slice (some ⟨u.heap.size, 0, none⟩) n n) (pad n []) := by simpa using o1
      replace hS : Below u.heap.size u M := by simpa using hS.trans (hM.mono (by simp))
      have hs1 : u.heap.size + 1 ≤ M.heap.size := by have := o1.block; omega
      clear hM
      simp only [World.size_drew]
      refine hK _ _ (.inr hS) ?_
      try simp only [Act.put, List.setIfInBounds_toArray, List.set_cons_succ, List.set_cons_zero, List.getElem_toArray, List.getElem_cons_succ, List.getElem_cons_zero]
      clear hK K
      refine wpAnyM_one (i := 1) (by kernel_rfl) rfl (by rfl) (fun K hK => ?_)
      refine wp_makeI _ _ 74 2 rfl Try.underlying74 info_int64 n rfl rfl (by omega) ?_
      intro N o2 hN
      replace o1 := o1.below hN
      replace hS : Below u.heap.size u N := hS.trans (hN.mono hS.size)
      have hs2 : M.heap.size + 1 ≤ N.heap.size := by have := o2.block; omega
      clear hN
      refine hK _ _ (.inr hS) ?_
      try simp only [Act.put, List.setIfInBounds_toArray, List.set_cons_succ, List.set_cons_zero, List.getElem_toArray, List.getElem_cons_succ, List.getElem_cons_zero]
      clear hK K
      refine wpAnyM_one (i := 4) (by kernel_rfl) rfl (by rfl) (fun K hK => ?_)
      go_simp
      refine hK _ _ (.inr hS) ?_
      try simp only [Act.put, List.setIfInBounds_toArray, List.set_cons_succ, List.set_cons_zero, List.getElem_toArray, List.getElem_cons_succ, List.getElem_cons_zero]
      clear hK K
      refine wpAnyM_one (i := 5) (by kernel_rfl) rfl (by rfl) (fun K hK => ?_)
      go_simp
      refine hK _ _ (.inl rfl) ?_
      clear hK K
      refine wpAnyM_done (by kernel_rfl) ?_ _
      try simp only [Act.put, List.setIfInBounds_toArray, List.set_cons_succ, List.set_cons_zero, List.getElem_toArray, List.getElem_cons_succ, List.getElem_cons_zero]
      have e0 := (bx.below hS).at_ 0 rfl
      have e1 := (bx.below hS).at_ 1 rfl
      replace hbel := hbel.trans (hS.mono hsz)
      go_wp2
      exact bodyPost_ret (v := .tuple #[.slice (some ⟨M.heap.size, 0, none⟩) n n, .slice (some ⟨u.heap.size, 0, none⟩) n n]) (by simp [results, Try.results48, go_sem]) rfl
        ⟨M.heap.size, u.heap.size, rfl, by rw [HA.out]; exact by simpa [pad_nil] using o2, by rw [HB.out]; exact by simpa [pad_nil] using o1, by omega, by omega, by omega, hbel⟩
  · have t3 : (k == 3) = false := by simp [h3]
    clear hk hk3 h3
    go_enter Try.func48, Try.ntmps48
    go_upto_region 1 with fail
    rw [← HU.out]
    have hS : Below u.heap.size u u.drew := (Below.refl _ _).drew
    refine wp_region_marked (fun w' => Below u.heap.size u w') 5 (by kernel_rfl) ?_
    refine wpAnyM_takeC (i := 0) (v := ?_) 8 rfl (by kernel_rfl) (by kernel_rfl) (by kernel_rfl) (by kernel_rfl) (by kernel_rfl) (by kernel_rfl) (fun _ _ _ h => h) hS (.inl ⟨by rfl, ?_⟩) ?_
    rotate_left 1
    · intro w' hS'; go_simp; try with_reducible rfl
    simp only [Act.put, List.setIfInBounds_toArray, List.set_cons_succ, List.set_cons_zero, List.getElem_toArray, List.getElem_cons_zero]
    refine wpAnyM_takeC (i := 2) (v := ?_) 8 rfl (by kernel_rfl) (by kernel_rfl) (by kernel_rfl) (by kernel_rfl) (by kernel_rfl) (by kernel_rfl) (fun _ _ _ h => h) hS (.inl ⟨by rfl, ?_⟩) ?_
    rotate_left 1
    · intro w' hS'; go_simp; try with_reducible rfl
    simp only [Act.put, List.setIfInBounds_toArray, List.set_cons_succ, List.set_cons_zero, List.getElem_toArray, List.getElem_cons_succ, List.getElem_cons_zero]
    refine wpAnyM_two (i := 1) (j := 3) (by kernel_rfl) rfl rfl (by rfl) (by rfl) (fun K hK => ?_) (fun K hK => ?_)
    · refine wp_makeI _ _ 74 2 rfl Try.underlying74 info_int64 n rfl rfl (by omega) ?_
      intro M o1 hM
      replace o1 : Own 2 M u.heap.size (u.heap.size + 1) (.slice (some ⟨u.heap.size, 0, none⟩) n n) (pad n []) := by simpa using o1
      replace hS : Below u.heap.size u M := by simpa using hS.trans (hM.mono (by simp))
      have hs1 : u.heap.size + 1 ≤ M.heap.size := by have := o1.block; omega
      clear hM
      simp only [World.size_drew]
      refine hK _ _ (.inr hS) ?_
      try simp only [Act.put, List.setIfInBounds_toArray, List.set_cons_succ, List.set_cons_zero, List.getElem_toArray, List.getElem_cons_succ, List.getElem_cons_zero]
      clear hK K
      refine wpAnyM_takeC (i := 4) (v := ?_) 8 rfl (by kernel_rfl) (by kernel_rfl) (by kernel_rfl) (by kernel_rfl) (by kernel_rfl) (by kernel_rfl) (fun _ _ _ h => h) hS (.inl ⟨by rfl, ?_⟩) ?_
      rotate_left 1
      · intro w' hS'; go_simp; try with_reducible rfl
      simp only [Act.put, List.setIfInBounds_toArray, List.set_cons_succ, List.set_cons_zero, List.getElem_toArray, List.getElem_cons_succ, List.getElem_cons_zero]
      refine wpAnyM_one (i := 3) (by kernel_rfl) rfl (by rfl) (fun K hK => ?_)
      refine wp_makeI _ _ 74 2 rfl Try.underlying74 info_int64 n rfl rfl (by omega) ?_
      intro N o2 hN
      replace o1 := o1.below hN
      replace hS : Below u.heap.size u N := hS.trans (hN.mono hS.size)
      have hs2 : M.heap.size + 1 ≤ N.heap.size := by have := o2.block; omega
      clear hN
      refine hK _ _ (.inr hS) ?_
      try simp only [Act.put, List.setIfInBounds_toArray, List.set_cons_succ, List.set_cons_zero, List.getElem_toArray, List.getElem_cons_succ, List.getElem_cons_zero]
      clear hK K
      refine wpAnyM_one (i := 5) (by kernel_rfl) rfl (by rfl) (fun K hK => ?_)
      go_simp
      refine hK _ _ (.inl rfl) ?_
      clear hK K
      refine wpAnyM_done (by kernel_rfl) ?_ _
      try simp only [Act.put, List.setIfInBounds_toArray, List.set_cons_succ, List.set_cons_zero, List.getElem_toArray, List.getElem_cons_succ, List.getElem_cons_zero]
      have e0 := (bx.below hS).at_ 0 rfl
      have e1 := (bx.below hS).at_ 1 rfl
      replace hbel := hbel.trans (hS.mono hsz)
      go_wp2
      exact bodyPost_ret (v := .tuple #[.slice (some ⟨u.heap.size, 0, none⟩) n n, .slice (some ⟨M.heap.size, 0, none⟩) n n]) (by simp [results, Try.results48, go_sem]) rfl
        ⟨u.heap.size, M.heap.size, rfl, by rw [HA.out]; exact by simpa [pad_nil] using o1, by rw [HB.out]; exact by simpa [pad_nil] using o2, by omega, by omega, by omega, hbel⟩
    · refine wp_makeI _ _ 74 2 rfl Try.underlying74 info_int64 n rfl rfl (by omega) ?_
      intro M o1 hM
      replace o1 : Own 2 M u.heap.size (u.heap.size + 1) (.slice (some ⟨u.heap.size, 0, none⟩) n n) (pad n []) := by simpa using o1
      replace hS : Below u.heap.size u M := by simpa using hS.trans (hM.mono (by simp))
      have hs1 : u.heap.size + 1 ≤ M.heap.size := by have := o1.block; omega
      clear hM
      simp only [World.size_drew]
      refine hK _ _ (.inr hS) ?_
      try simp only [Act.put, List.setIfInBounds_toArray, List.set_cons_succ, List.set_cons_zero, List.getElem_toArray, List.getElem_cons_succ, List.getElem_cons_zero]
      clear hK K
      refine wpAnyM_one (i := 1) (by kernel_rfl) rfl (by rfl) (fun K hK => ?_)
      refine wp_makeI _ _ 74 2 rfl Try.underlying74 info_int64 n rfl rfl (by omega) ?_
      intro N o2 hN
      replace o1 := o1.below hN
      replace hS : Below u.heap.size u N := hS.trans (hN.mono hS.size)
      have hs2 : M.heap.size + 1 ≤ N.heap.size := by have := o2.block; omega
      clear hN
      refine hK _ _ (.inr hS) ?_
      try simp only [Act.put, List.setIfInBounds_toArray, List.set_cons_succ, List.set_cons_zero, List.getElem_toArray, List.getElem_cons_succ, List.getElem_cons_zero]
      clear hK K
      refine wpAnyM_one (i := 4) (by kernel_rfl) rfl (by rfl) (fun K hK => ?_)
      go_simp
      refine hK _ _ (.inr hS) ?_
      try simp only [Act.put, List.setIfInBounds_toArray, List.set_cons_succ, List.set_cons_zero, List.getElem_toArray, List.getElem_cons_succ, List.getElem_cons_zero]
      clear hK K
      refine wpAnyM_one (i := 5) (by kernel_rfl) rfl (by rfl) (fun K hK => ?_)
      go_simp
      refine hK _ _ (.inl rfl) ?_
      clear hK K
      refine wpAnyM_done (by kernel_rfl) ?_ _
      try simp only [Act.put, List.setIfInBounds_toArray, List.set_cons_succ, List.set_cons_zero, List.getElem_toArray, List.getElem_cons_succ, List.getElem_cons_zero]
      have e0 := (bx.below hS).at_ 0 rfl
      have e1 := (bx.below hS).at_ 1 rfl
      replace hbel := hbel.trans (hS.mono hsz)
      go_wp2
      exact bodyPost_ret (v := .tuple #[.slice (some ⟨M.heap.size, 0, none⟩) n n, .slice (some ⟨u.heap.size, 0, none⟩) n n]) (by simp [results, Try.results48, go_sem]) rfl
        ⟨M.heap.size, u.heap.size, rfl, by rw [HA.out]; exact by simpa [pad_nil] using o2, by rw [HB.out]; exact by simpa [pad_nil] using o1, by omega, by omega, by omega, hbel⟩

set_option maxRecDepth 100000 in
set_option maxHeartbeats 4000000 in
theorem witnessDigits_one (b : Int) (n l : Nat) (w : World) (hb1 : 2 ≤ b) (hb2 : b ≤ 16) (hn : n ≤ 16) (hl : l < n) :
    Calls Try.prog 48 #[.int .i64 b, .int .i64 n, .agg #[.int .i64 1, .int .i64 l]] w fun e w' => ∃ p q, e = .returned (.tuple #[.slice (some ⟨p, 0, none⟩) n n, .slice (some ⟨q, 0, none⟩) n n]) ∧
      Own 2 w' p (p + 1) (.slice (some ⟨p, 0, none⟩) n n) (wiA b n 1 l) ∧ Own 2 w' q (q + 1) (.slice (some ⟨q, 0, none⟩) n n) (wiB n 1 l) ∧ w.heap.size ≤ p ∧ w.heap.size ≤ q ∧ (p < q ∨ q < p) ∧ Below w.heap.size w w' := by
  have HA := Lib.hid (show wiA b n 1 l = (List.replicate n 0).set l (b - 1) by simp [wiA])
  have HB := Lib.hid (show wiB n 1 l = (List.replicate n 0).set l 1 by simp [wiB])
  have hv1 : IntKind.i64.wrap (b - 1) = b - 1 := fits_int _ (by omega) (by omega)
  have hln : (l : Int) < (n : Int) := by omega
  obtain ⟨u, hu⟩ : ∃ u, u = w.alloc (.cells #[.int .i64 1, .int .i64 l] 42) := ⟨_, rfl⟩
  have hbel : Below w.heap.size w u := by rw [hu]; exact (Below.refl _ _).alloc (Nat.le_refl _) _
  have bx : Bx u w.heap.size 42 #[.int .i64 1, .int .i64 l] := by rw [hu]; exact Bx.new _ _ _
  have hsz := hbel.size
  have HU := Lib.hid hu
  clear hu
  go_enter Try.func48, Try.ntmps48
  go_upto_region 1 with fail
  rw [← HU.out]
  have hS : Below u.heap.size u u.drew := (Below.refl _ _).drew
  refine wp_region_marked (fun w' => Below u.heap.size u w') 5 (by kernel_rfl) ?_
  refine wpAnyM_takeC (i := 0) (v := ?_) 8 rfl (by kernel_rfl) (by kernel_rfl) (by kernel_rfl) (by kernel_rfl) (by kernel_rfl) (by kernel_rfl) (fun _ _ _ h => h) hS (.inl ⟨by rfl, ?_⟩) ?_
  rotate_left 1
  · intro w' hS'; go_simp; try with_reducible rfl
  simp only [Act.put, List.setIfInBounds_toArray, List.set_cons_succ, List.set_cons_zero, List.getElem_toArray, List.getElem_cons_zero]
  refine wpAnyM_takeC (i := 2) (v := ?_) 8 rfl (by kernel_rfl) (by kernel_rfl) (by kernel_rfl) (by kernel_rfl) (by kernel_rfl) (by kernel_rfl) (fun _ _ _ h => h) hS (.inl ⟨by rfl, ?_⟩) ?_
  rotate_left 1
  · intro w' hS'; go_simp; try with_reducible rfl
  simp only [Act.put, List.setIfInBounds_toArray, List.set_cons_succ, List.set_cons_zero, List.getElem_toArray, List.getElem_cons_succ, List.getElem_cons_zero]
  refine wpAnyM_two (i := 1) (j := 3) (by kernel_rfl) rfl rfl (by rfl) (by rfl) (fun K hK => ?_) (fun K hK => ?_)
  · refine wp_makeI _ _ 74 2 rfl Try.underlying74 info_int64 n rfl rfl (by omega) ?_
    intro M o1 hM
    replace o1 : Own 2 M u.heap.size (u.heap.size + 1) (.slice (some ⟨u.heap.size, 0, none⟩) n n) (pad n []) := by simpa using o1
    replace hS : Below u.heap.size u M := by simpa using hS.trans (hM.mono (by simp))
    have hs1 : u.heap.size + 1 ≤ M.heap.size := by have := o1.block; omega
    clear hM
    simp only [World.size_drew]
    refine hK _ _ (.inr hS) ?_
    try simp only [Act.put, List.setIfInBounds_toArray, List.set_cons_succ, List.set_cons_zero, List.getElem_toArray, List.getElem_cons_succ, List.getElem_cons_zero]
    clear hK K
    refine wpAnyM_takeC (i := 4) (v := ?_) 8 rfl (by kernel_rfl) (by kernel_rfl) (by kernel_rfl) (by kernel_rfl) (by kernel_rfl) (by kernel_rfl) (fun _ _ _ h => h) hS (.inl ⟨by rfl, ?_⟩) ?_
    rotate_left 1
    · intro w' hS'; go_simp; try with_reducible rfl
    simp only [Act.put, List.setIfInBounds_toArray, List.set_cons_succ, List.set_cons_zero, List.getElem_toArray, List.getElem_cons_succ, List.getElem_cons_zero]
    refine wpAnyM_one (i := 3) (by kernel_rfl) rfl (by rfl) (fun K hK => ?_)
    refine wp_makeI _ _ 74 2 rfl Try.underlying74 info_int64 n rfl rfl (by omega) ?_
    intro N o2 hN
    replace o1 := o1.below hN
    replace hS : Below u.heap.size u N := hS.trans (hN.mono hS.size)
    have hs2 : M.heap.size + 1 ≤ N.heap.size := by have := o2.block; omega
    clear hN
    refine hK _ _ (.inr hS) ?_
    try simp only [Act.put, List.setIfInBounds_toArray, List.set_cons_succ, List.set_cons_zero, List.getElem_toArray, List.getElem_cons_succ, List.getElem_cons_zero]
    clear hK K
    refine wpAnyM_one (i := 5) (by kernel_rfl) rfl (by rfl) (fun K hK => ?_)
    go_simp
    refine hK _ _ (.inl rfl) ?_
    clear hK K
    refine wpAnyM_done (by kernel_rfl) ?_ _
    try simp only [Act.put, List.setIfInBounds_toArray, List.set_cons_succ, List.set_cons_zero, List.getElem_toArray, List.getElem_cons_succ, List.getElem_cons_zero]
    have e0 := (bx.below hS).at_ 0 rfl
    have e1 := (bx.below hS).at_ 1 rfl
    replace hbel := hbel.trans (hS.mono hsz)
    have cx := o1.get (j := l) (by rw [pad_len (by simp)]; omega)
    have fx := o1.thaw l
    have cy := o2.get (j := l) (by rw [pad_len (by simp)]; omega)
    have fy := o2.thaw l
    have ne1 : ¬ u.heap.size = M.heap.size := by omega
    have ne2 : ¬ M.heap.size = u.heap.size := by omega
    go_wp2
    exact bodyPost_ret (v := .tuple #[.slice (some ⟨u.heap.size, 0, none⟩) n n, .slice (some ⟨M.heap.size, 0, none⟩) n n]) (by simp [results, Try.results48, go_sem]) rfl
      ⟨u.heap.size, M.heap.size, rfl, by rw [HA.out]; exact by simpa [pad_nil] using (o1.put l (b - 1)).setCell (p := ⟨M.heap.size, l, none⟩) (by simp; omega) (.int .i64 1), by rw [HB.out]; exact by simpa [pad_nil] using (o2.setCell (p := ⟨u.heap.size, l, none⟩) (by simp; omega) (.int .i64 (b - 1))).put l 1, by omega, by omega, by omega, (hbel.setCell (by simp; omega) _).setCell (by simp; omega) _⟩
  · refine wp_makeI _ _ 74 2 rfl Try.underlying74 info_int64 n rfl rfl (by omega) ?_
    intro M o1 hM
    replace o1 : Own 2 M u.heap.size (u.heap.size + 1) (.slice (some ⟨u.heap.size, 0, none⟩) n n) (pad n []) := by simpa using o1
    replace hS : Below u.heap.size u M := by simpa using hS.trans (hM.mono (by simp))
    have hs1 : u.heap.size + 1 ≤ M.heap.size := by have := o1.block; omega
    clear hM
    simp only [World.size_drew]
    refine hK _ _ (.inr hS) ?_
    try simp only [Act.put, List.setIfInBounds_toArray, List.set_cons_succ, List.set_cons_zero, List.getElem_toArray, List.getElem_cons_succ, List.getElem_cons_zero]
    clear hK K
    refine wpAnyM_one (i := 1) (by kernel_rfl) rfl (by rfl) (fun K hK => ?_)
    refine wp_makeI _ _ 74 2 rfl Try.underlying74 info_int64 n rfl rfl (by omega) ?_
    intro N o2 hN
    replace o1 := o1.below hN
    replace hS : Below u.heap.size u N := hS.trans (hN.mono hS.size)
    have hs2 : M.heap.size + 1 ≤ N.heap.size := by have := o2.block; omega
    clear hN
    refine hK _ _ (.inr hS) ?_
    try simp only [Act.put, List.setIfInBounds_toArray, List.set_cons_succ, List.set_cons_zero, List.getElem_toArray, List.getElem_cons_succ, List.getElem_cons_zero]
    clear hK K
    refine wpAnyM_one (i := 4) (by kernel_rfl) rfl (by rfl) (fun K hK => ?_)
    go_simp
    refine hK _ _ (.inr hS) ?_
    try simp only [Act.put, List.setIfInBounds_toArray, List.set_cons_succ, List.set_cons_zero, List.getElem_toArray, List.getElem_cons_succ, List.getElem_cons_zero]
    clear hK K
    refine wpAnyM_one (i := 5) (by kernel_rfl) rfl (by rfl) (fun K hK => ?_)
    go_simp
    refine hK _ _ (.inl rfl) ?_
    clear hK K
    refine wpAnyM_done (by kernel_rfl) ?_ _
    try simp only [Act.put, List.setIfInBounds_toArray, List.set_cons_succ, List.set_cons_zero, List.getElem_toArray, List.getElem_cons_succ, List.getElem_cons_zero]
    have e0 := (bx.below hS).at_ 0 rfl
    have e1 := (bx.below hS).at_ 1 rfl
    replace hbel := hbel.trans (hS.mono hsz)
    have cx := o2.get (j := l) (by rw [pad_len (by simp)]; omega)
    have fx := o2.thaw l
    have cy := o1.get (j := l) (by rw [pad_len (by simp)]; omega)
    have fy := o1.thaw l
    have ne1 : ¬ u.heap.size = M.heap.size := by omega
    have ne2 : ¬ M.heap.size = u.heap.size := by omega
    go_wp2
    exact bodyPost_ret (v := .tuple #[.slice (some ⟨M.heap.size, 0, none⟩) n n, .slice (some ⟨u.heap.size, 0, none⟩) n n]) (by simp [results, Try.results48, go_sem]) rfl
      ⟨M.heap.size, u.heap.size, rfl, by rw [HA.out]; exact by simpa [pad_nil] using (o2.put l (b - 1)).setCell (p := ⟨u.heap.size, l, none⟩) (by simp; omega) (.int .i64 1), by rw [HB.out]; exact by simpa [pad_nil] using (o1.setCell (p := ⟨M.heap.size, l, none⟩) (by simp; omega) (.int .i64 (b - 1))).put l 1, by omega, by omega, by omega, (hbel.setCell (by simp; omega) _).setCell (by simp; omega) _⟩

set_option maxRecDepth 100000 in
set_option maxHeartbeats 4000000 in
theorem witnessDigits_three (b : Int) (n l : Nat) (w : World) (hb1 : 2 ≤ b) (hb2 : b ≤ 16) (hn : n ≤ 16) (hl : l < n) (h0 : 0 < l) :
    Calls Try.prog 48 #[.int .i64 b, .int .i64 n, .agg #[.int .i64 3, .int .i64 l]] w fun e w' => ∃ p q, e = .returned (.tuple #[.slice (some ⟨p, 0, none⟩) n n, .slice (some ⟨q, 0, none⟩) n n]) ∧
      Own 2 w' p (p + 1) (.slice (some ⟨p, 0, none⟩) n n) (wiA b n 3 l) ∧ Own 2 w' q (q + 1) (.slice (some ⟨q, 0, none⟩) n n) (wiB n 3 l) ∧ w.heap.size ≤ p ∧ w.heap.size ≤ q ∧ (p < q ∨ q < p) ∧ Below w.heap.size w w' := by
  obtain ⟨j, hj⟩ : ∃ j, j = l - 1 := ⟨_, rfl⟩
  have HA := Lib.hid (show wiA b n 3 l = ((List.replicate n 0).set j (b - 1)).set l (b - 1) by simp [wiA, h0, hj])
  have HB := Lib.hid (show wiB n 3 l = (List.replicate n 0).set j 1 by simp [wiB, h0, hj])
  have hd0 : decide (0 < l) = true := decide_eq_true h0
  have hv2 : IntKind.i64.wrap ((l : Int) - 1) = (j : Int) := by rw [show (l : Int) - 1 = (j : Int) by omega]; exact fits_int _ (by omega) (by omega)
  have hjn : (j : Int) < (n : Int) := by omega
  have hjl : ¬ j = l := by omega
  have hlj : ¬ l = j := by omega
  have hjn2 : j < n := by omega
  clear hj
  have hv1 : IntKind.i64.wrap (b - 1) = b - 1 := fits_int _ (by omega) (by omega)
  have hln : (l : Int) < (n : Int) := by omega
  obtain ⟨u, hu⟩ : ∃ u, u = w.alloc (.cells #[.int .i64 3, .int .i64 l] 42) := ⟨_, rfl⟩
  have hbel : Below w.heap.size w u := by rw [hu]; exact (Below.refl _ _).alloc (Nat.le_refl _) _
  have bx : Bx u w.heap.size 42 #[.int .i64 3, .int .i64 l] := by rw [hu]; exact Bx.new _ _ _
  have hsz := hbel.size
  have HU := Lib.hid hu
  clear hu
  go_enter Try.func48, Try.ntmps48
  go_upto_region 1 with fail
  rw [← HU.out]
  have hS : Below u.heap.size u u.drew := (Below.refl _ _).drew
  refine wp_region_marked (fun w' => Below u.heap.size u w') 5 (by kernel_rfl) ?_
  refine wpAnyM_takeC (i := 0) (v := ?_) 8 rfl (by kernel_rfl) (by kernel_rfl) (by kernel_rfl) (by kernel_rfl) (by kernel_rfl) (by kernel_rfl) (fun _ _ _ h => h) hS (.inl ⟨by rfl, ?_⟩) ?_
  rotate_left 1
  · intro w' hS'; go_simp; try with_reducible rfl
  simp only [Act.put, List.setIfInBounds_toArray, List.set_cons_succ, List.set_cons_zero, List.getElem_toArray, List.getElem_cons_zero]
  refine wpAnyM_takeC (i := 2) (v := ?_) 8 rfl (by kernel_rfl) (by kernel_rfl) (by kernel_rfl) (by kernel_rfl) (by kernel_rfl) (by kernel_rfl) (fun _ _ _ h => h) hS (.inl ⟨by rfl, ?_⟩) ?_
  rotate_left 1
  · intro w' hS'; go_simp; try with_reducible rfl
  simp only [Act.put, List.setIfInBounds_toArray, List.set_cons_succ, List.set_cons_zero, List.getElem_toArray, List.getElem_cons_succ, List.getElem_cons_zero]
  refine wpAnyM_two (i := 1) (j := 3) (by kernel_rfl) rfl rfl (by rfl) (by rfl) (fun K hK => ?_) (fun K hK => ?_)
  · refine wp_makeI _ _ 74 2 rfl Try.underlying74 info_int64 n rfl rfl (by omega) ?_
    intro M o1 hM
    replace o1 : Own 2 M u.heap.size (u.heap.size + 1) (.slice (some ⟨u.heap.size, 0, none⟩) n n) (pad n []) := by simpa using o1
    replace hS : Below u.heap.size u M := by simpa using hS.trans (hM.mono (by simp))
    have hs1 : u.heap.size + 1 ≤ M.heap.size := by have := o1.block; omega
    clear hM
    simp only [World.size_drew]
    refine hK _ _ (.inr hS) ?_
    try simp only [Act.put, List.setIfInBounds_toArray, List.set_cons_succ, List.set_cons_zero, List.getElem_toArray, List.getElem_cons_succ, List.getElem_cons_zero]
    clear hK K
    refine wpAnyM_takeC (i := 4) (v := ?_) 8 rfl (by kernel_rfl) (by kernel_rfl) (by kernel_rfl) (by kernel_rfl) (by kernel_rfl) (by kernel_rfl) (fun _ _ _ h => h) hS (.inl ⟨by rfl, ?_⟩) ?_
    rotate_left 1
    · intro w' hS'; go_simp; try with_reducible rfl
    simp only [Act.put, List.setIfInBounds_toArray, List.set_cons_succ, List.set_cons_zero, List.getElem_toArray, List.getElem_cons_succ, List.getElem_cons_zero]
    refine wpAnyM_one (i := 3) (by kernel_rfl) rfl (by rfl) (fun K hK => ?_)
    refine wp_makeI _ _ 74 2 rfl Try.underlying74 info_int64 n rfl rfl (by omega) ?_
    intro N o2 hN
    replace o1 := o1.below hN
    replace hS : Below u.heap.size u N := hS.trans (hN.mono hS.size)
    have hs2 : M.heap.size + 1 ≤ N.heap.size := by have := o2.block; omega
    clear hN
    refine hK _ _ (.inr hS) ?_
    try simp only [Act.put, List.setIfInBounds_toArray, List.set_cons_succ, List.set_cons_zero, List.getElem_toArray, List.getElem_cons_succ, List.getElem_cons_zero]
    clear hK K
    refine wpAnyM_one (i := 5) (by kernel_rfl) rfl (by rfl) (fun K hK => ?_)
    go_simp
    refine hK _ _ (.inl rfl) ?_
    clear hK K
    refine wpAnyM_done (by kernel_rfl) ?_ _
    try simp only [Act.put, List.setIfInBounds_toArray, List.set_cons_succ, List.set_cons_zero, List.getElem_toArray, List.getElem_cons_succ, List.getElem_cons_zero]
    have e0 := (bx.below hS).at_ 0 rfl
    have e1 := (bx.below hS).at_ 1 rfl
    replace hbel := hbel.trans (hS.mono hsz)
    have cx := o1.get (j := j) (by rw [pad_len (by simp)]; omega)
    have fx := o1.thaw j
    have cy := o2.get (j := j) (by rw [pad_len (by simp)]; omega)
    have fy := o2.thaw j
    have cz := o1.get (j := l) (by rw [pad_len (by simp)]; omega)
    have fz := o1.thaw l
    have ne1 : ¬ u.heap.size = M.heap.size := by omega
    have ne2 : ¬ M.heap.size = u.heap.size := by omega
    go_wp2
    exact bodyPost_ret (v := .tuple #[.slice (some ⟨u.heap.size, 0, none⟩) n n, .slice (some ⟨M.heap.size, 0, none⟩) n n]) (by simp [results, Try.results48, go_sem]) rfl
      ⟨u.heap.size, M.heap.size, rfl, by rw [HA.out]; exact by simpa [pad_nil] using (((o1.put j (b - 1)).setCell (p := ⟨M.heap.size, j, none⟩) (by simp; omega) (.int .i64 1)).put l (b - 1)), by rw [HB.out]; exact by simpa [pad_nil] using (((o2.setCell (p := ⟨u.heap.size, j, none⟩) (by simp; omega) (.int .i64 (b - 1))).put j 1).setCell (p := ⟨u.heap.size, l, none⟩) (by simp; omega) (.int .i64 (b - 1))), by omega, by omega, by omega, ((hbel.setCell (by simp; omega) _).setCell (by simp; omega) _).setCell (by simp; omega) _⟩
  · refine wp_makeI _ _ 74 2 rfl Try.underlying74 info_int64 n rfl rfl (by omega) ?_
    intro M o1 hM
    replace o1 : Own 2 M u.heap.size (u.heap.size + 1) (.slice (some ⟨u.heap.size, 0, none⟩) n n) (pad n []) := by simpa using o1
    replace hS : Below u.heap.size u M := by simpa using hS.trans (hM.mono (by simp))
    have hs1 : u.heap.size + 1 ≤ M.heap.size := by have := o1.block; omega
    clear hM
    simp only [World.size_drew]
    refine hK _ _ (.inr hS) ?_
    try simp only [Act.put, List.setIfInBounds_toArray, List.set_cons_succ, List.set_cons_zero, List.getElem_toArray, List.getElem_cons_succ, List.getElem_cons_zero]
    clear hK K
    refine wpAnyM_one (i := 1) (by kernel_rfl) rfl (by rfl) (fun K hK => ?_)
    refine wp_makeI _ _ 74 2 rfl Try.underlying74 info_int64 n rfl rfl (by omega) ?_
    intro N o2 hN
    replace o1 := o1.below hN
    replace hS : Below u.heap.size u N := hS.trans (hN.mono hS.size)
    have hs2 : M.heap.size + 1 ≤ N.heap.size := by have := o2.block; omega
    clear hN
    refine hK _ _ (.inr hS) ?_
    try simp only [Act.put, List.setIfInBounds_toArray, List.set_cons_succ, List.set_cons_zero, List.getElem_toArray, List.getElem_cons_succ, List.getElem_cons_zero]
    clear hK K
    refine wpAnyM_one (i := 4) (by kernel_rfl) rfl (by rfl) (fun K hK => ?_)
    go_simp
    refine hK _ _ (.inr hS) ?_
    try simp only [Act.put, List.setIfInBounds_toArray, List.set_cons_succ, List.set_cons_zero, List.getElem_toArray, List.getElem_cons_succ, List.getElem_cons_zero]
    clear hK K
    refine wpAnyM_one (i := 5) (by kernel_rfl) rfl (by rfl) (fun K hK => ?_)
    go_simp
    refine hK _ _ (.inl rfl) ?_
    clear hK K
    refine wpAnyM_done (by kernel_rfl) ?_ _
    try simp only [Act.put, List.setIfInBounds_toArray, List.set_cons_succ, List.set_cons_zero, List.getElem_toArray, List.getElem_cons_succ, List.getElem_cons_zero]
    have e0 := (bx.below hS).at_ 0 rfl
    have e1 := (bx.below hS).at_ 1 rfl
    replace hbel := hbel.trans (hS.mono hsz)
    have cx := o2.get (j := j) (by rw [pad_len (by simp)]; omega)
    have fx := o2.thaw j
    have cy := o1.get (j := j) (by rw [pad_len (by simp)]; omega)
    have fy := o1.thaw j
    have cz := o2.get (j := l) (by rw [pad_len (by simp)]; omega)
    have fz := o2.thaw l
    have ne1 : ¬ u.heap.size = M.heap.size := by omega
    have ne2 : ¬ M.heap.size = u.heap.size := by omega
    go_wp2
    exact bodyPost_ret (v := .tuple #[.slice (some ⟨M.heap.size, 0, none⟩) n n, .slice (some ⟨u.heap.size, 0, none⟩) n n]) (by simp [results, Try.results48, go_sem]) rfl
      ⟨M.heap.size, u.heap.size, rfl, by rw [HA.out]; exact by simpa [pad_nil] using (((o2.put j (b - 1)).setCell (p := ⟨u.heap.size, j, none⟩) (by simp; omega) (.int .i64 1)).put l (b - 1)), by rw [HB.out]; exact by simpa [pad_nil] using (((o1.setCell (p := ⟨M.heap.size, j, none⟩) (by simp; omega) (.int .i64 (b - 1))).put j 1).setCell (p := ⟨M.heap.size, l, none⟩) (by simp; omega) (.int .i64 (b - 1))), by omega, by omega, by omega, ((hbel.setCell (by simp; omega) _).setCell (by simp; omega) _).setCell (by simp; omega) _⟩

theorem nth_setI (zs : List Int) (j i : Nat) (z : Int) : nth (zs.set j z) i = if i = j ∧ j < zs.length then z else nth zs i := by
  unfold nth
  by_cases h : i = j
  · subst h
    by_cases h2 : i < zs.length
    · rw [if_pos ⟨rfl, h2⟩]; simp [h2]
    · rw [if_neg (fun hh => h2 hh.2), List.set_eq_of_length_le (by omega)]
  · rw [if_neg (fun hh => h hh.1), List.getElem?_set_ne (fun e => h e.symm)]
theorem nth_zero (n i : Nat) : nth (List.replicate n (0 : Int)) i = 0 := by
  unfold nth
  by_cases h : i < n
  · simp [h]
  · rw [List.getElem?_eq_none (by simp; omega)]; rfl
theorem kds_one (k : Int) (l i : Nat) : kds [(k, (l : Int))] i = if i = l then k else 0 := by
  show (if (i : Int) = (l : Int) then k else (0 : Int)) = if i = l then k else 0
  by_cases h : i = l
  · rw [if_pos h, if_pos (by omega)]
  · rw [if_neg h, if_neg (by omega)]
theorem zeroK {b : Int} {xs ys : List Int} {kd : Nat → Int} (hb : 2 ≤ b) : ∀ j, (∀ i, i < j → nth xs i = 0 ∧ nth ys i = 0 ∧ kd i = 0) → lcK b xs ys kd j = 0 ∧ cK b xs ys j = 0
  | 0, _ => ⟨rfl, rfl⟩
  | j + 1, h => by
    obtain ⟨h1, h2⟩ := zeroK hb j (fun i hi => h i (by omega))
    obtain ⟨a1, a2, a3⟩ := h j (by omega)
    refine ⟨?_, ?_⟩
    · rw [lcK, a1, a2, a3, h1]
      unfold lcar
      rw [if_neg (by omega), if_neg (by omega), if_neg (by omega), if_neg (by omega)]
    · rw [cK, a1, a2, h2]
      simp
theorem wi_len (b : Int) (n : Nat) (k : Int) (l : Nat) : (wiA b n k l).length = n := by unfold wiA; split <;> (try split) <;> simp
theorem wiB_len (n : Nat) (k : Int) (l : Nat) : (wiB n k l).length = n := by unfold wiB; split <;> (try split) <;> simp
theorem wiA_at {b : Int} {n l : Nat} {k : Int} (hl : l < n) (i : Nat) : nth (wiA b n k l) i = if k = 1 ∧ i = l then b - 1 else if k = 3 ∧ 0 < l ∧ (i = l ∨ i + 1 = l) then b - 1 else 0 := by
  unfold wiA
  by_cases h1 : k = 1
  · rw [if_pos h1, nth_setI, nth_zero]
    by_cases hi : i = l
    · rw [if_pos ⟨hi, by simpa using hl⟩, if_pos ⟨h1, hi⟩]
    · rw [if_neg (fun h => hi h.1), if_neg (fun h => hi h.2), if_neg (fun h => by omega)]
  · have hr : ¬ (k = 1 ∧ i = l) := fun h => h1 h.1
    rw [if_neg h1]
    by_cases h3 : k = 3 ∧ 0 < l
    · rw [if_pos h3, if_neg hr, nth_setI, nth_setI, nth_zero]
      by_cases hi : i = l
      · rw [if_pos ⟨hi, by simpa using hl⟩, if_pos ⟨h3.1, h3.2, .inl hi⟩]
      · rw [if_neg (fun h => hi h.1)]
        by_cases hi2 : i + 1 = l
        · rw [if_pos ⟨by omega, by simp; omega⟩, if_pos ⟨h3.1, h3.2, .inr hi2⟩]
        · rw [if_neg (fun h => by have := h.1; omega), if_neg (fun h => by rcases h.2.2 with h | h <;> omega)]
    · rw [if_neg h3, if_neg hr, nth_zero, if_neg (fun h => h3 ⟨h.1, h.2.1⟩)]
theorem wiB_at {n l : Nat} {k : Int} (hl : l < n) (i : Nat) : nth (wiB n k l) i = if k = 1 ∧ i = l then 1 else if k = 3 ∧ 0 < l ∧ i + 1 = l then 1 else 0 := by
  unfold wiB
  by_cases h1 : k = 1
  · rw [if_pos h1, nth_setI, nth_zero]
    by_cases hi : i = l
    · rw [if_pos ⟨hi, by simpa using hl⟩, if_pos ⟨h1, hi⟩]
    · rw [if_neg (fun h => hi h.1), if_neg (fun h => hi h.2), if_neg (fun h => by omega)]
  · have hr : ¬ (k = 1 ∧ i = l) := fun h => h1 h.1
    rw [if_neg h1]
    by_cases h3 : k = 3 ∧ 0 < l
    · rw [if_pos h3, if_neg hr, nth_setI, nth_zero]
      by_cases hi2 : i + 1 = l
      · rw [if_pos ⟨by omega, by simp; omega⟩, if_pos ⟨h3.1, h3.2, hi2⟩]
      · rw [if_neg (fun h => by have := h.1; omega), if_neg (fun h => hi2 h.2.2)]
    · rw [if_neg h3, if_neg hr, nth_zero, if_neg (fun h => h3 ⟨h.1, h.2.1⟩)]
/-- The carry out of the lever's digit is another. -/
theorem wi_carry {b : Int} {n l : Nat} {k : Int} (hb : 2 ≤ b) (hl : l < n) (hk : k = 1 ∨ k = 2 ∨ (k = 3 ∧ 0 < l)) :
    lcK b (wiA b n k l) (wiB n k l) (kds [(k, (l : Int))]) (l + 1) ≠ cK b (wiA b n k l) (wiB n k l) (l + 1) := by
  rcases hk with rfl | rfl | ⟨rfl, h0⟩
  · obtain ⟨z1, z2⟩ := zeroK (xs := wiA b n 1 l) (ys := wiB n 1 l) (kd := kds [(1, (l : Int))]) hb l (fun i hi => ⟨by rw [wiA_at hl, if_neg (by omega), if_neg (by omega)], by rw [wiB_at hl, if_neg (by omega), if_neg (by omega)], by rw [kds_one, if_neg (by omega)]⟩)
    rw [lcK, cK, z1, z2, wiA_at hl, wiB_at hl, kds_one, if_pos ⟨rfl, rfl⟩, if_pos ⟨rfl, rfl⟩, if_pos rfl, lcar_missing]
    have : (b - 1 + 1 + 0) / b = 1 := by rw [show b - 1 + 1 + 0 = b by omega]; exact Int.ediv_self (by omega)
    omega
  · obtain ⟨z1, z2⟩ := zeroK (xs := wiA b n 2 l) (ys := wiB n 2 l) (kd := kds [(2, (l : Int))]) hb l (fun i hi => ⟨by rw [wiA_at hl, if_neg (by omega), if_neg (by omega)], by rw [wiB_at hl, if_neg (by omega), if_neg (by omega)], by rw [kds_one, if_neg (by omega)]⟩)
    rw [lcK, cK, z1, z2, wiA_at hl, wiB_at hl, kds_one, if_neg (by omega), if_neg (by omega), if_neg (by omega), if_neg (by omega), if_pos rfl, lcar_stuck]
    simp
  · obtain ⟨j, rfl⟩ : ∃ j, l = j + 1 := ⟨l - 1, by omega⟩
    obtain ⟨z1, z2⟩ := zeroK (xs := wiA b n 3 (j + 1)) (ys := wiB n 3 (j + 1)) (kd := kds [(3, ((j + 1 : Nat) : Int))]) hb j (fun i hi => ⟨by rw [wiA_at hl, if_neg (by omega), if_neg (by omega)], by rw [wiB_at hl, if_neg (by omega), if_neg (by omega)], by rw [kds_one, if_neg (by omega)]⟩)
    have e1 : lcK b (wiA b n 3 (j + 1)) (wiB n 3 (j + 1)) (kds [(3, ((j + 1 : Nat) : Int))]) (j + 1) = 1 := by
      rw [lcK, z1, wiA_at hl, wiB_at hl, kds_one, if_neg (by omega), if_pos ⟨rfl, h0, .inr rfl⟩, if_neg (by omega), if_pos ⟨rfl, h0, rfl⟩, if_neg (by omega)]
      unfold lcar
      rw [if_neg (by omega), if_neg (by omega), if_neg (by omega), if_pos (by omega)]
    have e2 : cK b (wiA b n 3 (j + 1)) (wiB n 3 (j + 1)) (j + 1) = 1 := by
      rw [cK, z2, wiA_at hl, wiB_at hl, if_neg (by omega), if_pos ⟨rfl, h0, .inr rfl⟩, if_neg (by omega), if_pos ⟨rfl, h0, rfl⟩, show b - 1 + 1 + 0 = b by omega]
      exact Int.ediv_self (by omega)
    rw [lcK, cK, e1, e2, wiA_at hl, wiB_at hl, kds_one, if_neg (by omega), if_pos ⟨rfl, h0, .inl rfl⟩, if_neg (by omega), if_neg (by omega), if_pos rfl, show b - 1 + 0 + 1 = b by omega, Int.ediv_self (by omega)]
    unfold lcar
    rw [if_neg (by omega), if_pos ⟨rfl, by omega⟩]
    omega
theorem nth_tabW (f : Nat → Int) {n i : Nat} (h : i < n) : nth (tab f n) i = f i := by rw [nth_get (by rw [tab_len]; exact h)]; simp [tab]
/-- Either the carries or the digits are others. -/
theorem wi_shows {b : Int} {n l : Nat} {k : Int} (hb : 2 ≤ b) (hl : l < n) (hk : k = 1 ∨ k = 2 ∨ (k = 3 ∧ 0 < l)) (hc : 0 ≤ cK b (wiA b n k l) (wiB n k l) (l + 1) ∧ cK b (wiA b n k l) (wiB n k l) (l + 1) ≤ 1) :
    ¬ (tab (levD b (wiA b n k l) (wiB n k l) (kds [(k, (l : Int))])) n = tab (sumD b (wiA b n k l) (wiB n k l)) n ∧ lcK b (wiA b n k l) (wiB n k l) (kds [(k, (l : Int))]) n = cK b (wiA b n k l) (wiB n k l) n) := by
  rintro ⟨h1, h2⟩
  have hne := wi_carry hb hl hk
  rcases Nat.lt_or_ge (l + 1) n with h | h
  · have e := congrArg (fun z => nth z (l + 1)) h1
    rw [nth_tabW _ h, nth_tabW _ h] at e
    unfold levD sumD at e
    rw [wiA_at hl, wiB_at hl, if_neg (by omega), if_neg (by omega), if_neg (by omega), if_neg (by omega)] at e
    have hlc := lcK_bd b (wiA b n k l) (wiB n k l) (kds [(k, (l : Int))]) (l + 1)
    rw [Int.emod_eq_of_lt (by omega) (by omega), Int.emod_eq_of_lt (by omega) (by omega)] at e
    exact hne (by omega)
  · obtain rfl : n = l + 1 := by omega
    exact hne h2

/-- Are the digits, their right sum and their wrong one valid registers? -/
def wiOk (b : Int) (n : Nat) (k : Int) (l : Nat) : Bool :=
  okB b (wiA b n k l) && okB b (wiB n k l) && okB b (tab (sumD b (wiA b n k l) (wiB n k l)) n) && okB b (tab (levD b (wiA b n k l) (wiB n k l) (kds [(k, (l : Int))])) n)
/-- WitnessOf. -/
def wiR (b n : Int) (f : Int × Int) : Int × List Int × Int × List Int × Int :=
  if baseB b = true ∧ faultsB n [f] = true then
    (if f.1 = 3 ∧ f.2 = 0 then (0, [], 0, [], 3)
     else if wiOk b n.toNat f.1 f.2.toNat = true then (b, wiA b n.toNat f.1 f.2.toNat, b, wiB n.toNat f.1 f.2.toNat, 0) else (0, [], 0, [], 5))
  else (0, [], 0, [], 2)
theorem faults_one {n : Int} {f : Int × Int} (h : faultsB n [f] = true) : 1 ≤ n ∧ n ≤ 16 ∧ 1 ≤ f.1 ∧ f.1 ≤ 3 ∧ 0 ≤ f.2 ∧ f.2 ≤ n - 1 := by
  have h2 : inB n 1 16 = true ∧ (true && (inB f.1 1 3 && inB f.2 0 (n - 1))) = true := by
    simpa [faultsB, faultsTo, faultAt, nxtL, elt, pairF] using h
  simp only [Bool.true_and, Bool.and_eq_true] at h2
  obtain ⟨h3, h4, h5⟩ := h2
  have a := inB_true h3
  have c := inB_true h4
  have d := inB_true h5
  omega
theorem wi_zeroA (b : Int) (n : Nat) : wiA b n 3 0 = List.replicate n 0 := by simp [wiA]
theorem wi_zeroB (n : Nat) : wiB n 3 0 = List.replicate n 0 := by simp [wiB]
theorem valR_zero (b : Int) : ∀ n, valR b (List.replicate n 0) = 0
  | 0 => rfl
  | n + 1 => by rw [List.replicate_succ, valR, valR_zero b n]; simp
theorem okB_zero {b : Int} {n : Nat} (b1 : 2 ≤ b) (b2 : b ≤ 16) (n1 : 1 ≤ n) (n2 : n ≤ 16) : okB b (List.replicate n 0) = true := by
  simp only [okB, Bool.and_eq_true, baseB, widthB, digitsB, decide_eq_true_eq, List.length_replicate, valR_zero]
  refine ⟨⟨⟨⟨b1, b2⟩, n1, n2⟩, ?_⟩, by omega⟩
  intro d hd
  rw [List.eq_of_mem_replicate hd]
  omega
theorem late0 {b : Int} (hb : 2 ≤ b) (n : Nat) : ∀ j, lcK b (List.replicate n 0) (List.replicate n 0) (kds [(3, ((0 : Nat) : Int))]) j = 0 ∧ cK b (List.replicate n 0) (List.replicate n 0) j = 0
  | 0 => ⟨rfl, rfl⟩
  | j + 1 => by
    obtain ⟨h1, h2⟩ := late0 hb n j
    refine ⟨?_, ?_⟩
    · rw [lcK, nth_zero, h1, kds_one]
      unfold lcar
      by_cases hj : j = 0
      · rw [if_pos hj, if_neg (by omega), if_pos ⟨rfl, by omega⟩]
      · rw [if_neg hj, if_neg (by omega), if_neg (by omega), if_neg (by omega), if_neg (by omega)]
    · rw [cK, nth_zero, h2]; simp
theorem tab_zero (f : Nat → Int) (n : Nat) (h : ∀ i, f i = 0) : tab f n = List.replicate n 0 := by
  refine List.ext_getElem (by simp [tab_len]) fun i h1 h2 => ?_
  rw [← nth_get h1, tab_nth (by rw [tab_len] at h1; exact h1), h]
  simp
theorem late0_sum {b : Int} (hb : 2 ≤ b) (n : Nat) : tab (sumD b (List.replicate n 0) (List.replicate n 0)) n = List.replicate n 0 :=
  tab_zero _ _ fun i => by unfold sumD; rw [nth_zero, (late0 hb n i).2]; simp
theorem late0_lev {b : Int} (hb : 2 ≤ b) (n : Nat) : tab (levD b (List.replicate n 0) (List.replicate n 0) (kds [(3, ((0 : Nat) : Int))])) n = List.replicate n 0 :=
  tab_zero _ _ fun i => by unfold levD; rw [nth_zero, (late0 hb n i).1]; simp
theorem wi_two {b : Int} {n l : Nat} {k : Int} : twoE b (wiA b n k l) b (wiB n k l) = 0 ↔ okB b (wiA b n k l) = true ∧ okB b (wiB n k l) = true := by
  unfold twoE
  cases h1 : okB b (wiA b n k l) <;> cases h2 : okB b (wiB n k l) <;> simp [wi_len, wiB_len]
/-- The codes of both sums are 0 just if all is valid. -/
theorem wi_codes {b : Int} {n l : Nat} {k : Int} (hf : faultsB (n : Int) [(k, (l : Int))] = true) :
    ((addR b (wiA b n k l) b (wiB n k l)).2.2.2 = 0 ∧ (awfR b (wiA b n k l) b (wiB n k l) [(k, (l : Int))]).2.2.2 = 0) ↔ wiOk b n k l = true := by
  have hn : (wiA b n k l).length = n := wi_len b n k l
  unfold addR awfR wiOk
  rw [hn]
  simp only [hf, if_true, Bool.and_eq_true]
  by_cases ht : twoE b (wiA b n k l) b (wiB n k l) = 0
  · have h2 := wi_two.1 ht
    simp only [if_pos ht, h2.1, h2.2, true_and]
    cases h3 : okB b (tab (sumD b (wiA b n k l) (wiB n k l)) n) <;> cases h4 : okB b (tab (levD b (wiA b n k l) (wiB n k l) (kds [(k, (l : Int))])) n) <;> simp
  · simp only [if_neg ht]
    constructor
    · intro h; exact absurd h.1 ht
    · intro h; exact absurd (wi_two.2 ⟨h.1.1.1, h.1.1.2⟩) ht
/-- A late lever 0 shows nothing. -/
theorem wi_late {b : Int} {n : Nat} (b1 : 2 ≤ b) (b2 : b ≤ 16) (n1 : 1 ≤ n) (n2 : n ≤ 16) (hf : faultsB (n : Int) [(3, ((0 : Nat) : Int))] = true) : wiOk b n 3 0 = true ∧ shwB b (wiA b n 3 0) b (wiB n 3 0) [(3, ((0 : Nat) : Int))] = false := by
  have ho : wiOk b n 3 0 = true := by
    unfold wiOk
    rw [wi_zeroA, wi_zeroB, late0_sum b1, late0_lev b1, okB_zero b1 b2 n1 n2]; rfl
  refine ⟨ho, ?_⟩
  have hc := (wi_codes hf).2 ho
  have ht : twoE b (wiA b n 3 0) b (wiB n 3 0) = 0 := by
    rw [wi_two, wi_zeroA, wi_zeroB, okB_zero b1 b2 n1 n2]; simp
  unfold shwB
  rw [hc.1, hc.2]
  unfold addR awfR
  rw [if_pos ht, if_pos ht]
  rw [wi_len]
  rw [if_pos hf, wi_zeroA, wi_zeroB, late0_sum b1, late0_lev b1, okB_zero b1 b2 n1 n2]
  have e1 := (late0 b1 n n).1
  have e2 := (late0 b1 n n).2
  simp at e1
  simp [e1, e2]
/-- The others are shown. -/
theorem wi_shown {b : Int} {n l : Nat} {k : Int} (hb : 2 ≤ b) (hl : l < n) (hk : k = 1 ∨ k = 2 ∨ (k = 3 ∧ 0 < l)) (hf : faultsB (n : Int) [(k, (l : Int))] = true) (ho : wiOk b n k l = true) : shwB b (wiA b n k l) b (wiB n k l) [(k, (l : Int))] = true := by
  have hc := (wi_codes hf).2 ho
  have h3 := ho
  unfold wiOk at h3
  simp only [Bool.and_eq_true] at h3
  obtain ⟨⟨⟨h4, h5⟩, h6⟩, h7⟩ := h3
  have ht := wi_two.2 ⟨h4, h5⟩
  have hcb := cK_bd hb (xs := wiA b n k l) (ys := wiB n k l) (digit_of_ok h4) (by rw [wi_len]; have := digit_of_ok h5; rw [wiB_len] at this; exact this) (l + 1) (by rw [wi_len]; omega)
  have hs := wi_shows hb hl hk hcb
  unfold shwB
  rw [hc.1, hc.2]
  unfold addR awfR
  rw [if_pos ht, if_pos ht]
  rw [wi_len]
  rw [if_pos hf, if_pos h6, if_pos h7]
  simp only [decide_true, Bool.true_and, Bool.not_eq_true', Bool.and_eq_false_iff, decide_eq_false_iff_not]
  by_cases hq : lcK b (wiA b n k l) (wiB n k l) (kds [(k, (l : Int))]) n = cK b (wiA b n k l) (wiB n k l) n
  · exact .inr fun e => hs ⟨e, hq⟩
  · exact .inl hq
theorem i64_smallW {z : Int} (h1 : -1000 ≤ z) (h2 : z ≤ 1000) : I64 z := by
  have e1 : IntKind.i64.min = -9223372036854775808 := by decide
  have e2 : IntKind.i64.max = 9223372036854775807 := by decide
  simp [I64, Lit.wf, e1, e2]
  omega
theorem wiA_mem {b : Int} {n l : Nat} {k : Int} (h1 : 2 ≤ b) (h2 : b ≤ 16) : ∀ z ∈ wiA b n k l, 0 ≤ z ∧ z ≤ 16 := by
  intro z hz
  unfold wiA at hz
  split at hz
  · rcases List.mem_or_eq_of_mem_set hz with h | rfl
    · rw [List.eq_of_mem_replicate h]; omega
    · omega
  · split at hz
    · rcases List.mem_or_eq_of_mem_set hz with h | rfl
      · rcases List.mem_or_eq_of_mem_set h with h | rfl
        · rw [List.eq_of_mem_replicate h]; omega
        · omega
      · omega
    · rw [List.eq_of_mem_replicate hz]; omega
theorem wiB_mem {n l : Nat} {k : Int} : ∀ z ∈ wiB n k l, 0 ≤ z ∧ z ≤ 16 := by
  intro z hz
  unfold wiB at hz
  split at hz
  · rcases List.mem_or_eq_of_mem_set hz with h | rfl
    · rw [List.eq_of_mem_replicate h]; omega
    · omega
  · split at hz
    · rcases List.mem_or_eq_of_mem_set hz with h | rfl
      · rw [List.eq_of_mem_replicate h]; omega
      · omega
    · rw [List.eq_of_mem_replicate hz]; omega
theorem all64_wiA {b : Int} {n l : Nat} {k : Int} (h1 : 2 ≤ b) (h2 : b ≤ 16) : All64 (wiA b n k l) := fun z hz => by have := wiA_mem h1 h2 z hz; exact i64_smallW (by omega) (by omega)
theorem all64_wiB {n l : Nat} {k : Int} : All64 (wiB n k l) := fun z hz => by have := wiB_mem z hz; exact i64_smallW (by omega) (by omega)
end Go.Proofs.Ytiogbpnnnpodkaa
