/-
  Some chain out of some bytes: spec.l04DrawChain, A2Chain.
-/
import Derived.Test.YtaefgkhbgljkoaaDrawT
import Derived.Test.YtaefgkhbgljkoaaAppAt
import Derived.Test.YtaefgkhbgljkoaaMoveChS
import Derived.Test.YtaefgkhbgljkoaaChainM
import Derived.Test.YtaefgkhbgljkoaaOrdC
import Derived.Deep.Cut
namespace Go.Proofs.Ytaefgkhbgljkoaa
open Go.RowKit

set_option maxHeartbeats 8000000 in
theorem drawChain_any (s : Nat) (w : World) (h : Src w s 0) :
    Calls Try.prog 70 #[.pointer (some ⟨s, 0, none⟩)] w fun e w' => ∃ p q A C D E, e = .returned (.agg #[.slice A (List.length p) C, .slice D (List.length q) E]) ∧ DrawnC p q ∧ 1 ≤ p.length ∧ p.length ≤ 5 ∧
      Own2 2 w' w.heap.size w'.heap.size (.slice A p.length C) p (.slice D q.length E) q ∧ Touch s (s + 1) w w' := by
  have hs := h.lt
  obtain ⟨r, hr⟩ : ∃ r, r = w.heap.size := ⟨_, rfl⟩
  obtain ⟨u, hu⟩ : ∃ u, u = w.alloc (.cells #[.slice none 0 0, .slice none 0 0] 41) := ⟨_, rfl⟩
  have br : Bx u r 41 #[.slice none 0 0, .slice none 0 0] := by rw [hu, hr]; exact Bx.new _ _ _
  have hsu : u.heap.size = r + 1 := by rw [hu, hr]; simp
  have tu : Touch s (s + 1) w u := by rw [hu]; exact (Touch.refl _ _ _).alloc _
  have su : Src u s 0 := by rw [hu]; exact h.lo (L := w.heap.size) (by repeat (first | exact Below.refl _ _ | refine Below.setCell ?_ (by first | omega | (simp <;> omega)) _ | refine Below.alloc ?_ (by first | omega | (simp <;> omega)) _ | refine Below.drew ?_)) hs
  have HU := Lib.hid hu
  have HR := Lib.hid hr
  clear hu h
  go_enter Try.func70, Try.ntmps70
  go_wp2_with fail
  rw [← HU.out, ← hr]
  clear hr
  refine (pick_any s 0 20 u su (by omega) (by omega)).mono ?_
  rintro e w1 ⟨z, rfl, z0, z1, hs1, ht1⟩
  have v1 : IntKind.i64.wrap (z - 10) = z - 10 := fits_int _ (by omega) (by omega)
  have hl1 := ht1.size
  replace br := br.touch ht1 (by have := HR.out; omega)
  replace tu := tu.trans ht1
  go_wp2_with fail
  obtain ⟨G, hG⟩ : ∃ G, G = w1.heap.size := ⟨_, rfl⟩
  obtain ⟨v, hv⟩ : ∃ v, v = (w1.alloc (.cells #[.int .i64 (z - 10)] 2)).alloc (.cells #[.slice none 0 0, .slice (some ⟨w1.heap.size, 0, none⟩) 1 1] 41) := ⟨_, rfl⟩
  rw [← hv]
  have hbv : Below w1.heap.size w1 v := by rw [hv]; exact (by repeat (first | exact Below.refl _ _ | refine Below.setCell ?_ (by first | omega | (simp <;> omega)) _ | refine Below.alloc ?_ (by first | omega | (simp <;> omega)) _ | refine Below.drew ?_))
  have bB : Bx v (G + 1) 41 #[.slice none 0 0, .slice (some ⟨G, 0, none⟩) 1 1] := by
    rw [hv, hG]; simpa using Bx.new (w1.alloc (.cells #[.int .i64 (z - 10)] 2)) #[.slice none 0 0, .slice (some ⟨w1.heap.size, 0, none⟩) 1 1] 41
  have oq : Own 2 v G (G + 1) (.slice (some ⟨G, 0, none⟩) 1 1) [z - 10] := by
    rw [hv, hG]
    have := (row_new 2 1 w1 #[.int .i64 (z - 10)] 1 (by simp) (by omega)).alloc (.cells #[.slice none 0 0, .slice (some ⟨w1.heap.size, 0, none⟩) 1 1] 41)
    exact own_of_row (zs := [z - 10]) (by simpa using this) rfl (by simp)
  have hvz : v.heap.size = G + 2 := by rw [hv, hG]; simp
  have op : Own 2 v (G + 2) (G + 3) (.slice none 0 0) [] := ⟨World.ownsRow_nil _ _ _ _, by intro k hk; simp [Value.ownBlock] at hk, by simp⟩
  have tv : Touch s (s + 1) w v := tu.trans (Below.touch hbv)
  have hsr : s < r := by have := HR.out; omega
  have sv : Src v s 2 := (hs1.lo hbv (by omega)).mono (by omega)
  replace br := br.below hbv
  have hv0 := Lib.hid hv
  have hrG : r < G := by omega
  have hD := drawnC_start (z := z - 10) (by omega) (by omega)
  rw [← hG]
  clear hv hbv ht1 hs1 tu z0 z1 v1
  obtain ⟨B, hB⟩ : ∃ B, B = G + 1 := ⟨_, rfl⟩
  rw [← hB] at bB ⊢
  have hBG : G < B := by omega
  have hB2 : B < G + 2 := by omega
  have HG := Lib.hid hG
  clear hB hG
  refine (pick_any s 2 5 v sv (by omega) (by omega)).mono ?_
  rintro e w2 ⟨y, rfl, y0, y1, hs2, ht2⟩
  have v2 : IntKind.i64.wrap (1 + y) = 1 + y := fits_int _ (by omega) (by omega)
  obtain ⟨j0, hj0⟩ : ∃ j : Nat, 1 + y = j := ⟨(1 + y).toNat, by omega⟩
  have hj1 : 1 ≤ j0 ∧ j0 ≤ 5 := by omega
  have HJ := Lib.hid hj0
  have hl2 := ht2.size
  replace bB := bB.touch ht2 (by omega)
  replace br := br.touch ht2 (by omega)
  replace oq := oq.touch ht2 (.inr (by omega))
  replace op := op.touch ht2 (.inr (by omega))
  replace tv := tv.trans ht2
  clear hj0 y0 y1 ht2 sv
  go_wp2_with fail
  rw [HJ.out]
  go_loopw [4, 5] (fun i _ wr => ∃ (j n : Nat) (p q : List Int) (gp gq : Nat) (A : Option Addr) (C E : Nat), i = .int .i64 (j : Nat) ∧ p.length = n ∧ q.length = n + 1 ∧ 1 ≤ j + n ∧ j + n ≤ 5 ∧ DrawnC p q ∧ Bx wr B 41 #[.slice A n C, .slice (some ⟨gq, 0, none⟩) (n + 1) E] ∧
    Own 2 wr gp (gp + 1) (.slice A n C) p ∧ Own 2 wr gq (gq + 1) (.slice (some ⟨gq, 0, none⟩) (n + 1) E) q ∧ (G ≤ gp ∧ G ≤ gq ∧ gp ≠ gq ∧ gp ≠ B ∧ gq ≠ B ∧ gp ≤ wr.heap.size) ∧ Bx wr r 41 #[.slice none 0 0, .slice none 0 0] ∧ Src wr s (4 + 4 * n) ∧ Touch s (s + 1) w wr) (fun i _ _ => (intOf i).toNat)
  case atStart => exact ⟨j0, 0, [], [z - 10], G + 2, G, none, 0, 1, rfl, rfl, rfl, by omega, by omega, hD, bB, op, oq, by omega, br, hs2, tv⟩
  case round =>
    clear bB op oq br hs2 tv hD hl2
    obtain ⟨j, n, p, q, gp, gq, A, C, E, rfl, hp, hq, hj0', hj1', hD, bB, op, oq, hg, br, hsrc, ht⟩ := hrel
    have hsz := ht.size
    have hBl := bB.lt
    have HP := Lib.hid hp
    have HQ := Lib.hid hq
    clear hp hq
    cases j with
    | zero =>
      have hp := HP.out
      subst hp
      have hq := HQ.out
      obtain ⟨ga, rfl, ha1, ha2, nar⟩ := op.narrow (by omega)
      have hal := op.lo_le (k := ga) rfl
      have hql := oq.lo_le (k := gq) rfl
      have HQ' := Lib.hid hq
      clear hq
      have d0 := bB.at_ 0 rfl
      have d1 := bB.at_ 1 rfl
      have c0 := br.at_ 0 rfl
      have c1 := br.at_ 1 rfl
      have f0 := br.thaw 0
      have f1 := br.thaw 1
      have bz := (br.set_ 0 (.slice (some ⟨ga, 0, none⟩) p.length C)).set_ 1 (.slice (some ⟨gq, 0, none⟩) (p.length + 1) E)
      have r0 := bz.at_ 0 rfl
      have r1 := bz.at_ 1 rfl
      go_wp2_with fail
      refine bodyPost_ret (v := .agg #[.slice (some ⟨ga, 0, none⟩) p.length C, .slice (some ⟨gq, 0, none⟩) (p.length + 1) E]) (by simp [results, Try.results70, go_sem, r0, r1]) rfl ?_
      refine ⟨p, q, some ⟨ga, 0, none⟩, C, some ⟨gq, 0, none⟩, E, by rw [HQ'.out], hD, by omega, by omega, ⟨gp, gp + 1, gq, gq + 1, (op.setCell (by simp; omega) _).setCell (by simp; omega) _, ?_, by have := HR.out; omega, by simp; omega, by have := HR.out; omega, by simp; omega, by omega⟩, ?_⟩
      · rw [HQ'.out]; exact (oq.setCell (by simp; omega) _).setCell (by simp; omega) _
      · exact ht.then_ (((Touch.refl r (r + 1) wr).setCell (by simp) (by simp) _).setCell (by simp) (by simp) _) (by have := HR.out; omega)
    | succ j =>
      have hpos : (0 : Int) < ((j + 1 : Nat) : Int) := by omega
      go_wp2_with fail
      refine (pick_any s _ 5 _ hsrc (by omega) (by omega)).mono ?_
      rintro e w3 ⟨x, rfl, x0, x1, hs3, ht3⟩
      have hl3 := ht3.size
      replace bB := bB.touch ht3 (by omega)
      replace br := br.touch ht3 (by omega)
      replace oq := oq.touch ht3 (.inr (by omega))
      replace op := op.touch ht3 (.inr (by omega))
      replace ht := ht.trans ht3
      have hql := oq.lo_le (k := gq) rfl
      have hg3 : gp ≤ w3.heap.size := by omega
      have hB3 : B < w3.heap.size := by omega
      clear ht3 hsrc
      have c0 := bB.at_ 0 rfl
      go_upto_region 7 with (at_builtin; go_must (refine wpList_appAt rfl (.tmp 21) (.tmp 23) 39 2 rfl Try.underlying39 info_int64 rfl (op.alloc _) HP.out ⟨w3.heap.size, 0, none⟩ 1 x rfl (cell_new1 w3 _ _) (by omega) (by simp <;> omega) ?_); intro gp' C' w5 hgp' own5 ht5; have bo5 := (bB.alloc (.cells #[.int .i64 x] 2)).touch ht5 (by omega); have c5 := bo5.at_ 0 rfl; have f5 := bo5.thaw 0)
      have hz5 := ht5.size
      have hz5' : w3.heap.size + 1 ≤ w5.heap.size := by simpa using hz5
      have hgp2 : gp' = gp ∨ gp' = w3.heap.size + 1 := by simpa using hgp'
      clear hz5 hgp' c0 c5 f5
      obtain ⟨w6, hw6⟩ : ∃ v, v = w5.setCell ⟨B, 0, none⟩ (.slice (some ⟨gp', 0, none⟩) (n + 1) C') := ⟨_, rfl⟩
      rw [← hw6]
      have b6 : Bx w6 B 41 #[.slice (some ⟨gp', 0, none⟩) (n + 1) C', .slice (some ⟨gq, 0, none⟩) (n + 1) E] := by rw [hw6]; exact bo5.set_ 0 _
      have op6 : Own 2 w6 gp' (gp' + 1) (.slice (some ⟨gp', 0, none⟩) (n + 1) C') (p ++ [x]) := by rw [hw6]; exact own5.setCell (by simp; omega) _
      have oq6 : Own 2 w6 gq (gq + 1) (.slice (some ⟨gq, 0, none⟩) (n + 1) E) q := by rw [hw6]; exact ((oq.alloc _).touch ht5 (by omega)).setCell (by simp; omega) _
      have tt : Touch G (w6.heap.size + w3.heap.size + 1) w3 w6 := by
        rw [hw6]
        exact ((((Touch.refl G (w5.heap.size + w3.heap.size + 1) w3).alloc _).trans (ht5.widen (by omega) (by omega))).setCell (by simp; omega) (by simp; omega) _).widen (Nat.le_refl _) (by simp)
      have hl6 := tt.size
      replace hs3 := hs3.touch tt (by omega)
      replace br := br.touch tt (by omega)
      replace ht := ht.then_ tt (by have := HR.out; omega)
      have hB6 := b6.lt
      have hq6 := oq6.lo_le (k := gq) rfl
      have hp6 := op6.lo_le (k := gp') rfl
      clear bo5 own5 ht5 op oq bB tt hw6
      obtain ⟨l, hl⟩ : ∃ l, l = nth q n := ⟨_, rfl⟩
      have hq1 := HQ.out
      have k1 : ∀ w', Touch s (s + 1) w6 w' → w'.cell? ⟨B, 1, none⟩ = some (.slice (some ⟨gq, 0, none⟩) (n + 1) E) := fun _ h => keptT h (b6.at_ 1 rfl) (by omega)
      have k2 : ∀ w', Touch s (s + 1) w6 w' → w'.cell? ⟨gq, n, none⟩ = some (.int .i64 l) := by
        intro w' h
        obtain ⟨b1, o1, e1, hc1⟩ := oq6.rd.at_ (k := n) (by omega)
        injection e1 with e1
        injection e1 with e1 e2
        subst e1 e2
        rw [hl, ← Nat.zero_add n]
        exact keptT h (by simpa using hc1) (by omega)
      have hnear := hD.near n (by have := HP.out; omega)
      rw [← hl] at hnear
      have HL := Lib.hid hl
      clear hl hq1
      have e1 : IntKind.i64.wrap (n : Int) = (n : Int) := IntWalk.i64_in _ (by omega)
      have en : (n : Int) < (n : Int) + 1 := by omega
      have e2 : IntKind.i64.wrap (2 * x) = 2 * x := IntWalk.i64_in _ (by omega)
      have e3 : IntKind.i64.wrap (2 * x + 1) = 2 * x + 1 := IntWalk.i64_in _ (by omega)
      refine wp_region_marked (fun w' => Touch s (s + 1) w6 w') 19 (by kernel_rfl) ?_
      have hS : Touch s (s + 1) w6 w6.drew := ⟨rfl, rfl, rfl, Nat.le_refl _, fun _ _ _ => rfl⟩
      refine wpAnyM_takeC (i := 0) (v := ?_) 20 rfl (by kernel_rfl) (by kernel_rfl) (by kernel_rfl) (by kernel_rfl) (by kernel_rfl) (by kernel_rfl) (fun _ _ _ h => h) hS (.inl ⟨by rfl, ?_⟩) ?_
      rotate_left 1
      · intro w' hS'; go_simp; try with_reducible rfl
      simp only [Act.put, List.setIfInBounds_toArray]
      refine wpAnyM_takeC (i := 1) (v := ?_) 20 rfl (by kernel_rfl) (by kernel_rfl) (by kernel_rfl) (by kernel_rfl) (by kernel_rfl) (by kernel_rfl) (fun _ _ _ h => h) hS (.inl ⟨by rfl, ?_⟩) ?_
      rotate_left 1
      · intro w' hS'; go_simp; try with_reducible rfl
      simp only [Act.put]
      refine wpAnyM_takeC (i := 2) (v := ?_) 20 rfl (by kernel_rfl) (by kernel_rfl) (by kernel_rfl) (by kernel_rfl) (by kernel_rfl) (by kernel_rfl) (fun _ _ _ h => h) hS (.inl ⟨by rfl, ?_⟩) ?_
      rotate_left 1
      · intro w' hS'; go_simp; try with_reducible rfl
      simp only [Act.put]
      refine wpAnyM_takeC (i := 3) (v := ?_) 20 rfl (by kernel_rfl) (by kernel_rfl) (by kernel_rfl) (by kernel_rfl) (by kernel_rfl) (by kernel_rfl) (fun _ _ _ h => h) hS (.inl ⟨by rfl, ?_⟩) ?_
      rotate_left 1
      · intro w' hS'; go_simp; try with_reducible rfl
      simp only [Act.put]
      refine wpAnyM_takeC (i := 4) (v := ?_) 20 rfl (by kernel_rfl) (by kernel_rfl) (by kernel_rfl) (by kernel_rfl) (by kernel_rfl) (by kernel_rfl) (fun _ _ _ h => h) hS (.inl ⟨by rfl, ?_⟩) ?_
      rotate_left 1
      · intro w' hS'; go_simp; try with_reducible rfl
      simp only [Act.put]
      refine wpAnyM_takeC (i := 5) (v := ?_) 20 rfl (by kernel_rfl) (by kernel_rfl) (by kernel_rfl) (by kernel_rfl) (by kernel_rfl) (by kernel_rfl) (fun _ _ _ h => h) hS (.inl ⟨by rfl, ?_⟩) ?_
      rotate_left 1
      · intro w' hS'; go_simp; try with_reducible rfl
      simp only [Act.put]
      refine wpAnyM_takeC (i := 6) (v := ?_) 20 rfl (by kernel_rfl) (by kernel_rfl) (by kernel_rfl) (by kernel_rfl) (by kernel_rfl) (by kernel_rfl) (fun _ _ _ h => h) hS (.inl ⟨by rfl, ?_⟩) ?_
      rotate_left 1
      · intro w' hS'; go_simp; try with_reducible rfl
      simp only [Act.put]
      refine wpAnyM_takeC (i := 7) (v := ?_) 20 rfl (by kernel_rfl) (by kernel_rfl) (by kernel_rfl) (by kernel_rfl) (by kernel_rfl) (by kernel_rfl) (fun _ _ _ h => h) hS (.inl ⟨by rfl, ?_⟩) ?_
      rotate_left 1
      · intro w' hS'; go_simp; try with_reducible rfl
      simp only [Act.put]
      refine wpAnyM_takeC (i := 8) (v := ?_) 20 rfl (by kernel_rfl) (by kernel_rfl) (by kernel_rfl) (by kernel_rfl) (by kernel_rfl) (by kernel_rfl) (fun _ _ _ h => h) hS (.inl ⟨by rfl, ?_⟩) ?_
      rotate_left 1
      · intro w' hS'; go_simp; try with_reducible rfl
      simp only [Act.put]
      refine wpAnyM_takeC (i := 9) (v := ?_) 20 rfl (by kernel_rfl) (by kernel_rfl) (by kernel_rfl) (by kernel_rfl) (by kernel_rfl) (by kernel_rfl) (fun _ _ _ h => h) hS (.inl ⟨by rfl, ?_⟩) ?_
      rotate_left 1
      · intro w' hS'; go_simp; try with_reducible rfl
      simp only [Act.put]
      refine wpAnyM_takeC (i := 10) (v := ?_) 20 rfl (by kernel_rfl) (by kernel_rfl) (by kernel_rfl) (by kernel_rfl) (by kernel_rfl) (by kernel_rfl) (fun _ _ _ h => h) hS (.inl ⟨by rfl, ?_⟩) ?_
      rotate_left 1
      · intro w' hS'; go_simp; try with_reducible rfl
      simp only [Act.put]
      refine wpAnyM_takeC (i := 11) (v := ?_) 20 rfl (by kernel_rfl) (by kernel_rfl) (by kernel_rfl) (by kernel_rfl) (by kernel_rfl) (by kernel_rfl) (fun _ _ _ h => h) hS (.inl ⟨by rfl, ?_⟩) ?_
      rotate_left 1
      · intro w' hS'; go_simp; try with_reducible rfl
      simp only [Act.put]
      refine wpAnyM_takeC (i := 12) (v := ?_) 20 rfl (by kernel_rfl) (by kernel_rfl) (by kernel_rfl) (by kernel_rfl) (by kernel_rfl) (by kernel_rfl) (fun _ _ _ h => h) hS (.inl ⟨by rfl, ?_⟩) ?_
      rotate_left 1
      · intro w' hS'; go_simp; try with_reducible rfl
      simp only [Act.put]
      refine wpAnyM_takeC (i := 13) (v := ?_) 20 rfl (by kernel_rfl) (by kernel_rfl) (by kernel_rfl) (by kernel_rfl) (by kernel_rfl) (by kernel_rfl) (fun _ _ _ h => h) hS (.inl ⟨by rfl, ?_⟩) ?_
      rotate_left 1
      · intro w' hS'; go_simp; try with_reducible rfl
      simp only [Act.put]
      refine wpAnyM_takeC (i := 16) (v := ?_) 20 rfl (by kernel_rfl) (by kernel_rfl) (by kernel_rfl) (by kernel_rfl) (by kernel_rfl) (by kernel_rfl) (fun _ _ _ h => h) hS (.inl ⟨by rfl, ?_⟩) ?_
      rotate_left 1
      · intro w' hS'; go_simp; try with_reducible rfl
      simp only [Act.put]
      clear k1 k2
      refine wpAnyM_one (i := 14) (by kernel_rfl) rfl (by rfl) (fun K hK => ?_)
      go_simp
      refine (pick_any s _ (2 * x + 1) w6.drew (hs3.lo (L := w6.heap.size) ((Below.refl _ _).drew) (by omega)) (by omega) (by omega)).mono ?_
      rintro e w7 ⟨t, rfl, t0, t1, hs7, ht7⟩
      replace hS := hS.trans ht7
      refine hK _ _ (.inr hS) ?_
      try simp only [Act.put, List.setIfInBounds_toArray]
      clear hK K
      have e4 : IntKind.i64.wrap (l + t) = l + t := IntWalk.i64_in _ (by omega)
      have e5 : IntKind.i64.wrap (l + t - x) = l + t - x := IntWalk.i64_in _ (by omega)
      refine wpAnyM_one (i := 15) (by kernel_rfl) rfl (by rfl) (fun K hK => ?_)
      go_simp
      refine hK _ _ (.inr hS) ?_
      try simp only [Act.put, List.setIfInBounds_toArray]
      clear hK K
      refine wpAnyM_one (i := 17) (by kernel_rfl) rfl (by rfl) (fun K hK => ?_)
      go_simp
      refine hK _ _ (.inr hS) ?_
      try simp only [Act.put, List.setIfInBounds_toArray]
      clear hK K
      refine wpAnyM_one (i := 18) (by kernel_rfl) rfl (by rfl) (fun K hK => ?_)
      go_simp
      refine hK _ _ (.inr (hS.alloc _)) ?_
      try simp only [Act.put, List.setIfInBounds_toArray]
      clear hK K
      refine wpAnyM_one (i := 19) (by kernel_rfl) rfl (by rfl) (fun K hK => ?_)
      have hl7 := hS.size
      have oq7 := oq6.touch hS (.inr (by omega))
      have op7 := op6.touch hS (.inr (by omega))
      have b7 := b6.touch hS (by omega)
      have br7 := br.touch hS (by omega)
      refine wp_appAt (.tmp 27) (.tmp 44) 39 2 rfl Try.underlying39 info_int64 rfl (oq7.alloc _) HQ.out ⟨w7.heap.size, 0, none⟩ 1 (l + t - x) rfl (cell_new1 w7 _ _) (by omega) (by simp <;> omega) ?_
      intro gq' E' w8 hgq' own8 ht8
      refine hK _ _ (.inl rfl) ?_
      try simp only [Act.put, List.setIfInBounds_toArray]
      clear hK K
      have b8 := (b7.alloc (.cells #[.int .i64 (l + t - x)] 2)).touch ht8 (by omega)
      have c8 := b8.at_ 1 rfl
      have f8 := b8.thaw 1
      refine wpAnyM_one (i := 20) (by kernel_rfl) rfl (by rfl) (fun K hK => ?_)
      go_simp
      refine hK _ _ (.inl rfl) ?_
      try simp only [Act.put, List.setIfInBounds_toArray]
      clear hK K
      refine wpAnyM_one (i := 21) (by kernel_rfl) rfl (by rfl) (fun K hK => ?_)
      go_simp
      refine hK _ _ (.inl rfl) ?_
      clear hK K
      refine wpAnyM_done (by kernel_rfl) ?_ _
      go_wp2
      go_roundw
      case rel =>
        have hz8 := ht8.size
        have hz8' : w7.heap.size + 1 ≤ w8.heap.size := by simpa using hz8
        have hgq2 : gq' = gq ∨ gq' = w7.heap.size + 1 := by simpa using hgq'
        have h67 : w6.heap.size ≤ w7.heap.size := by simpa using hl7
        have tt : Touch G (w8.heap.size + w7.heap.size + 1) w7 (w8.setCell ⟨B, 1, none⟩ (.slice (some ⟨gq', 0, none⟩) (n + 1 + 1) E')) :=
          ((((Touch.refl G (w8.heap.size + w7.heap.size + 1) w7).alloc _).trans (ht8.widen (by omega) (by omega))).setCell (by simp; omega) (by simp; omega) _)
        have hD2 : DrawnC (p ++ [x]) (q ++ [l + t - x]) := hD.snoc x0 (by omega) (by rw [HP.out, ← HL.out]; omega) (by rw [HP.out, ← HL.out]; omega)
        exact ⟨j, n + 1, p ++ [x], q ++ [l + t - x], gp', gq', some ⟨gp', 0, none⟩, C', E', rfl, by simp [HP.out], by simp [HQ.out], by omega, by omega, hD2, b8.set_ 1 _,
          (((op7.alloc _).touch ht8 (by omega)).setCell (by simp; omega) _), own8.setCell (by simp; omega) _, by simp; omega, br7.touch tt (by omega), (hs7.touch tt (by omega)).mono (by omega), (ht.trans hS).then_ tt (by have := HR.out; omega)⟩
      case measure => (simp [intOf]) <;> omega

theorem a2Chain_any (a : Option Addr) (zs : List Int) (c : Nat) (w : World) (h : RdU w a zs) :
    Calls Try.prog 28 #[.slice a zs.length c] w fun e w' => ∃ p q A C D E, e = .returned (.agg #[.slice A (List.length p) C, .slice D (List.length q) E]) ∧ DrawnC p q ∧ (1 ≤ p.length ∧ p.length ≤ 5) ∧
      Rd2 w' A p D q ∧ Below w.heap.size w w' := by
  obtain ⟨r, hr⟩ : ∃ r, r = w.heap.size := ⟨_, rfl⟩
  obtain ⟨u, hu⟩ : ∃ u, u = w.alloc (.cells #[.slice none 0 0, .slice none 0 0] 41) := ⟨_, rfl⟩
  have br : Bx u r 41 #[.slice none 0 0, .slice none 0 0] := by rw [hu, hr]; exact Bx.new _ _ _
  have hbu : Below w.heap.size w u := by rw [hu]; exact (by repeat (first | exact Below.refl _ _ | refine Below.setCell ?_ (by first | omega | (simp <;> omega)) _ | refine Below.alloc ?_ (by first | omega | (simp <;> omega)) _ | refine Below.drew ?_))
  have HU := Lib.hid hu
  have HR := Lib.hid hr
  clear hu
  go_enter Try.func28, Try.ntmps28
  go_wp2_with fail
  rw [← HU.out, ← hr]
  clear hr
  refine (from_any a zs c u (h.below hbu)).mono ?_
  rintro e w1 ⟨g, rfl, hg, hs, hb1⟩
  have hrl := br.lt
  replace br := br.below hb1
  replace hbu := hbu.trans (hb1.mono hbu.size)
  have hl := hbu.size
  go_wp2_with fail
  refine (drawChain_any g w1 hs).mono ?_
  rintro e w2 ⟨p, q, A, C, D, E, rfl, hd, n0, n1, own, ht⟩
  have hgl := hs.lt
  replace br := br.touch ht (by omega)
  replace hbu := hbu.trans (ht.below (by have := HR.out; omega) hl)
  have c0 := br.at_ 0 rfl
  have c1 := br.at_ 1 rfl
  have f0 := br.thaw 0
  have f1 := br.thaw 1
  have hl2 := hbu.size
  have hrw := br.lt
  have hl3 := ht.size
  have bz := (br.set_ 0 (.slice A p.length C)).set_ 1 (.slice D q.length E)
  have r0 := bz.at_ 0 rfl
  have r1 := bz.at_ 1 rfl
  have hb1s := hb1.size
  go_wp2_with fail
  refine bodyPost_ret (v := .agg #[.slice A p.length C, .slice D q.length E]) (by simp [results, Try.results28, go_sem, r0, r1]) rfl ?_
  refine ⟨p, q, A, C, D, E, rfl, hd, ⟨n0, n1⟩, ?_, (hbu.setCell (by simp; have := HR.out; omega) _).setCell (by simp; have := HR.out; omega) _⟩
  exact ((own.setCell (p := ⟨r, 0, none⟩) (.inl (by simp; omega)) _).setCell (p := ⟨r, 1, none⟩) (.inl (by simp; omega)) _).rd
end Go.Proofs.Ytaefgkhbgljkoaa
