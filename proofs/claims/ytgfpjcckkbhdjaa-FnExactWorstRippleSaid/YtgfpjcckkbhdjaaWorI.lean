/-
  impl.WorstRipple.
-/
import Derived.Test.YtgfpjcckkbhdjaaWorM
import Derived.Test.YtgfpjcckkbhdjaaCplI
import Derived.Deep.Cut
namespace Go.Proofs.Ytgfpjcckkbhdjaa
open Go.RowKit

theorem all64_rep {n : Nat} {d : Int} (h : I64 d) : All64 (rep n d) := fun z hz => by rw [List.eq_of_mem_replicate hz]; exact h
theorem i64_zero : I64 0 := by show (Lit.int .i64 0).wf = true; decide
theorem i64_one : I64 1 := by show (Lit.int .i64 1).wf = true; decide

set_option maxRecDepth 100000 in
set_option maxHeartbeats 4000000 in
theorem implWorstRipple (B n : Int) (w : World) (hB : I64 B) (hn : I64 n) : Calls Try.prog 30 #[.int .i64 B, .int .i64 n] w (TwoGer (wrR B n) w) := by
  obtain ⟨r, hr⟩ : ∃ r, r = w.heap.size := ⟨_, rfl⟩
  obtain ⟨u, hu⟩ : ∃ u, u = (w.alloc (.cells #[.int .i64 0, .slice none 0 0] 26)).alloc (.cells #[.int .i64 0, .slice none 0 0] 26) := ⟨_, rfl⟩
  have b0 : Bx u r 26 #[.int .i64 0, .slice none 0 0] := by rw [hu, hr]; exact (Bx.new _ _ _).alloc _
  have b1 : Bx u (r + 1) 26 #[.int .i64 0, .slice none 0 0] := by rw [hu, hr]; simpa using Bx.new (w.alloc (.cells #[.int .i64 0, .slice none 0 0] 26)) #[.int .i64 0, .slice none 0 0] 26
  have hbel : Below r w u := by rw [hu, hr]; exact (by repeat (first | exact Below.refl _ _ | refine Below.setCell ?_ (by first | omega | (simp <;> omega)) _ | refine Below.alloc ?_ (by first | omega | (simp <;> omega)) _ | refine Below.drew ?_))
  have hsu : u.heap.size = r + 2 := by rw [hu, hr]; simp
  have HU := Lib.hid hu
  have HR := Lib.hid hr
  have HN := Lib.hid (fun v => implNewRegister B n 1 v hB hn i64_one)
  have HN0 := Lib.hid (fun v => implNewRegister B n 0 v hB hn i64_zero)
  clear hu hr
  by_cases h : 2 ≤ B ∧ B ≤ 16 ∧ 1 ≤ n ∧ n ≤ 16
  · obtain ⟨h1, h2, h3, h4⟩ := h
    obtain ⟨k, rfl⟩ := Int.eq_ofNat_of_zero_le (show 0 ≤ n by omega)
    have g3 : 1 ≤ k := by omega
    have g4 : k ≤ 16 := by omega
    have HC := Lib.hid (fun (v : World) (A : Option Addr) (C : Nat) (ha : Rd v A (rep k 0)) => implComplementOf B A C (rep k 0) v ha (all64_rep i64_zero) hB)
    rw [cplR_zero h1 h2 g3 g4] at HC
    unfold NewRegPost at HN HN0
    rw [nr_one h1 h2 g3 g4] at HN
    rw [nr_zero h1 h2 g3 g4] at HN0
    unfold RegC at HC
    simp only [one_len g3] at HN
    simp only [rep_len] at HN0 HC
    go_enter Try.func30, Try.ntmps30
    go_wp2_with fail
    rw [← HU.out, ← HR.out]
    refine (HN.out u).mono ?_
    rintro e w1 ⟨D, E, rfl, ow1, hb⟩
    have hs1 := hb.size
    replace b0 := b0.below hb
    replace b1 := b1.below hb
    replace hbel := hbel.trans (hb.mono (by omega))
    clear hb HN HU
    obtain ⟨m, hm⟩ : ∃ m, m = u.heap.size := ⟨_, rfl⟩
    rw [← hm] at ow1 hsu hs1
    clear hm
    go_upto_region 2 with fail
    obtain ⟨P, hP⟩ : ∃ P, P = w1.heap.size := ⟨_, rfl⟩
    obtain ⟨V1, hV1⟩ : ∃ X, X = w1.alloc (.cells #[.int .i64 B, .slice D k E] 26) := ⟨_, rfl⟩
    have b7 : Bx V1 P 26 #[.int .i64 B, .slice D k E] := by rw [hV1, hP]; exact Bx.new _ _ _
    have hb : Below w1.heap.size w1 V1 := by rw [hV1]; exact (Below.refl _ _).alloc (Nat.le_refl _) _
    rw [← hV1, ← hP]
    have hs2 := hb.size
    replace b0 := b0.below hb
    replace b1 := b1.below hb
    replace ow1 := ow1.below hb
    replace hbel := hbel.trans (hb.mono (by omega))
    rw [← hP] at hs1 hs2 ow1
    clear hb hP hV1
    have hP7 := b7.lt
    go_wp2_with fail
    refine (HN0.out V1).mono ?_
    rintro e w2 ⟨D0, E0, rfl, ow0, hb⟩
    have hs3 := hb.size
    replace b0 := b0.below hb
    replace b1 := b1.below hb
    replace b7 := b7.below hb
    replace ow1 := ow1.below hb
    replace hbel := hbel.trans (hb.mono (by omega))
    clear hb HN0
    go_upto_region 5 with fail
    obtain ⟨Q, hQ⟩ : ∃ P, P = w2.heap.size := ⟨_, rfl⟩
    obtain ⟨V2, hV2⟩ : ∃ X, X = w2.alloc (.cells #[.int .i64 B, .slice D0 k E0] 26) := ⟨_, rfl⟩
    have b9 : Bx V2 Q 26 #[.int .i64 B, .slice D0 k E0] := by rw [hV2, hQ]; exact Bx.new _ _ _
    have hb : Below w2.heap.size w2 V2 := by rw [hV2]; exact (Below.refl _ _).alloc (Nat.le_refl _) _
    rw [← hV2, ← hQ]
    have hs4 := hb.size
    replace b0 := b0.below hb
    replace b1 := b1.below hb
    replace b7 := b7.below hb
    replace ow1 := ow1.below hb
    replace ow0 := ow0.below hb
    replace hbel := hbel.trans (hb.mono (by omega))
    rw [← hQ] at hs3 hs4
    clear hb hQ hV2
    have c0 := b9.at_ 0 rfl
    have c1 := b9.at_ 1 rfl
    have r0rd := ow0.rd
    have hQ9 := b9.lt
    clear ow0
    go_wp2_with fail
    refine (HC.out V2 D0 E0 r0rd).mono ?_
    rintro e w3 ⟨A, C, rfl, owa, hb⟩
    have hs5 := hb.size
    replace b0 := b0.below hb
    replace b1 := b1.below hb
    replace b7 := b7.below hb
    replace ow1 := ow1.below hb
    replace hbel := hbel.trans (hb.mono (by omega))
    clear hb HC c0 c1 b9 r0rd
    cases hok : okB B (rep k (B - 1)) with
    | false =>
      have HW := Lib.hid (wr_full (n := k) ⟨h1, h2, by omega, by omega⟩ hok)
      have hf : finR B (rep k (B - 1)) = (0, [], 5) := by rw [finR, hok]; rfl
      simp only [hf] at owa ⊢
      clear hok hf owa
      go_upto_region 6 with fail
      obtain ⟨V9, hV9⟩ : ∃ X, X = w3.alloc (.cells #[.int .i64 0, .slice A 0 C] 26) := ⟨_, rfl⟩
      have hb9 : Below w3.heap.size w3 V9 := by rw [hV9]; exact (Below.refl _ _).alloc (Nat.le_refl _) _
      rw [← hV9]
      replace b0 := b0.below hb9
      replace b1 := b1.below hb9
      replace hbel := hbel.trans (hb9.mono (by omega))
      have hl9 := b1.lt
      clear hV9 hb9
      have r0 := b0.at_ 0 rfl
      have r1 := b0.at_ 1 rfl
      have r2 := b1.at_ 0 rfl
      have r3 := b1.at_ 1 rfl
      have f0 := b0.thaw 0
      have f1 := b0.thaw 1
      have f2 := b1.thaw 0
      have f3 := b1.thaw 1
      go_wp2
      exact bodyPost_ret (v := .tuple #[.agg #[.int .i64 0, .slice none 0 0], .agg #[.int .i64 0, .slice none 0 0], .int .i64 5]) (by simp [results, Try.results30, go_sem, r0, r1, r2, r3]) rfl
        (twoGer_err HW.out rfl (by rw [← HR.out]; exact (by repeat (first | exact hbel | refine Below.setCell ?_ (by first | omega | (simp <;> omega)) _ | refine Below.alloc ?_ (by first | omega | (simp <;> omega)) _ | refine Below.drew ?_))))
    | true =>
      have HW := Lib.hid (wr_ok (n := k) ⟨h1, h2, by omega, by omega⟩ hok)
      have hf : finR B (rep k (B - 1)) = (B, rep k (B - 1), 0) := by rw [finR, if_pos hok]
      simp only [hf, rep_len] at owa ⊢
      clear hok hf
      go_upto_region 8 with fail
      obtain ⟨S, hS0⟩ : ∃ P, P = w3.heap.size := ⟨_, rfl⟩
      obtain ⟨V4, hV4⟩ : ∃ X, X = w3.alloc (.cells #[.int .i64 B, .slice A k C] 26) := ⟨_, rfl⟩
      have b11 : Bx V4 S 26 #[.int .i64 B, .slice A k C] := by rw [hV4, hS0]; exact Bx.new _ _ _
      have hb : Below w3.heap.size w3 V4 := by rw [hV4]; exact (Below.refl _ _).alloc (Nat.le_refl _) _
      rw [← hV4, ← hS0]
      have hs6 := hb.size
      replace b0 := b0.below hb
      replace b1 := b1.below hb
      replace b7 := b7.below hb
      replace ow1 := ow1.below hb
      replace owa := owa.below hb
      replace hbel := hbel.trans (hb.mono (by omega))
      rw [← hS0] at hs5 hs6 owa
      clear hb hS0 hV4
      have k0 : ∀ w', Touch r (r + 1) V4 w' → w'.cell? ⟨S, 0, none⟩ = some (.int .i64 B) := fun _ h => keptT h (b11.at_ 0 rfl) (by omega)
      have k1 : ∀ w', Touch r (r + 1) V4 w' → w'.cell? ⟨S, 1, none⟩ = some (.slice A k C) := fun _ h => keptT h (b11.at_ 1 rfl) (by omega)
      have k2 : ∀ w', Touch r (r + 1) V4 w' → w'.cell? ⟨P, 0, none⟩ = some (.int .i64 B) := fun _ h => keptT h (b7.at_ 0 rfl) (by omega)
      have k3 : ∀ w', Touch r (r + 1) V4 w' → w'.cell? ⟨P, 1, none⟩ = some (.slice D k E) := fun _ h => keptT h (b7.at_ 1 rfl) (by omega)
      refine wp_region_marked (fun w' => Touch r (r + 1) V4 w') 3 (by kernel_rfl) ?_
      have hS : Touch r (r + 1) V4 V4.drew := ⟨rfl, rfl, rfl, Nat.le_refl _, fun _ _ _ => rfl⟩
      refine wpAnyM_take (i := 0) (v := ?_) rfl (by kernel_rfl) (by kernel_rfl) (by kernel_rfl) (by kernel_rfl) (by kernel_rfl) (fun _ _ _ h => h) hS (.inl ⟨by rfl, ?_⟩) ?_
      rotate_left 1
      · intro w' hS'; go_simp; try with_reducible rfl
      simp only [Act.put, List.setIfInBounds_toArray]
      refine wpAnyM_take (i := 1) (v := ?_) rfl (by kernel_rfl) (by kernel_rfl) (by kernel_rfl) (by kernel_rfl) (by kernel_rfl) (fun _ _ _ h => h) hS (.inl ⟨by rfl, ?_⟩) ?_
      rotate_left 1
      · intro w' hS'; go_simp; try with_reducible rfl
      simp only [Act.put]
      clear k0 k1 k2 k3
      have c0 := b0.at_ 0 rfl
      have c1 := b0.at_ 1 rfl
      have f0 := b0.thaw 0
      have f1 := b0.thaw 1
      refine wpAnyM_one (i := 2) (by kernel_rfl) rfl (by rfl) (fun K hK => ?_)
      go_simp
      obtain ⟨w7, hw7⟩ : ∃ v, v = World.drew ((V4.setCell ⟨r, 0, none⟩ (.int .i64 B)).setCell ⟨r, 1, none⟩ (.slice A k C)) := ⟨_, rfl⟩
      rw [← hw7]
      have tt : Touch r (r + 1) V4 w7 := by rw [hw7]; exact (((Touch.refl _ _ _).setCell (by simp) (by simp) _).setCell (by simp) (by simp) _).trans ⟨rfl, rfl, rfl, Nat.le_refl _, fun _ _ _ => rfl⟩
      have br7 : Bx w7 r 26 #[.int .i64 B, .slice A k C] := by rw [hw7]; exact ((b0.set_ 0 _).set_ 1 _).drew
      have hs7 := tt.size
      have bq7 := b1.touch tt (by omega)
      have own7 := owa.touch tt (.inr (by omega))
      have ow27 := ow1.touch tt (.inr (by omega))
      have hb7 := hbel.trans (tt.below (Nat.le_refl _) (by omega))
      clear hw7 c0 c1 f0 f1
      refine hK _ _ (.inr tt) ?_
      try simp only [Act.put, List.setIfInBounds_toArray]
      clear hK K
      have c0 := bq7.at_ 0 rfl
      have c1 := bq7.at_ 1 rfl
      have f0 := bq7.thaw 0
      have f1 := bq7.thaw 1
      refine wpAnyM_one (i := 3) (by kernel_rfl) rfl (by rfl) (fun K hK => ?_)
      go_simp
      obtain ⟨w8, hw8⟩ : ∃ v, v = (w7.setCell ⟨r + 1, 0, none⟩ (.int .i64 B)).setCell ⟨r + 1, 1, none⟩ (.slice D k E) := ⟨_, rfl⟩
      rw [← hw8]
      have t8 : Touch (r + 1) (r + 1 + 1) w7 w8 := by rw [hw8]; exact ((Touch.refl _ _ _).setCell (by simp) (by simp) _).setCell (by simp) (by simp) _
      have bq8 : Bx w8 (r + 1) 26 #[.int .i64 B, .slice D k E] := by rw [hw8]; exact (bq7.set_ 0 _).set_ 1 _
      have hs8 := t8.size
      have br8 := br7.touch t8 (by omega)
      have own8 := own7.touch t8 (.inr (by omega))
      have ow28 := ow27.touch t8 (.inr (by omega))
      have hb8 := hb7.trans (t8.below (by omega) (by omega))
      clear hw8 c0 c1 f0 f1
      refine hK _ _ (.inl rfl) ?_
      try simp only [Act.put, List.setIfInBounds_toArray]
      clear hK K
      refine wpAnyM_one (i := 4) (by kernel_rfl) rfl (by rfl) (fun K hK => ?_)
      go_simp
      refine hK _ _ (.inl rfl) ?_
      clear hK K
      refine wpAnyM_done (by kernel_rfl) ?_ _
      have r0 := br8.at_ 0 rfl
      have r1 := br8.at_ 1 rfl
      have q0 := bq8.at_ 0 rfl
      have q1 := bq8.at_ 1 rfl
      go_wp2_with fail
      refine bodyPost_ret (v := .tuple #[.agg #[.int .i64 B, .slice A k C], .agg #[.int .i64 B, .slice D k E], .int .i64 0]) (by simp [results, Try.results30, go_sem, r0, r1, q0, q1]) rfl ?_
      have hl1 := rep_len k (B - 1)
      have hl2 := one_len g3
      unfold TwoGer
      rw [HW.out]
      refine ⟨A, C, D, E, P, ?_, ?_, ?_, ?_, ?_, ?_⟩
      · simp only [hl1, hl2]
      · simp only [hl1]; exact own8.wide (by omega) (by omega)
      · simp only [hl2]; exact ow28.wide (by have := HR.out; omega) (by omega)
      · have := HR.out; omega
      · omega
      · rw [← HR.out]; exact hb8
  · have HW := Lib.hid (wr_bad h)
    have hz : nrR B n 1 = (0, [], 2) := nrR_bad (by omega)
    unfold NewRegPost at HN
    rw [hz] at HN
    go_enter Try.func30, Try.ntmps30
    go_wp2_with fail
    rw [← HU.out, ← HR.out]
    refine (HN.out u).mono ?_
    rintro e w1 ⟨D, E, rfl, ow1, hb⟩
    replace b0 := b0.below hb
    replace b1 := b1.below hb
    replace hbel := hbel.trans (hb.mono (by omega))
    have hl0 := b1.lt
    clear hb HN HN0 HU h hz ow1
    go_upto_region 2 with fail
    obtain ⟨V9, hV9⟩ : ∃ X, X = w1.alloc (.cells #[.int .i64 0, .slice D 0 E] 26) := ⟨_, rfl⟩
    have hb9 : Below w1.heap.size w1 V9 := by rw [hV9]; exact (Below.refl _ _).alloc (Nat.le_refl _) _
    rw [← hV9]
    replace b0 := b0.below hb9
    replace b1 := b1.below hb9
    replace hbel := hbel.trans (hb9.mono (by omega))
    have hl9 := b1.lt
    clear hV9 hb9
    have r0 := b0.at_ 0 rfl
    have r1 := b0.at_ 1 rfl
    have r2 := b1.at_ 0 rfl
    have r3 := b1.at_ 1 rfl
    have f0 := b0.thaw 0
    have f1 := b0.thaw 1
    have f2 := b1.thaw 0
    have f3 := b1.thaw 1
    go_wp2
    exact bodyPost_ret (v := .tuple #[.agg #[.int .i64 0, .slice none 0 0], .agg #[.int .i64 0, .slice none 0 0], .int .i64 2]) (by simp [results, Try.results30, go_sem, r0, r1, r2, r3]) rfl
      (twoGer_err HW.out rfl (by rw [← HR.out]; exact (by repeat (first | exact hbel | refine Below.setCell ?_ (by first | omega | (simp <;> omega)) _ | refine Below.alloc ?_ (by first | omega | (simp <;> omega)) _ | refine Below.drew ?_))))
end Go.Proofs.Ytgfpjcckkbhdjaa
