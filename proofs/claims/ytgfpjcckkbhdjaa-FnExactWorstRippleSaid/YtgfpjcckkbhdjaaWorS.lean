/-
  spec.WorstRipple.
-/
import Derived.Test.YtgfpjcckkbhdjaaWorM
import Derived.Test.YtgfpjcckkbhdjaaOkS
import Derived.Deep.Cut
namespace Go.Proofs.Ytgfpjcckkbhdjaa
open Go.RowKit

set_option maxRecDepth 100000 in
set_option maxHeartbeats 4000000 in
theorem specWor_ok (B : Int) (n : Nat) (w : World) (h1 : 2 ≤ B) (h2 : B ≤ 16) (h3 : 1 ≤ n) (h4 : n ≤ 16) :
    Calls Try.prog 98 #[.int .i64 B, .int .i64 n] w (TwoReg (wrR B n) w) := by
  obtain ⟨r, hr⟩ : ∃ r, r = w.heap.size := ⟨_, rfl⟩
  obtain ⟨u, hu⟩ : ∃ u, u = ((w.alloc (.cells #[.int .i64 0, .slice none 0 0] 26)).alloc (.cells #[.int .i64 0, .slice none 0 0] 26)).alloc (.cells #[.int .i64 B, .slice none 0 0] 26) := ⟨_, rfl⟩
  have b0 : Bx u r 26 #[.int .i64 0, .slice none 0 0] := by rw [hu, hr]; exact ((Bx.new _ _ _).alloc _).alloc _
  have b1 : Bx u (r + 1) 26 #[.int .i64 0, .slice none 0 0] := by rw [hu, hr]; have := (Bx.new (w.alloc (.cells #[.int .i64 0, .slice none 0 0] 26)) #[.int .i64 0, .slice none 0 0] 26).alloc (.cells #[.int .i64 B, .slice none 0 0] 26); simpa using this
  have b2 : Bx u (r + 1 + 1) 26 #[.int .i64 B, .slice none 0 0] := by rw [hu, hr]; have := Bx.new ((w.alloc (.cells #[.int .i64 0, .slice none 0 0] 26)).alloc (.cells #[.int .i64 0, .slice none 0 0] 26)) #[.int .i64 B, .slice none 0 0] 26; simpa using this
  have hbel : Below r w u := by rw [hu, hr]; exact (by repeat (first | exact Below.refl _ _ | refine Below.setCell ?_ (by first | omega | (simp <;> omega)) _ | refine Below.alloc ?_ (by first | omega | (simp <;> omega)) _ | refine Below.drew ?_))
  have hsu : u.heap.size = r + 3 := by rw [hu, hr]; simp
  have HU := Lib.hid hu
  have HR := Lib.hid hr
  have HB := Lib.hid (show baseB B = true by simp [baseB]; omega)
  have HI := Lib.hid (show inB (n : Int) 1 16 = true by simp [inB]; omega)
  clear hu hr
  go_enter Try.func98, Try.ntmps98
  go_wp2_with (first | (go_at_call 196; refine (l02Base_any B _).mono ?_; rintro e w1 ⟨rfl, hq⟩; subst w1; rw [HB.out]) | (go_at_call 132; refine (l00In_any _ _ _ _).mono ?_; rintro e w1 ⟨rfl, hq⟩; subst w1; rw [HI.out]))
  rw [← HU.out, ← HR.out]
  go_loopw [8] (fun i wr => ∃ (k : Nat) (A : Option Addr) (C : Nat), k ≤ n ∧ i = .int .i64 k ∧ Bx wr r 26 #[.int .i64 0, .slice none 0 0] ∧ Bx wr (r + 1) 26 #[.int .i64 0, .slice none 0 0] ∧ Bx wr (r + 1 + 1) 26 #[.int .i64 B, .slice A k C] ∧
      Own 2 wr (r + 3) wr.heap.size (.slice A k C) (rep k (B - 1)) ∧ Below r w wr) (fun i _ => n - (intOf i).toNat)
  case atStart => exact ⟨0, none, 0, Nat.zero_le _, rfl, b0, b1, b2, own_nil _ _ _ _, hbel⟩
  case round =>
    clear b0 b1 b2 hbel hsu HU
    obtain ⟨k, A, C, hk, rfl, b0, b1, b2, own, hbel⟩ := hrel
    have hz := b2.lt
    have c0 := b2.at_ 0 rfl
    have c1 := b2.at_ 1 rfl
    by_cases hlt : k < n
    · have v1 : IntKind.i64.wrap (B - 1) = B - 1 := fits_int _ (by omega) (by omega)
      have bd := (b2.alloc (.cells #[.int .i64 (B - 1)] 2))
      have HT := Lib.hid (rep_succ k (B - 1))
      go_wp2_with (at_builtin; go_must (refine wpList_appI rfl (.tmp 29) (.tmp 32) 24 2 rfl Try.underlying24 info_int64 rfl (own.alloc _) (rep_len _ _) ⟨wr.heap.size, 0, none⟩ 1 (B - 1) rfl (cell_new1 wr _ _) (by omega) (by simp <;> omega) ?_); intro A' C' w5 own5 ht5; have d2 := bd.touch ht5 (by omega); have dc := d2.at_ 1 rfl; have df := d2.thaw 1)
      rw [← HT.out] at own5
      have e0 := ((b0.alloc (.cells #[.int .i64 (B - 1)] 2)).touch ht5 (by omega)).far (p := ⟨r + 1 + 1, 1, none⟩) (by simp <;> omega) (.slice A' (k + 1) C')
      have e1 := ((b1.alloc (.cells #[.int .i64 (B - 1)] 2)).touch ht5 (by omega)).far (p := ⟨r + 1 + 1, 1, none⟩) (by simp <;> omega) (.slice A' (k + 1) C')
      have e2 := d2.set_ 1 (.slice A' (k + 1) C')
      have e3 : Own 2 (w5.setCell ⟨r + 1 + 1, 1, none⟩ (.slice A' (k + 1) C')) (r + 3) (w5.setCell ⟨r + 1 + 1, 1, none⟩ (.slice A' (k + 1) C')).heap.size (.slice A' (k + 1) C') (rep (k + 1) (B - 1)) := (own5.setCell (p := ⟨r + 1 + 1, 1, none⟩) (.inl (by simp)) (.slice A' (k + 1) C')).wide (Nat.le_refl _) (by simp)
      have q1 : Below r w (wr.alloc (.cells #[.int .i64 (B - 1)] 2)) := hbel.alloc (by omega) _
      have q2 : Below r (wr.alloc (.cells #[.int .i64 (B - 1)] 2)) w5 := ht5.below (by omega) (by simp; omega)
      have e4 := (q1.trans q2).setCell (p := ⟨r + 1 + 1, 1, none⟩) (by show r ≤ r + 1 + 1; omega) (.slice A' (k + 1) C')
      go_roundw
      case rel => exact ⟨k + 1, A', C', by omega, by go_num, e0, e1, e2, e3, e4⟩
      case measure => (simp [intOf]) <;> omega
    · obtain rfl : k = n := by omega
      clear hlt hk
      have hrd := own.rd
      have HL := Lib.hid (rep_len k (B - 1))
      have hcon : Calls Try.prog 110 #[.pointer (some ⟨r + 1 + 1, 0, none⟩)] wr fun e w' => e = .returned (.bool (okB B (rep k (B - 1)))) ∧ ∃ n, w' = wr.drewN n := by
        have := l02Ok_any (r + 1 + 1) B A C (rep k (B - 1)) wr hrd c0 (by rw [HL.out]; exact c1)
        exact this
      have HC := Lib.hid hcon
      have HNE := Lib.hid (fun v => specl02New_any B 1 k v h1 h2 h4 (by omega) (by omega))
      clear hcon hrd c0 c1
      cases hok : okB B (rep k (B - 1)) with
      | false =>
        rw [hok] at HC
        have HW := Lib.hid (wr_full (n := k) ⟨h1, h2, by omega, by omega⟩ hok)
        clear hok
        go_wp2_with fail
        refine HC.out.mono ?_
        rintro e w2 ⟨rfl, m, rfl⟩
        obtain ⟨V, hV⟩ : ∃ V, V = wr.drewN m := ⟨_, rfl⟩
        replace b0 := hV ▸ b0.drewN m
        replace b1 := hV ▸ b1.drewN m
        replace hbel := hV ▸ bel_drewN hbel m
        rw [← hV]
        clear hV
        have r0 := b0.at_ 0 rfl
        have r1 := b0.at_ 1 rfl
        have r2 := b1.at_ 0 rfl
        have r3 := b1.at_ 1 rfl
        have f0 := b0.thaw 0
        have f1 := b0.thaw 1
        have f2 := b1.thaw 0
        have f3 := b1.thaw 1
        go_wp2
        exact bodyPost_ret (v := .tuple #[.agg #[.int .i64 0, .slice none 0 0], .agg #[.int .i64 0, .slice none 0 0], .int .i64 5]) (by simp [results, Try.results98, go_sem, r0, r1, r2, r3]) rfl
          (twoReg_err HW.out rfl (by rw [← HR.out]; exact (by repeat (first | exact hbel | refine Below.setCell ?_ (by first | omega | (simp <;> omega)) _ | refine Below.alloc ?_ (by first | omega | (simp <;> omega)) _ | refine Below.drew ?_))))
      | true =>
        rw [hok] at HC
        have HW := Lib.hid (wr_ok (n := k) ⟨h1, h2, by omega, by omega⟩ hok)
        clear hok
        go_wp2_with fail
        refine HC.out.mono ?_
        rintro e w2 ⟨rfl, m, rfl⟩
        obtain ⟨V, hV⟩ : ∃ V, V = wr.drewN m := ⟨_, rfl⟩
        have hzV : V.heap.size = wr.heap.size := by rw [hV]; rfl
        replace b0 := hV ▸ b0.drewN m
        replace b1 := hV ▸ b1.drewN m
        replace b2 := hV ▸ b2.drewN m
        rw [← hzV] at own hz
        replace own : Own 2 V (r + 3) V.heap.size (.slice A k C) (rep k (B - 1)) := by rw [hV] at own ⊢; exact own.drewN m
        replace hbel := hV ▸ bel_drewN hbel m
        rw [← hV]
        clear hV hzV HC
        go_wp2_with fail
        refine (HNE.out V).mono ?_
        rintro e w3 ⟨D, E, rfl, ow2, hb⟩
        replace b0 := b0.below hb
        replace b1 := b1.below hb
        replace b2 := b2.below hb
        have hs3 := hb.size
        replace own := own.below hb
        replace hbel := hbel.trans (hb.mono (by omega))
        clear hb
        go_upto_region 11 with fail
        obtain ⟨P, hP⟩ : ∃ P, P = w3.heap.size := ⟨_, rfl⟩
        obtain ⟨V4, hV4⟩ : ∃ X, X = w3.alloc (.cells #[.int .i64 B, .slice D k E] 26) := ⟨_, rfl⟩
        have b9 : Bx V4 P 26 #[.int .i64 B, .slice D k E] := by rw [hV4, hP]; exact Bx.new _ _ _
        have hb4 : Below w3.heap.size w3 V4 := by rw [hV4]; exact (Below.refl _ _).alloc (Nat.le_refl _) _
        rw [← hV4, ← hP]
        replace b0 := b0.below hb4
        replace b1 := b1.below hb4
        replace b2 := b2.below hb4
        replace own := own.below hb4
        replace ow2 := ow2.below hb4
        replace hbel := hbel.trans (hb4.mono (by omega))
        have hs4 := hb4.size
        rw [← hP] at hs3 hs4 ow2
        clear hV4 hb4 hP
        have k0 : ∀ w', Touch r (r + 1) V4 w' → w'.cell? ⟨r + 1 + 1, 0, none⟩ = some (.int .i64 B) := fun _ h => keptT h (b2.at_ 0 rfl) (by omega)
        have k1 : ∀ w', Touch r (r + 1) V4 w' → w'.cell? ⟨r + 1 + 1, 1, none⟩ = some (.slice A k C) := fun _ h => keptT h (b2.at_ 1 rfl) (by omega)
        have k2 : ∀ w', Touch r (r + 1) V4 w' → w'.cell? ⟨P, 0, none⟩ = some (.int .i64 B) := fun _ h => keptT h (b9.at_ 0 rfl) (by omega)
        have k3 : ∀ w', Touch r (r + 1) V4 w' → w'.cell? ⟨P, 1, none⟩ = some (.slice D k E) := fun _ h => keptT h (b9.at_ 1 rfl) (by omega)
        refine wp_region_marked (fun w' => Touch r (r + 1) V4 w') 3 (by kernel_rfl) ?_
        have hS : Touch r (r + 1) V4 V4.drew := ⟨rfl, rfl, rfl, Nat.le_refl _, fun _ _ _ => rfl⟩
        refine wpAnyM_take (i := 0) (v := ?_) rfl (by kernel_rfl) (by kernel_rfl) (by kernel_rfl) (by kernel_rfl) (by kernel_rfl) (fun _ _ _ h => h) hS (.inl ⟨by rfl, ?_⟩) ?_
        rotate_left 1
        · intro w' hS'; go_simp; try with_reducible rfl
        simp only [Act.put, List.setIfInBounds_toArray]
        refine wpAnyM_take (i := 1) (v := ?_) rfl (by kernel_rfl) (by kernel_rfl) (by kernel_rfl) (by kernel_rfl) (by kernel_rfl) (fun _ _ _ h => h) hS (.inl ⟨by rfl, ?_⟩) ?_
        rotate_left 1
        · intro w' hS'; go_simp; try with_reducible rfl
        simp only [Act.put]
        clear k0 k1 k2 k3
        have c0 := b0.at_ 0 rfl
        have c1 := b0.at_ 1 rfl
        have f0 := b0.thaw 0
        have f1 := b0.thaw 1
        refine wpAnyM_one (i := 2) (by kernel_rfl) rfl (by rfl) (fun K hK => ?_)
        go_simp
        obtain ⟨w7, hw7⟩ : ∃ v, v = World.drew ((V4.setCell ⟨r, 0, none⟩ (.int .i64 B)).setCell ⟨r, 1, none⟩ (.slice A k C)) := ⟨_, rfl⟩
        rw [← hw7]
        have tt : Touch r (r + 1) V4 w7 := by rw [hw7]; exact (((Touch.refl _ _ _).setCell (by simp) (by simp) _).setCell (by simp) (by simp) _).trans ⟨rfl, rfl, rfl, Nat.le_refl _, fun _ _ _ => rfl⟩
        have br7 : Bx w7 r 26 #[.int .i64 B, .slice A k C] := by rw [hw7]; exact ((b0.set_ 0 _).set_ 1 _).drew
        have hs7 := tt.size
        have bq7 := b1.touch tt (by omega)
        have own7 := own.touch tt (.inr (by omega))
        have ow27 := ow2.touch tt (.inr (by omega))
        have hb7 := hbel.trans (tt.below (Nat.le_refl _) (by omega))
        clear hw7 c0 c1 f0 f1
        refine hK _ _ (.inr tt) ?_
        try simp only [Act.put, List.setIfInBounds_toArray]
        clear hK K
        have c0 := bq7.at_ 0 rfl
        have c1 := bq7.at_ 1 rfl
        have f0 := bq7.thaw 0
        have f1 := bq7.thaw 1
        refine wpAnyM_one (i := 3) (by kernel_rfl) rfl (by rfl) (fun K hK => ?_)
        go_simp
        obtain ⟨w8, hw8⟩ : ∃ v, v = (w7.setCell ⟨r + 1, 0, none⟩ (.int .i64 B)).setCell ⟨r + 1, 1, none⟩ (.slice D k E) := ⟨_, rfl⟩
        rw [← hw8]
        have t8 : Touch (r + 1) (r + 1 + 1) w7 w8 := by rw [hw8]; exact ((Touch.refl _ _ _).setCell (by simp) (by simp) _).setCell (by simp) (by simp) _
        have bq8 : Bx w8 (r + 1) 26 #[.int .i64 B, .slice D k E] := by rw [hw8]; exact (bq7.set_ 0 _).set_ 1 _
        have hs8 := t8.size
        have br8 := br7.touch t8 (by omega)
        have own8 := own7.touch t8 (.inr (by omega))
        have ow28 := ow27.touch t8 (.inr (by omega))
        have hb8 := hb7.trans (t8.below (by omega) (by omega))
        clear hw8 c0 c1 f0 f1
        refine hK _ _ (.inl rfl) ?_
        try simp only [Act.put, List.setIfInBounds_toArray]
        clear hK K
        refine wpAnyM_one (i := 4) (by kernel_rfl) rfl (by rfl) (fun K hK => ?_)
        go_simp
        refine hK _ _ (.inl rfl) ?_
        clear hK K
        refine wpAnyM_done (by kernel_rfl) ?_ _
        have r0 := br8.at_ 0 rfl
        have r1 := br8.at_ 1 rfl
        have q0 := bq8.at_ 0 rfl
        have q1 := bq8.at_ 1 rfl
        have HF := Lib.hid (digs_one h1 h3)
        go_wp2_with fail
        refine bodyPost_ret (v := .tuple #[.agg #[.int .i64 B, .slice A k C], .agg #[.int .i64 B, .slice D k E], .int .i64 0]) (by simp [results, Try.results98, go_sem, r0, r1, q0, q1]) rfl ?_
        rw [HF.out] at ow28
        have hl1 := rep_len k (B - 1)
        have hl2 := one_len h3
        unfold TwoReg
        rw [HW.out]
        refine ⟨A, C, D, E, V.heap.size, ?_, ?_, ?_, ?_, ?_, ?_⟩
        · simp only [hl1, hl2]
        · simp only [hl1]; exact own8.wide (by have := HR.out; omega) (Nat.le_refl _)
        · simp only [hl2]; exact ow28.wide (Nat.le_refl _) (by omega)
        · have := HR.out; omega
        · omega
        · rw [← HR.out]; exact hb8

set_option maxRecDepth 100000 in
theorem specWorstRipple (B n : Int) (w : World) (_ : I64 B) (_ : I64 n) : Calls Try.prog 98 #[.int .i64 B, .int .i64 n] w (TwoReg (wrR B n) w) := by
  by_cases h : 2 ≤ B ∧ B ≤ 16 ∧ 1 ≤ n ∧ n ≤ 16
  · obtain ⟨h1, h2, h3, h4⟩ := h
    obtain ⟨n, rfl⟩ := Int.eq_ofNat_of_zero_le (show 0 ≤ n by omega)
    exact specWor_ok B n w h1 h2 (by omega) (by omega)
  · have HN := Lib.hid (wr_bad h)
    have hc : B < 2 ∨ (2 ≤ B ∧ 16 < B) ∨ (2 ≤ B ∧ B ≤ 16 ∧ n < 1) ∨ (2 ≤ B ∧ B ≤ 16 ∧ 1 ≤ n ∧ 16 < n) := by omega
    clear h
    rcases hc with h1 | ⟨h1, h2⟩ | ⟨h1, h2, h3⟩ | ⟨h1, h2, h3, h4⟩
    all_goals
      try have hd : decide (n ≤ 16) = false := decide_eq_false (by omega)
      go_enter Try.func98, Try.ntmps98
      go_wp2
      exact bodyPost_ret (v := .tuple #[.agg #[.int .i64 0, .slice none 0 0], .agg #[.int .i64 0, .slice none 0 0], .int .i64 2]) (by simp [results, Try.results98, go_sem]) rfl
        (twoReg_err HN.out rfl (by repeat (first | exact Below.refl _ _ | refine Below.setCell ?_ (by first | omega | (simp <;> omega)) _ | refine Below.alloc ?_ (by first | omega | (simp <;> omega)) _ | refine Below.drew ?_)))
end Go.Proofs.Ytgfpjcckkbhdjaa
