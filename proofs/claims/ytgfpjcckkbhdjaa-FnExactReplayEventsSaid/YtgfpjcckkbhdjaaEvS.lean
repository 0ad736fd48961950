/-
  spec: a register of its own; can an event happen; ReplayEvents.
-/
import Derived.Test.YtgfpjcckkbhdjaaEvI
import Derived.Test.YtgfpjcckkbhdjaaCloneI
import Derived.Test.YtgfpjcckkbhdjaaOkS
import Derived.Test.YtgfpjcckkbhdjaaFlat
import Derived.Test.YtgfpjcckkbhdjaaRegC
namespace Go.Proofs.Ytgfpjcckkbhdjaa
open Go.RowKit

set_option maxRecDepth 100000 in
set_option maxHeartbeats 4000000 in
theorem l02Own_any (p : Nat) (B : Int) (A : Option Addr) (C : Nat) (zs : List Int) (w : World) (ha : Rd w A zs) (hne : 0 < zs.length) (h0 : w.cell? ⟨p, 0, none⟩ = some (.int .i64 B)) (h1 : w.cell? ⟨p, 1, none⟩ = some (.slice A zs.length C)) :
    Calls Try.prog 193 #[.pointer (some ⟨p, 0, none⟩)] w fun e w' => ∃ D E, e = .returned (.agg #[.int .i64 B, .slice D zs.length E]) ∧ Own 2 w' w.heap.size w'.heap.size (.slice D zs.length E) zs ∧ Below w.heap.size w w' := by
  obtain ⟨r, hr⟩ : ∃ r, r = w.heap.size := ⟨_, rfl⟩
  obtain ⟨u, hu⟩ : ∃ u, u = w.alloc (.cells #[.int .i64 0, .slice none 0 0] 26) := ⟨_, rfl⟩
  have b0 : Bx u r 26 #[.int .i64 0, .slice none 0 0] := by rw [hu, hr]; exact Bx.new _ _ _
  have hbel : Below w.heap.size w u := by rw [hu]; exact (by repeat (first | exact Below.refl _ _ | refine Below.setCell ?_ (by first | omega | (simp <;> omega)) _ | refine Below.alloc ?_ (by first | omega | (simp <;> omega)) _ | refine Below.drew ?_))
  have hlr := b0.lt
  replace ha := ha.below hbel
  have k0 : ∀ w', Below u.heap.size u w' → w'.cell? ⟨p, 0, none⟩ = some (.int .i64 B) := kept_all (kept hbel h0)
  have k1 : ∀ w', Below u.heap.size u w' → w'.cell? ⟨p, 1, none⟩ = some (.slice A zs.length C) := kept_all (kept hbel h1)
  rw [← hr] at hbel
  have HU := Lib.hid hu
  have HR := Lib.hid hr
  clear hu hr h0 h1
  go_enter Try.func193, Try.ntmps193
  go_upto_region 1 with fail
  rw [← HU.out, ← HR.out]
  refine wp_region_marked (fun w' => Below u.heap.size u w') 10 (by kernel_rfl) ?_
  have hS : Below u.heap.size u u.drew := (Below.refl _ _).drew
  refine wpAnyM_take (i := 0) (v := ?_) rfl (by kernel_rfl) (by kernel_rfl) (by kernel_rfl) (by kernel_rfl) (by kernel_rfl) (fun _ _ _ h => h) hS (.inl ⟨by rfl, ?_⟩) ?_
  rotate_left 1
  · intro w' hS'; go_simp; try with_reducible rfl
  simp only [Act.put, List.setIfInBounds_toArray]
  refine wpAnyM_take (i := 1) (v := ?_) rfl (by kernel_rfl) (by kernel_rfl) (by kernel_rfl) (by kernel_rfl) (by kernel_rfl) (fun _ _ _ h => h) hS (.inl ⟨by rfl, ?_⟩) ?_
  rotate_left 1
  · intro w' hS'; go_simp; try with_reducible rfl
  simp only [Act.put]
  refine wpAnyM_take (i := 2) (v := ?_) rfl (by kernel_rfl) (by kernel_rfl) (by kernel_rfl) (by kernel_rfl) (by kernel_rfl) (fun _ _ _ h => h) hS (.inl ⟨by rfl, ?_⟩) ?_
  rotate_left 1
  · intro w' hS'; go_simp; try with_reducible rfl
  simp only [Act.put]
  refine wpAnyM_take (i := 3) (v := ?_) rfl (by kernel_rfl) (by kernel_rfl) (by kernel_rfl) (by kernel_rfl) (by kernel_rfl) (fun _ _ _ h => h) hS (.inl ⟨by rfl, ?_⟩) ?_
  rotate_left 1
  · intro w' hS'; go_simp; try with_reducible rfl
  simp only [Act.put]
  refine wpAnyM_take (i := 4) (v := ?_) rfl (by kernel_rfl) (by kernel_rfl) (by kernel_rfl) (by kernel_rfl) (by kernel_rfl) (fun _ _ _ h => h) hS (.inl ⟨by rfl, ?_⟩) ?_
  rotate_left 1
  · intro w' hS'; go_simp; try with_reducible rfl
  simp only [Act.put]
  refine wpAnyM_take (i := 5) (v := ?_) rfl (by kernel_rfl) (by kernel_rfl) (by kernel_rfl) (by kernel_rfl) (by kernel_rfl) (fun _ _ _ h => h) hS (.inl ⟨by rfl, ?_⟩) ?_
  rotate_left 1
  · intro w' hS'; go_simp; try with_reducible rfl
  simp only [Act.put]
  refine wpAnyM_take (i := 6) (v := ?_) rfl (by kernel_rfl) (by kernel_rfl) (by kernel_rfl) (by kernel_rfl) (by kernel_rfl) (fun _ _ _ h => h) hS (.inl ⟨by rfl, ?_⟩) ?_
  rotate_left 1
  · intro w' hS'; go_simp; try with_reducible rfl
  simp only [Act.put]
  refine wpAnyM_take (i := 7) (v := ?_) rfl (by kernel_rfl) (by kernel_rfl) (by kernel_rfl) (by kernel_rfl) (by kernel_rfl) (fun _ _ _ h => h) hS (.inl ⟨by rfl, ?_⟩) ?_
  rotate_left 1
  · intro w' hS'; go_simp; try with_reducible rfl
  simp only [Act.put]
  clear k0 k1
  refine wpAnyM_one (i := 8) (by kernel_rfl) rfl (by rfl) (fun K hK => ?_)
  go_simp
  refine (l00Own_any A C zs u.drew ⟨ha.len, ha.cells⟩ hne).mono ?_
  rintro e w1 ⟨D, E, rfl, ow, hb⟩
  have hS1 : Below u.heap.size u w1 := hS.trans hb
  have hs1 := hS1.size
  replace ow : Own 2 w1 u.heap.size w1.heap.size (.slice D zs.length E) zs := ow
  replace b0 := b0.below hS1
  refine hK _ _ (.inr hS1) ?_
  try simp only [Act.put, List.setIfInBounds_toArray]
  clear hK K
  refine wpAnyM_one (i := 9) (by kernel_rfl) rfl (by rfl) (fun K hK => ?_)
  go_simp
  refine hK _ _ (.inr hS1) ?_
  try simp only [Act.put, List.setIfInBounds_toArray]
  clear hK K
  have c0 := b0.at_ 0 rfl
  have c1 := b0.at_ 1 rfl
  have f0 := b0.thaw 0
  have f1 := b0.thaw 1
  refine wpAnyM_one (i := 10) (by kernel_rfl) rfl (by rfl) (fun K hK => ?_)
  go_simp
  obtain ⟨w8, hw8⟩ : ∃ v, v = (w1.setCell ⟨r, 0, none⟩ (.int .i64 B)).setCell ⟨r, 1, none⟩ (.slice D zs.length E) := ⟨_, rfl⟩
  rw [← hw8]
  have b9 : Bx w8 r 26 #[.int .i64 B, .slice D zs.length E] := by rw [hw8]; exact (b0.set_ 0 _).set_ 1 _
  have t9 : Touch r (r + 1) w1 w8 := by rw [hw8]; exact ((Touch.refl _ _ _).setCell (by simp) (by simp) _).setCell (by simp) (by simp) _
  have hs9 := t9.size
  have ow9 := ow.touch t9 (.inr (by omega))
  have hb9 : Below r w w8 := (hbel.trans (hS1.mono (by omega))).trans (t9.below (by omega) (by omega))
  clear hw8 c0 c1 f0 f1
  refine hK _ _ (.inl rfl) ?_
  try simp only [Act.put, List.setIfInBounds_toArray]
  clear hK K
  refine wpAnyM_done (by kernel_rfl) ?_ _
  have c0 := b9.at_ 0 rfl
  have c1 := b9.at_ 1 rfl
  go_wp2_with fail
  refine bodyPost_ret (v := .agg #[.int .i64 B, .slice D zs.length E]) (by simp [results, Try.results193, go_sem, c0, c1]) rfl ?_
  have hr := HR.out
  exact ⟨D, E, rfl, ow9.wide (by omega) (by omega), by rw [← hr]; exact hb9⟩

theorem l00In_b (n lo hi : Int) (w : World) : Calls Try.prog 132 #[.int .i64 n, .int .i64 lo, .int .i64 hi] w fun e w' => e = .returned (.bool (inB n lo hi)) ∧ Below w.heap.size w w' :=
  (l00In_any n lo hi w).mono fun e w' ⟨a, b⟩ => ⟨a, by rw [b]; exact Below.refl _ _⟩
set_option maxHeartbeats 2000000 in
theorem l06Event_any (p : Nat) (B : Int) (A : Option Addr) (n C : Nat) (k h s : Int) (w : World) (hB : 2 ≤ B ∧ B ≤ 16) (hn : n ≤ 16) (h0 : w.cell? ⟨p, 0, none⟩ = some (.int .i64 B)) (h1 : w.cell? ⟨p, 1, none⟩ = some (.slice A n C)) :
    Calls Try.prog 194 #[.pointer (some ⟨p, 0, none⟩), .agg #[.int .i64 k, .int .i64 h, .int .i64 s]] w fun e w' => e = .returned (.bool (evOk B n (k, h, s))) ∧ Below w.heap.size w w' := by
  have v1 : IntKind.i64.wrap ((n : Int) - 1) = (n : Int) - 1 := fits_int _ (by omega) (by omega)
  have v2 : IntKind.i64.wrap (B - 1) = B - 1 := fits_int _ (by omega) (by omega)
  have HO := Lib.hid (show evOk B n (k, h, s) = (inB k 1 3 && inB h 0 ((n : Int) - 1) && inB s 0 (B - 1)) from rfl)
  obtain ⟨r, hr⟩ : ∃ r, r = w.heap.size := ⟨_, rfl⟩
  obtain ⟨u, hu⟩ : ∃ u, u = w.alloc (.cells #[.int .i64 k, .int .i64 h, .int .i64 s] 41) := ⟨_, rfl⟩
  have b0 : Bx u r 41 #[.int .i64 k, .int .i64 h, .int .i64 s] := by rw [hu, hr]; exact Bx.new _ _ _
  have hbel : Below w.heap.size w u := by rw [hu]; exact (by repeat (first | exact Below.refl _ _ | refine Below.setCell ?_ (by first | omega | (simp <;> omega)) _ | refine Below.alloc ?_ (by first | omega | (simp <;> omega)) _ | refine Below.drew ?_))
  replace h0 := kept hbel h0
  replace h1 := kept hbel h1
  have HU := Lib.hid hu
  have HR := Lib.hid hr
  clear hu hr
  have c0 := kept_after (v := .int .i64 k) (b0.at_ 0 rfl)
  have c1 := kept_after (v := .int .i64 h) (b0.at_ 1 rfl)
  have c2 := kept_after (v := .int .i64 s) (b0.at_ 2 rfl)
  have c3 := kept_after h0
  have c4 := kept_after h1
  clear h0 h1 b0
  have HK := Lib.hid (l00In_b k 1 3)
  have HH := Lib.hid (l00In_b h 0 ((n : Int) - 1))
  have HI := Lib.hid (l00In_b s 0 (B - 1))
  cases hk : inB k 1 3 with
  | false =>
    rw [hk] at HO HK
    go_enter Try.func194, Try.ntmps194
    go_upto_region 1 with fail
    rw [← HU.out, ← HR.out]
    refine wp_region_after (by kernel_rfl) (by kernel_rfl) ?_
    repeat (go_big_quiet_step ((go_at_call 132; with_reducible (first | exact calls_after (HK.out _) | exact calls_after (HH.out _) | exact calls_after (HI.out _)))))
    refine wpQuiet_nil ?_
    intro q
    go_wp2
    go_ret
    exact ⟨ret_bool HO.out.symm, hbel.trans (q.ok.mono hbel.size)⟩
  | true =>
    rw [hk] at HO HK
    cases hh : inB h 0 ((n : Int) - 1) with
    | false =>
      rw [hh] at HO HH
      go_enter Try.func194, Try.ntmps194
      go_upto_region 1 with fail
      rw [← HU.out, ← HR.out]
      refine wp_region_after (by kernel_rfl) (by kernel_rfl) ?_
      repeat (go_big_quiet_step ((go_at_call 132; with_reducible (first | exact calls_after (HK.out _) | exact calls_after (HH.out _) | exact calls_after (HI.out _)))))
      refine wpQuiet_nil ?_
      intro q
      go_wp2
      go_ret
      exact ⟨ret_bool HO.out.symm, hbel.trans (q.ok.mono hbel.size)⟩
    | true =>
      rw [hh] at HO HH
      have HO2 := Lib.hid (show evOk B n (k, h, s) = inB s 0 (B - 1) by rw [HO.out]; rfl)
      clear HO
      go_enter Try.func194, Try.ntmps194
      go_upto_region 1 with fail
      rw [← HU.out, ← HR.out]
      refine wp_region_after (by kernel_rfl) (by kernel_rfl) ?_
      repeat (go_big_quiet_step ((go_at_call 132; with_reducible (first | exact calls_after (HK.out _) | exact calls_after (HH.out _) | exact calls_after (HI.out _)))))
      refine wpQuiet_nil ?_
      intro q
      go_wp2
      go_ret
      exact ⟨ret_bool HO2.out.symm, hbel.trans (q.ok.mono hbel.size)⟩

theorem l06Full_any (p : Nat) (B : Int) (A : Option Addr) (C : Nat) (zs : List Int) (w : World) (ha : Rd w A zs) (h0 : w.cell? ⟨p, 0, none⟩ = some (.int .i64 B)) (h1 : w.cell? ⟨p, 1, none⟩ = some (.slice A zs.length C)) :
    Calls Try.prog 184 #[.pointer (some ⟨p, 0, none⟩)] w fun e w' => e = .returned (.int .i64 (if okB B zs = true then 0 else 5)) ∧ ∃ n, w' = w.drewN n := by
  have HC := Lib.hid (l02Ok_any p B A C zs w ha h0 h1)
  cases hok : okB B zs with
  | false =>
    rw [hok] at HC
    go_enter Try.func184, Try.ntmps184
    go_wp2_with fail
    refine HC.out.mono ?_
    rintro e w1 ⟨rfl, m, rfl⟩
    go_wp2
    go_ret
    exact ⟨rfl, m, rfl⟩
  | true =>
    rw [hok] at HC
    go_enter Try.func184, Try.ntmps184
    go_wp2_with fail
    refine HC.out.mono ?_
    rintro e w1 ⟨rfl, m, rfl⟩
    go_wp2
    go_ret
    exact ⟨rfl, m, rfl⟩
end Go.Proofs.Ytgfpjcckkbhdjaa
