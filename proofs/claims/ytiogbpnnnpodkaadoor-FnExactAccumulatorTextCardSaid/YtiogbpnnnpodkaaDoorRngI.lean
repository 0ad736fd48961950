/-
  impl: the least and the greatest number; AccumulatorRange.
-/
import Derived.Test.YtiogbpnnnpodkaaDoorCirI
namespace Go.Proofs.YtiogbpnnnpodkaaDoor
open Go.RowKit

set_option maxHeartbeats 1000000 in
theorem least_any (B n N : Int) (w : World) (h1 : 1 ≤ N) (h2 : N ≤ 1000000000001) :
    Calls Tryd.prog 93 #[.agg #[.int .i64 B, .int .i64 n, .int .i64 N]] w fun e w' => e = .returned (.int .i64 (-(N / 2))) ∧ Below w.heap.size w w' := by
  have ht : N.tdiv 2 = N / 2 := Int.tdiv_eq_ediv_of_nonneg (by omega)
  obtain ⟨q, hq⟩ : ∃ q, q = N / 2 := ⟨_, rfl⟩
  rw [← hq] at ht ⊢
  have hq2 : 0 ≤ q ∧ q ≤ 1000000000002 := by omega
  clear hq
  go_enter Tryd.func93, Tryd.ntmps93
  go_wp2
  go_ret
  exact ⟨rfl, (by repeat (first | exact Below.refl _ _ | refine Below.setCell ?_ (by first | omega | (simp <;> omega)) _ | refine Below.alloc ?_ (by first | omega | (simp <;> omega)) _ | refine Below.drew ?_))⟩

set_option maxHeartbeats 1000000 in
theorem greatest_any (B n N : Int) (w : World) (h1 : 1 ≤ N) (h2 : N ≤ 1000000000001) :
    Calls Tryd.prog 94 #[.agg #[.int .i64 B, .int .i64 n, .int .i64 N]] w fun e w' => e = .returned (.int .i64 (N - 1 + -(N / 2))) ∧ Below w.heap.size w w' := by
  obtain ⟨u, hu⟩ : ∃ u, u = w.alloc (.cells #[.int .i64 B, .int .i64 n, .int .i64 N] 81) := ⟨_, rfl⟩
  have bx : Bx u w.heap.size 81 #[.int .i64 B, .int .i64 n, .int .i64 N] := by rw [hu]; exact Bx.new _ _ _
  have hbel : Below w.heap.size w u := by rw [hu]; exact (by repeat (first | exact Below.refl _ _ | refine Below.setCell ?_ (by first | omega | (simp <;> omega)) _ | refine Below.alloc ?_ (by first | omega | (simp <;> omega)) _ | refine Below.drew ?_))
  have c0 := kept_after (bx.at_ 0 rfl)
  have c1 := kept_after (bx.at_ 1 rfl)
  have c2 := kept_after (bx.at_ 2 rfl)
  have HC := Lib.hid (fun v => least_any B n N v h1 h2)
  obtain ⟨q, hq⟩ : ∃ q, q = N / 2 := ⟨_, rfl⟩
  rw [← hq] at HC ⊢
  have hq2 : 0 ≤ q ∧ q ≤ 1000000000002 := by omega
  have HU := Lib.hid hu
  clear hu bx hq
  go_enter Tryd.func94, Tryd.ntmps94
  go_wp2
  rw [← HU.out]
  refine wp_region_after (by kernel_rfl) (by kernel_rfl) ?_
  repeat (go_big_quiet_step ((go_at_call 93; exact calls_after (HC.out _))))
  refine wpQuiet_nil ?_
  intro u
  go_wp2
  go_ret
  exact ⟨rfl, hbel.trans (u.ok.mono hbel.size)⟩

set_option maxHeartbeats 1000000 in
theorem implAccumulatorRange (B n : Int) (w : World) (_ : I64 B) (_ : I64 n) :
    Calls Tryd.prog 42 #[.int .i64 B, .int .i64 n] w fun e w' => e = .returned (.tuple #[.int .i64 (rngA B n).1, .int .i64 (rngA B n).2.1, .int .i64 (rngA B n).2.2]) ∧ Below w.heap.size w w' := by
  have R := Tryd.results42
  cases hf : fullB B n with
  | false =>
    have HR := Lib.hid (show rngA B n = (0, 0, 2) by simp [rngA, hf])
    go_enter Tryd.func42, Tryd.ntmps42
    go_wp2_with fail
    refine (circle_no B n _ hf).mono ?_
    rintro e w1 ⟨rfl, hb⟩
    have hs := hb.size
    go_wp2
    exact bodyPost_ret (v := .tuple #[.int .i64 0, .int .i64 0, .int .i64 2]) (by simp [results, go_sem]) rfl ⟨by rw [HR.out], (by repeat (first | exact hb | refine Below.setCell ?_ (by first | omega | (simp <;> omega)) _ | refine Below.alloc ?_ (by first | omega | (simp <;> omega)) _ | refine Below.drew ?_))⟩
  | true =>
    have HR := Lib.hid (show rngA B n = (-(cntA B n / 2), cntA B n - 1 + -(cntA B n / 2), 0) by simp [rngA, hf])
    have hc := cntA_bd hf
    have HL := Lib.hid (fun v => least_any B n (cntA B n) v (by omega) (by omega))
    have HG := Lib.hid (fun v => greatest_any B n (cntA B n) v (by omega) (by omega))
    go_enter Tryd.func42, Tryd.ntmps42
    go_wp2_with fail
    refine (circle_ok B n _ hf).mono ?_
    rintro e w1 ⟨rfl, hb⟩
    have hs := hb.size
    go_wp2_with fail
    obtain ⟨u, hu⟩ : ∃ u, u = w1.alloc (.cells #[.int .i64 B, .int .i64 n, .int .i64 (cntA B n)] 81) := ⟨_, rfl⟩
    have bx : Bx u w1.heap.size 81 #[.int .i64 B, .int .i64 n, .int .i64 (cntA B n)] := by rw [hu]; exact Bx.new _ _ _
    have hbel : Below w.heap.size w u := by rw [hu]; exact (by repeat (first | exact hb | refine Below.setCell ?_ (by first | omega | (simp <;> omega)) _ | refine Below.alloc ?_ (by first | omega | (simp <;> omega)) _ | refine Below.drew ?_))
    first | rw [← hu] | skip
    have c0 := kept_after (bx.at_ 0 rfl)
    have c1 := kept_after (bx.at_ 1 rfl)
    have c2 := kept_after (bx.at_ 2 rfl)
    clear hu bx hf hc hb
    refine wp_region_after (by kernel_rfl) (by kernel_rfl) ?_
    repeat (go_big_quiet_step (first | (go_at_call 93; exact calls_after (HL.out _)) | (go_at_call 94; exact calls_after (HG.out _))))
    refine wpQuiet_nil ?_
    intro u
    go_wp2
    exact bodyPost_ret (v := .tuple #[.int .i64 (-(cntA B n / 2)), .int .i64 (cntA B n - 1 + -(cntA B n / 2)), .int .i64 0]) (by simp [results, go_sem]) rfl ⟨by rw [HR.out], hbel.trans (u.ok.mono hbel.size)⟩
end Go.Proofs.YtiogbpnnnpodkaaDoor
