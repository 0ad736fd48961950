/-
  spec: the numbers of accumulators.
-/
import Derived.Test.YtlahobdopmdfmaaDoorPowS
import Derived.Test.YtlahobdopmdfmaaDoorNewReg
import Derived.Test.YtlahobdopmdfmaaDoorTwoS
import Derived.BigQuiet
namespace Go.Proofs.YtlahobdopmdfmaaDoor
open Go.RowKit

theorem mod_twiceS {n c : Int} (hc : 1 ≤ c) : -c < n.tmod c ∧ n.tmod c < c ∧ (n.tmod c + c).tmod c = n % c := by
  have h1 : n.tmod c < c := Int.tmod_lt_of_pos _ (by omega)
  have h2 : -c < n.tmod c := by
    have := Int.tmod_lt_of_pos (-n) (show 0 < c by omega)
    rw [Int.neg_tmod] at this; omega
  refine ⟨h2, h1, ?_⟩
  rw [Int.tmod_eq_emod_of_nonneg (by omega), Int.add_emod_right]
  have e := Int.mul_tdiv_add_tmod n c
  conv => rhs; rw [← e, Int.add_comm, Int.add_mul_emod_self_left]

/-- A register of its own. -/
def RegV (B : Int) (zs : List Int) (w : World) (e : Ending) (w' : World) : Prop := ∃ A C,
  e = .returned (.agg #[.int .i64 B, .slice A zs.length C]) ∧ Own 2 w' w.heap.size w'.heap.size (.slice A zs.length C) zs ∧ Below w.heap.size w w'

theorem l09In_any (B n x : Int) (w : World) (h : fullB B n = true) :
    Calls Tryd.prog 109 #[.int .i64 B, .int .i64 n, .int .i64 x] w fun e w' => e = .returned (.bool (inA (cntA B n) x)) ∧ w' = w := by
  obtain ⟨h1, h2, n1, n2, h5⟩ := fullB_spec h
  have hc := cntA_bd h
  obtain ⟨m, rfl⟩ := Int.eq_ofNat_of_zero_le (show 0 ≤ n by omega)
  have hcap : capW B m = cntA B (m : Int) := by rw [capW_full (by simpa using h5)]; simp [cntA]
  have HP := Lib.hid (fun w => l10Power_any B m w (by omega) h2 (by omega))
  have HL := Lib.hid (fun w => l09Low_any B m w (by omega) h2 (by omega))
  rw [hcap] at HP HL
  obtain ⟨N, hN⟩ : ∃ N, N = cntA B m := ⟨_, rfl⟩
  rw [← hN] at HP HL hc ⊢
  obtain ⟨q, hq⟩ : ∃ q, q = N / 2 := ⟨_, rfl⟩
  have HA := Lib.hid (show inB x (-q) (N - 1 - q) = inA N x by rw [hq]; unfold inB inA; simp only [Int.sub_eq_add_neg])
  rw [← hq] at HL
  have hq2 : 0 ≤ q ∧ q ≤ 1000000000002 := by omega
  have HI := Lib.hid (fun w => l00In_any x (-q) (N - 1 - q) w)
  clear hN hq hcap h5 h
  go_enter Tryd.func109, Tryd.ntmps109
  go_wp2_with (first | (go_at_call 103; refine (HP.out _).mono ?_; rintro e w1 ⟨rfl, rfl⟩) | (go_at_call 101; refine (HL.out _).mono ?_; rintro e w1 ⟨rfl, rfl⟩) | (go_at_call 118; refine (HI.out _).mono ?_; rintro e w1 ⟨rfl, rfl⟩))
  go_ret
  exact ⟨ret_bool HA.out, rfl⟩
theorem l09In_at {v : Bool} (B n x : Int) (w : World) (h : fullB B n = true) (hv : inA (cntA B n) x = v) :
    Calls Tryd.prog 109 #[.int .i64 B, .int .i64 n, .int .i64 x] w fun e w' => e = .returned (.bool v) ∧ w' = w := hv ▸ l09In_any B n x w h

set_option maxHeartbeats 1000000 in
set_option maxRecDepth 100000 in
theorem l09Set_any (B n x : Int) (w : World) (h : fullB B n = true) :
    Calls Tryd.prog 110 #[.int .i64 B, .int .i64 n, .int .i64 x] w (RegV B (setA B n x) w) := by
  obtain ⟨h1, h2, n1, n2, h5⟩ := fullB_spec h
  have hc := cntA_bd h
  have hm := modA_bd h x
  have hl := setA_len (B := B) (n := n) x
  obtain ⟨m, rfl⟩ := Int.eq_ofNat_of_zero_le (show 0 ≤ n by omega)
  have hcap : capW B m = cntA B (m : Int) := by rw [capW_full (by simpa using h5)]; simp [cntA]
  have HP := Lib.hid (fun w => l10Power_any B m w (by omega) h2 (by omega))
  rw [hcap] at HP
  have HS := Lib.hid (show digsR B m (x % cntA B m) = setA B m x by simp [setA])
  have HL := Lib.hid (show (setA B m x).length = m by rw [hl]; simp)
  obtain ⟨N, hN⟩ : ∃ N, N = cntA B m := ⟨_, rfl⟩
  rw [← hN] at HP hc hm HS
  obtain ⟨q, hq⟩ : ∃ q, q = x % N := ⟨_, rfl⟩
  obtain ⟨m1, m2, m3⟩ := mod_twiceS (n := x) (c := N) (by omega)
  obtain ⟨r, hr⟩ : ∃ r, x.tmod N = r := ⟨_, rfl⟩
  rw [hr] at m1 m2 m3
  rw [← hq] at m3 hm HS
  have hc0 : ¬ N = 0 := by omega
  have hw1 : IntKind.i64.wrap (r + N) = r + N := IntWalk.i64_in _ (by omega)
  have hw2 : wrap64 (r + N) = r + N := by unfold wrap64; omega
  have HN := Lib.hid (fun w => specl02New_any B q m w h1 h2 (by omega) hm.1 (by omega))
  clear hq hN hcap h5 h hl
  go_enter Tryd.func110, Tryd.ntmps110
  go_wp2_with fail
  refine (HP.out _).mono ?_
  rintro e w1 ⟨rfl, rfl⟩
  go_wp2_with fail
  refine (HN.out _).mono ?_
  rintro e w2 ⟨A, C, rfl, own, hb⟩
  have bx := (Bx.new w #[.int .i64 0, .slice none 0 0] 26).below hb
  have hz := bx.lt
  have hs := hb.size
  simp only [World.size_alloc] at hs
  have c0 := bx.at_ 0 rfl
  have c1 := bx.at_ 1 rfl
  have f0 := bx.thaw 0
  have f1 := bx.thaw 1
  go_wp2
  exact bodyPost_ret (v := .agg #[.int .i64 B, .slice A m C]) (by simp [results, Tryd.results110, go_sem, c0, c1, hz]) rfl
    ⟨A, C, by rw [HL.out], by rw [HL.out, ← HS.out]; exact (show Own 2 _ (w.heap.size + 1) w2.heap.size (.slice A m C) (digsR B m q) from (by repeat (first | exact by simpa using own | refine Own.alloc ?_ _ | refine Own.setCell ?_ (.inl (by simp <;> omega)) _ | refine Own.drew ?_))).wide (by omega) (by simp), (by repeat (first | exact ((Below.refl _ _).alloc (Nat.le_refl _) _).trans (hb.mono (by simp)) | refine Below.setCell ?_ (by first | omega | (simp <;> omega)) _ | refine Below.alloc ?_ (by first | omega | (simp <;> omega)) _ | refine Below.drew ?_))⟩
end Go.Proofs.YtlahobdopmdfmaaDoor
