/-
  spec: whether a register is an accumulator, its number; NumberOf.
-/
import Derived.Test.YtlahobdopmdfmaaDoorAccS
namespace Go.Proofs.YtlahobdopmdfmaaDoor
open Go.RowKit

theorem l10Full_at {v : Bool} (B : Int) (n : Nat) (w : World) (b1 : 1 ≤ B) (b2 : B ≤ 16) (hn : n ≤ 16) (hv : decide (B ^ n - 1 ≤ 1000000000000) = v) :
    Calls Tryd.prog 119 #[.int .i64 B, .int .i64 n] w fun e w' => e = .returned (.bool v) ∧ w' = w := hv ▸ l10Full_any B n w b1 b2 hn

set_option maxHeartbeats 2000000 in
theorem l09Ok_at {v : Bool} (p : Nat) (B : Int) (a : Option Addr) (c : Nat) (zs : List Int) (w : World) (hv : accB B zs = v) (ha : Rd w a zs) (hp0 : w.cell? ⟨p, 0, none⟩ = some (.int .i64 B)) (hp1 : w.cell? ⟨p, 1, none⟩ = some (.slice a zs.length c)) :
    Calls Tryd.prog 114 #[.pointer (some ⟨p, 0, none⟩)] w fun e w' => e = .returned (.bool v) ∧ Below w.heap.size w w' := by
  have k0 := kept_after hp0
  have k1 := kept_after hp1
  cases ho : okB B zs with
  | false =>
    have HV := Lib.hid (show v = false by rw [← hv]; simp [accB, ho])
    have HO := Lib.hid (fun u : After w => calls_after_drew (l02Ok_at0 p B a c zs u.now ho (ha.below u.ok) (k0 u) (k1 u)))
    clear hv ho
    go_enter Tryd.func114, Tryd.ntmps114
    go_wp2
    refine wp_region_after (by kernel_rfl) (by kernel_rfl) ?_
    repeat (go_big_quiet_step ((go_at_call 96; exact HO.out _)))
    refine wpQuiet_nil ?_
    intro u
    go_wp2
    go_ret
    exact ⟨ret_bool HV.out.symm, u.ok⟩
  | true =>
    obtain ⟨b0, b1, n0, n1, _, _⟩ := okB_spec ho
    have hf : decide (B ^ zs.length - 1 ≤ 1000000000000) = v := by rw [← hv, accB, ho, Bool.true_and]
    have HO := Lib.hid (fun u : After w => calls_after_drew (l02Ok_at0 p B a c zs u.now ho (ha.below u.ok) (k0 u) (k1 u)))
    have HF := Lib.hid (fun u : After w => calls_after_drew ((l10Full_at B zs.length u.now (by omega) b1 n1 hf).mono fun _ _ h => ⟨h.1, 0, h.2⟩))
    clear hv ho hf
    go_enter Tryd.func114, Tryd.ntmps114
    go_wp2
    refine wp_region_after (by kernel_rfl) (by kernel_rfl) ?_
    repeat (go_big_quiet_step (first | (go_at_call 96; exact HO.out _) | (go_at_call 119; exact HF.out _)))
    refine wpQuiet_nil ?_
    intro u
    cases v
    all_goals
      go_wp2
      go_ret
      exact ⟨rfl, u.ok⟩

set_option maxHeartbeats 2000000 in
theorem l09Number_any (p : Nat) (B : Int) (a : Option Addr) (c : Nat) (zs : List Int) (w : World) (hv : accB B zs = true) (ha : Rd w a zs) (hp0 : w.cell? ⟨p, 0, none⟩ = some (.int .i64 B)) (hp1 : w.cell? ⟨p, 1, none⟩ = some (.slice a zs.length c)) :
    Calls Tryd.prog 115 #[.pointer (some ⟨p, 0, none⟩)] w fun e w' => e = .returned (.int .i64 (numA B zs)) ∧ Below w.heap.size w w' := by
  have k0 := kept_after hp0
  have k1 := kept_after hp1
  obtain ⟨b0, b1, n0, n1, hd, hvl⟩ := okB_spec (accB_spec hv).1
  have hf := accB_full hv
  have hc := cntA_bd hf
  have hvb := valR_acc hv
  have HV := Lib.hid (fun u : After w => calls_after_drew ((l02Value_any B a c zs u.now (ha.below u.ok) b0 b1 hd).mono fun _ _ h => ⟨by rw [h.1, capV_ok b0 hd hvl], 0, h.2⟩ : Calls Tryd.prog 97 _ u.now fun e w' => e = .returned (.int .i64 (valR B zs)) ∧ ∃ n, w' = u.now.drewN n))
  have HI := Lib.hid (fun w => l09In_any B zs.length (valR B zs) w hf)
  have hcap : capW B zs.length = cntA B (zs.length : Int) := by rw [cntA_len]; exact capW_full (accB_spec hv).2
  have HP := Lib.hid (fun w => l10Power_any B zs.length w (by omega) b1 n1)
  rw [hcap] at HP
  have HN := Lib.hid (numA_if hv)
  obtain ⟨N, hN⟩ : ∃ N, N = cntA B (zs.length : Int) := ⟨_, rfl⟩
  rw [← hN] at HP HI HN hc
  obtain ⟨x, hx⟩ : ∃ x, x = valR B zs := ⟨_, rfl⟩
  rw [← hx] at HV HI HN hvb
  clear hN hx hcap hf hv hd hvl
  have hw1 : IntKind.i64.wrap (x - N) = x - N := IntWalk.i64_in _ (by omega)
  have hw2 : wrap64 (x - N) = x - N := by unfold wrap64; omega
  cases hi : inA N x
  all_goals
    rw [hi] at HI HN
    go_enter Tryd.func115, Tryd.ntmps115
    go_wp2
    refine wp_region_after (by kernel_rfl) (by kernel_rfl) ?_
    repeat (go_big_quiet_step ((go_at_call 97; exact HV.out _)))
    refine wpQuiet_nil ?_
    intro u
    have q0 := k0 u
    have q1 := k1 u
    go_wp2_with (first | (go_at_call 109; refine (HI.out _).mono ?_; rintro e w1 ⟨rfl, rfl⟩) | (go_at_call 103; refine (HP.out _).mono ?_; rintro e w1 ⟨rfl, rfl⟩))
    go_ret
    exact ⟨ret_int (by rw [HN.out]; rfl), u.ok⟩

set_option maxHeartbeats 2000000 in
theorem specNumberOf (xB : Int) (xA : Option Addr) (xC : Nat) (xZ : List Int) (w : World) (ha : Rd w xA xZ) (_ : All64 xZ) (_ : I64 xB) :
    Calls Tryd.prog 56 #[.agg #[.int .i64 xB, .slice xA xZ.length xC]] w fun e w' => e = .returned (.tuple #[.int .i64 (numR xB xZ).1, .int .i64 (numR xB xZ).2]) ∧ Below w.heap.size w w' := by
  obtain ⟨u, hu⟩ : ∃ u, u = w.alloc (.cells #[.int .i64 xB, .slice xA xZ.length xC] 26) := ⟨_, rfl⟩
  have bx : Bx u w.heap.size 26 #[.int .i64 xB, .slice xA xZ.length xC] := by rw [hu]; exact Bx.new _ _ _
  have hbel : Below w.heap.size w u := by rw [hu]; exact (by repeat (first | exact Below.refl _ _ | refine Below.setCell ?_ (by first | omega | (simp <;> omega)) _ | refine Below.alloc ?_ (by first | omega | (simp <;> omega)) _ | refine Below.drew ?_))
  have HU := Lib.hid hu
  clear hu
  replace ha := ha.below hbel
  cases h : accB xB xZ with
  | false =>
    have HR := Lib.hid (show numR xB xZ = (0, 1) by simp [numR, h])
    have HO := Lib.hid (l09Ok_at w.heap.size xB xA xC xZ u h ha (bx.at_ 0 rfl) (bx.at_ 1 rfl))
    go_enter Tryd.func56, Tryd.ntmps56
    go_wp2_with fail
    rw [← HU.out]
    refine HO.out.mono ?_
    rintro e v ⟨rfl, hb⟩
    go_wp2
    exact bodyPost_ret (v := .tuple #[.int .i64 0, .int .i64 1]) (by simp [results, Tryd.results56, go_sem]) rfl ⟨by rw [HR.out], hbel.trans (hb.mono hbel.size)⟩
  | true =>
    have HR := Lib.hid (show numR xB xZ = (numA xB xZ, 0) by simp [numR, h])
    have HO := Lib.hid (l09Ok_at w.heap.size xB xA xC xZ u h ha (bx.at_ 0 rfl) (bx.at_ 1 rfl))
    go_enter Tryd.func56, Tryd.ntmps56
    go_wp2_with fail
    rw [← HU.out]
    refine HO.out.mono ?_
    rintro e v ⟨rfl, hb⟩
    replace bx := bx.below hb
    replace ha := ha.below hb
    replace hbel := hbel.trans (hb.mono hbel.size)
    go_wp2_with fail
    refine (l09Number_any w.heap.size xB xA xC xZ v h ha (bx.at_ 0 rfl) (bx.at_ 1 rfl)).mono ?_
    rintro e v2 ⟨rfl, hb2⟩
    go_wp2
    exact bodyPost_ret (v := .tuple #[.int .i64 (numA xB xZ), .int .i64 0]) (by simp [results, Tryd.results56, go_sem]) rfl ⟨by rw [HR.out], hbel.trans (hb2.mono hbel.size)⟩
end Go.Proofs.YtlahobdopmdfmaaDoor
