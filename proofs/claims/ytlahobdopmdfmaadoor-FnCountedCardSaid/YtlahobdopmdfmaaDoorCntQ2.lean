/-
  Several texts in one: AccS, AccO, InB, MacLow, Wid3, CloneI, Box, MacMid.
-/
import Derived.Test.YtlahobdopmdfmaaDoorCntQ1
import Derived.Test.YtlahobdopmdfmaaDoorProg
import Derived.BigQuiet
import Derived.Deep.Cut
import Derived.Lib.MinMax
import Derived.Lib.SliceRun
import Derived.Deep.RegionHeld3

/- AccS -/
namespace Go.Proofs.YtlahobdopmdfmaaDoor
open Go.RowKit

theorem mod_twiceS {n c : Int} (hc : 1 ≤ c) : -c < n.tmod c ∧ n.tmod c < c ∧ (n.tmod c + c).tmod c = n % c := by
  have h1 : n.tmod c < c := Int.tmod_lt_of_pos _ (by omega)
  have h2 : -c < n.tmod c := by
    have := Int.tmod_lt_of_pos (-n) (show 0 < c by omega)
    rw [Int.neg_tmod] at this; omega
  refine ⟨h2, h1, ?_⟩
  rw [Int.tmod_eq_emod_of_nonneg (by omega), Int.add_emod_right]
  have e := Int.mul_tdiv_add_tmod n c
  conv => rhs; rw [← e, Int.add_comm, Int.add_mul_emod_self_left]

/-- A register of its own. -/
def RegV (B : Int) (zs : List Int) (w : World) (e : Ending) (w' : World) : Prop := ∃ A C,
  e = .returned (.agg #[.int .i64 B, .slice A zs.length C]) ∧ Own 2 w' w.heap.size w'.heap.size (.slice A zs.length C) zs ∧ Below w.heap.size w w'

theorem l09In_any (B n x : Int) (w : World) (h : fullB B n = true) :
    Calls Tryd.prog 109 #[.int .i64 B, .int .i64 n, .int .i64 x] w fun e w' => e = .returned (.bool (inA (cntA B n) x)) ∧ w' = w := by
  obtain ⟨h1, h2, n1, n2, h5⟩ := fullB_spec h
  have hc := cntA_bd h
  obtain ⟨m, rfl⟩ := Int.eq_ofNat_of_zero_le (show 0 ≤ n by omega)
  have hcap : capW B m = cntA B (m : Int) := by rw [capW_full (by simpa using h5)]; simp [cntA]
  have HP := Lib.hid (fun w => l10Power_any B m w (by omega) h2 (by omega))
  have HL := Lib.hid (fun w => l09Low_any B m w (by omega) h2 (by omega))
  rw [hcap] at HP HL
  obtain ⟨N, hN⟩ : ∃ N, N = cntA B m := ⟨_, rfl⟩
  rw [← hN] at HP HL hc ⊢
  obtain ⟨q, hq⟩ : ∃ q, q = N / 2 := ⟨_, rfl⟩
  have HA := Lib.hid (show inB x (-q) (N - 1 - q) = inA N x by rw [hq]; unfold inB inA; simp only [Int.sub_eq_add_neg])
  rw [← hq] at HL
  have hq2 : 0 ≤ q ∧ q ≤ 1000000000002 := by omega
  have HI := Lib.hid (fun w => l00In_any x (-q) (N - 1 - q) w)
  clear hN hq hcap h5 h
  go_enter Tryd.func109, Tryd.ntmps109
  go_wp2_with (first | (go_at_call 103; refine (HP.out _).mono ?_; rintro e w1 ⟨rfl, rfl⟩) | (go_at_call 101; refine (HL.out _).mono ?_; rintro e w1 ⟨rfl, rfl⟩) | (go_at_call 118; refine (HI.out _).mono ?_; rintro e w1 ⟨rfl, rfl⟩))
  go_ret
  exact ⟨ret_bool HA.out, rfl⟩
theorem l09In_at {v : Bool} (B n x : Int) (w : World) (h : fullB B n = true) (hv : inA (cntA B n) x = v) :
    Calls Tryd.prog 109 #[.int .i64 B, .int .i64 n, .int .i64 x] w fun e w' => e = .returned (.bool v) ∧ w' = w := hv ▸ l09In_any B n x w h

set_option maxHeartbeats 1000000 in
set_option maxRecDepth 100000 in
theorem l09Set_any (B n x : Int) (w : World) (h : fullB B n = true) :
    Calls Tryd.prog 110 #[.int .i64 B, .int .i64 n, .int .i64 x] w (RegV B (setA B n x) w) := by
  obtain ⟨h1, h2, n1, n2, h5⟩ := fullB_spec h
  have hc := cntA_bd h
  have hm := modA_bd h x
  have hl := setA_len (B := B) (n := n) x
  obtain ⟨m, rfl⟩ := Int.eq_ofNat_of_zero_le (show 0 ≤ n by omega)
  have hcap : capW B m = cntA B (m : Int) := by rw [capW_full (by simpa using h5)]; simp [cntA]
  have HP := Lib.hid (fun w => l10Power_any B m w (by omega) h2 (by omega))
  rw [hcap] at HP
  have HS := Lib.hid (show digsR B m (x % cntA B m) = setA B m x by simp [setA])
  have HL := Lib.hid (show (setA B m x).length = m by rw [hl]; simp)
  obtain ⟨N, hN⟩ : ∃ N, N = cntA B m := ⟨_, rfl⟩
  rw [← hN] at HP hc hm HS
  obtain ⟨q, hq⟩ : ∃ q, q = x % N := ⟨_, rfl⟩
  obtain ⟨m1, m2, m3⟩ := mod_twiceS (n := x) (c := N) (by omega)
  obtain ⟨r, hr⟩ : ∃ r, x.tmod N = r := ⟨_, rfl⟩
  rw [hr] at m1 m2 m3
  rw [← hq] at m3 hm HS
  have hc0 : ¬ N = 0 := by omega
  have hw1 : IntKind.i64.wrap (r + N) = r + N := IntWalk.i64_in _ (by omega)
  have hw2 : wrap64 (r + N) = r + N := by unfold wrap64; omega
  have HN := Lib.hid (fun w => specl02New_any B q m w h1 h2 (by omega) hm.1 (by omega))
  clear hq hN hcap h5 h hl
  go_enter Tryd.func110, Tryd.ntmps110
  go_wp2_with fail
  refine (HP.out _).mono ?_
  rintro e w1 ⟨rfl, rfl⟩
  go_wp2_with fail
  refine (HN.out _).mono ?_
  rintro e w2 ⟨A, C, rfl, own, hb⟩
  have bx := (Bx.new w #[.int .i64 0, .slice none 0 0] 26).below hb
  have hz := bx.lt
  have hs := hb.size
  simp only [World.size_alloc] at hs
  have c0 := bx.at_ 0 rfl
  have c1 := bx.at_ 1 rfl
  have f0 := bx.thaw 0
  have f1 := bx.thaw 1
  go_wp2
  exact bodyPost_ret (v := .agg #[.int .i64 B, .slice A m C]) (by simp [results, Tryd.results110, go_sem, c0, c1, hz]) rfl
    ⟨A, C, by rw [HL.out], by rw [HL.out, ← HS.out]; exact (show Own 2 _ (w.heap.size + 1) w2.heap.size (.slice A m C) (digsR B m q) from (by repeat (first | exact by simpa using own | refine Own.alloc ?_ _ | refine Own.setCell ?_ (.inl (by simp <;> omega)) _ | refine Own.drew ?_))).wide (by omega) (by simp), (by repeat (first | exact ((Below.refl _ _).alloc (Nat.le_refl _) _).trans (hb.mono (by simp)) | refine Below.setCell ?_ (by first | omega | (simp <;> omega)) _ | refine Below.alloc ?_ (by first | omega | (simp <;> omega)) _ | refine Below.drew ?_))⟩
end Go.Proofs.YtlahobdopmdfmaaDoor

/- AccO -/
namespace Go.Proofs.YtlahobdopmdfmaaDoor
open Go.RowKit

theorem l10Full_at {v : Bool} (B : Int) (n : Nat) (w : World) (b1 : 1 ≤ B) (b2 : B ≤ 16) (hn : n ≤ 16) (hv : decide (B ^ n - 1 ≤ 1000000000000) = v) :
    Calls Tryd.prog 119 #[.int .i64 B, .int .i64 n] w fun e w' => e = .returned (.bool v) ∧ w' = w := hv ▸ l10Full_any B n w b1 b2 hn

set_option maxHeartbeats 2000000 in
theorem l09Ok_at {v : Bool} (p : Nat) (B : Int) (a : Option Addr) (c : Nat) (zs : List Int) (w : World) (hv : accB B zs = v) (ha : Rd w a zs) (hp0 : w.cell? ⟨p, 0, none⟩ = some (.int .i64 B)) (hp1 : w.cell? ⟨p, 1, none⟩ = some (.slice a zs.length c)) :
    Calls Tryd.prog 114 #[.pointer (some ⟨p, 0, none⟩)] w fun e w' => e = .returned (.bool v) ∧ Below w.heap.size w w' := by
  have k0 := kept_after hp0
  have k1 := kept_after hp1
  cases ho : okB B zs with
  | false =>
    have HV := Lib.hid (show v = false by rw [← hv]; simp [accB, ho])
    have HO := Lib.hid (fun u : After w => calls_after_drew (l02Ok_at0 p B a c zs u.now ho (ha.below u.ok) (k0 u) (k1 u)))
    clear hv ho
    go_enter Tryd.func114, Tryd.ntmps114
    go_wp2
    refine wp_region_after (by kernel_rfl) (by kernel_rfl) ?_
    repeat (go_big_quiet_step ((go_at_call 96; exact HO.out _)))
    refine wpQuiet_nil ?_
    intro u
    go_wp2
    go_ret
    exact ⟨ret_bool HV.out.symm, u.ok⟩
  | true =>
    obtain ⟨b0, b1, n0, n1, _, _⟩ := okB_spec ho
    have hf : decide (B ^ zs.length - 1 ≤ 1000000000000) = v := by rw [← hv, accB, ho, Bool.true_and]
    have HO := Lib.hid (fun u : After w => calls_after_drew (l02Ok_at0 p B a c zs u.now ho (ha.below u.ok) (k0 u) (k1 u)))
    have HF := Lib.hid (fun u : After w => calls_after_drew ((l10Full_at B zs.length u.now (by omega) b1 n1 hf).mono fun _ _ h => ⟨h.1, 0, h.2⟩))
    clear hv ho hf
    go_enter Tryd.func114, Tryd.ntmps114
    go_wp2
    refine wp_region_after (by kernel_rfl) (by kernel_rfl) ?_
    repeat (go_big_quiet_step (first | (go_at_call 96; exact HO.out _) | (go_at_call 119; exact HF.out _)))
    refine wpQuiet_nil ?_
    intro u
    cases v
    all_goals
      go_wp2
      go_ret
      exact ⟨rfl, u.ok⟩

set_option maxHeartbeats 2000000 in
theorem l09Number_any (p : Nat) (B : Int) (a : Option Addr) (c : Nat) (zs : List Int) (w : World) (hv : accB B zs = true) (ha : Rd w a zs) (hp0 : w.cell? ⟨p, 0, none⟩ = some (.int .i64 B)) (hp1 : w.cell? ⟨p, 1, none⟩ = some (.slice a zs.length c)) :
    Calls Tryd.prog 115 #[.pointer (some ⟨p, 0, none⟩)] w fun e w' => e = .returned (.int .i64 (numA B zs)) ∧ Below w.heap.size w w' := by
  have k0 := kept_after hp0
  have k1 := kept_after hp1
  obtain ⟨b0, b1, n0, n1, hd, hvl⟩ := okB_spec (accB_spec hv).1
  have hf := accB_full hv
  have hc := cntA_bd hf
  have hvb := valR_acc hv
  have HV := Lib.hid (fun u : After w => calls_after_drew ((l02Value_any B a c zs u.now (ha.below u.ok) b0 b1 hd).mono fun _ _ h => ⟨by rw [h.1, capV_ok b0 hd hvl], 0, h.2⟩ : Calls Tryd.prog 97 _ u.now fun e w' => e = .returned (.int .i64 (valR B zs)) ∧ ∃ n, w' = u.now.drewN n))
  have HI := Lib.hid (fun w => l09In_any B zs.length (valR B zs) w hf)
  have hcap : capW B zs.length = cntA B (zs.length : Int) := by rw [cntA_len]; exact capW_full (accB_spec hv).2
  have HP := Lib.hid (fun w => l10Power_any B zs.length w (by omega) b1 n1)
  rw [hcap] at HP
  have HN := Lib.hid (numA_if hv)
  obtain ⟨N, hN⟩ : ∃ N, N = cntA B (zs.length : Int) := ⟨_, rfl⟩
  rw [← hN] at HP HI HN hc
  obtain ⟨x, hx⟩ : ∃ x, x = valR B zs := ⟨_, rfl⟩
  rw [← hx] at HV HI HN hvb
  clear hN hx hcap hf hv hd hvl
  have hw1 : IntKind.i64.wrap (x - N) = x - N := IntWalk.i64_in _ (by omega)
  have hw2 : wrap64 (x - N) = x - N := by unfold wrap64; omega
  cases hi : inA N x
  all_goals
    rw [hi] at HI HN
    go_enter Tryd.func115, Tryd.ntmps115
    go_wp2
    refine wp_region_after (by kernel_rfl) (by kernel_rfl) ?_
    repeat (go_big_quiet_step ((go_at_call 97; exact HV.out _)))
    refine wpQuiet_nil ?_
    intro u
    have q0 := k0 u
    have q1 := k1 u
    go_wp2_with (first | (go_at_call 109; refine (HI.out _).mono ?_; rintro e w1 ⟨rfl, rfl⟩) | (go_at_call 103; refine (HP.out _).mono ?_; rintro e w1 ⟨rfl, rfl⟩))
    go_ret
    exact ⟨ret_int (by rw [HN.out]; rfl), u.ok⟩

set_option maxHeartbeats 2000000 in
theorem specNumberOf (xB : Int) (xA : Option Addr) (xC : Nat) (xZ : List Int) (w : World) (ha : Rd w xA xZ) (_ : All64 xZ) (_ : I64 xB) :
    Calls Tryd.prog 56 #[.agg #[.int .i64 xB, .slice xA xZ.length xC]] w fun e w' => e = .returned (.tuple #[.int .i64 (numR xB xZ).1, .int .i64 (numR xB xZ).2]) ∧ Below w.heap.size w w' := by
  obtain ⟨u, hu⟩ : ∃ u, u = w.alloc (.cells #[.int .i64 xB, .slice xA xZ.length xC] 26) := ⟨_, rfl⟩
  have bx : Bx u w.heap.size 26 #[.int .i64 xB, .slice xA xZ.length xC] := by rw [hu]; exact Bx.new _ _ _
  have hbel : Below w.heap.size w u := by rw [hu]; exact (by repeat (first | exact Below.refl _ _ | refine Below.setCell ?_ (by first | omega | (simp <;> omega)) _ | refine Below.alloc ?_ (by first | omega | (simp <;> omega)) _ | refine Below.drew ?_))
  have HU := Lib.hid hu
  clear hu
  replace ha := ha.below hbel
  cases h : accB xB xZ with
  | false =>
    have HR := Lib.hid (show numR xB xZ = (0, 1) by simp [numR, h])
    have HO := Lib.hid (l09Ok_at w.heap.size xB xA xC xZ u h ha (bx.at_ 0 rfl) (bx.at_ 1 rfl))
    go_enter Tryd.func56, Tryd.ntmps56
    go_wp2_with fail
    rw [← HU.out]
    refine HO.out.mono ?_
    rintro e v ⟨rfl, hb⟩
    go_wp2
    exact bodyPost_ret (v := .tuple #[.int .i64 0, .int .i64 1]) (by simp [results, Tryd.results56, go_sem]) rfl ⟨by rw [HR.out], hbel.trans (hb.mono hbel.size)⟩
  | true =>
    have HR := Lib.hid (show numR xB xZ = (numA xB xZ, 0) by simp [numR, h])
    have HO := Lib.hid (l09Ok_at w.heap.size xB xA xC xZ u h ha (bx.at_ 0 rfl) (bx.at_ 1 rfl))
    go_enter Tryd.func56, Tryd.ntmps56
    go_wp2_with fail
    rw [← HU.out]
    refine HO.out.mono ?_
    rintro e v ⟨rfl, hb⟩
    replace bx := bx.below hb
    replace ha := ha.below hb
    replace hbel := hbel.trans (hb.mono hbel.size)
    go_wp2_with fail
    refine (l09Number_any w.heap.size xB xA xC xZ v h ha (bx.at_ 0 rfl) (bx.at_ 1 rfl)).mono ?_
    rintro e v2 ⟨rfl, hb2⟩
    go_wp2
    exact bodyPost_ret (v := .tuple #[.int .i64 (numA xB xZ), .int .i64 0]) (by simp [results, Tryd.results56, go_sem]) rfl ⟨by rw [HR.out], hbel.trans (hb2.mono hbel.size)⟩
end Go.Proofs.YtlahobdopmdfmaaDoor

/- InB -/
namespace Go.Proofs.YtlahobdopmdfmaaDoor
open Go.RowKit

theorem l00In_b (n lo hi : Int) (w : World) : Calls Tryd.prog 118 #[.int .i64 n, .int .i64 lo, .int .i64 hi] w fun e w' => e = .returned (.bool (inB n lo hi)) ∧ Below w.heap.size w w' :=
  (l00In_any n lo hi w).mono fun e w' ⟨a, b⟩ => ⟨a, by rw [b]; exact Below.refl _ _⟩
end Go.Proofs.YtlahobdopmdfmaaDoor

/- MacLow -/
/- Own3 -/
namespace Go.Proofs.YtlahobdopmdfmaaDoor
open Go.RowKit

/-- A machine: setting, result, count, place. -/
structure Mac where
  b1 : Int
  z1 : List Int
  b2 : Int
  z2 : List Int
  b3 : Int
  z3 : List Int
  p : Int

/-- Three rows that can be read. -/
structure Rd3 (w : World) (a1 : Option Addr) (z1 : List Int) (a2 : Option Addr) (z2 : List Int) (a3 : Option Addr) (z3 : List Int) : Prop where
  x : Rd w a1 z1
  y : Rd w a2 z2
  z : Rd w a3 z3
section
variable {w w' : World} {a1 a2 a3 : Option Addr} {z1 z2 z3 : List Int}
theorem Rd3.below (h : Rd3 w a1 z1 a2 z2 a3 z3) (hb : Below w.heap.size w w') : Rd3 w' a1 z1 a2 z2 a3 z3 := ⟨h.x.below hb, h.y.below hb, h.z.below hb⟩
theorem Rd3.drewN (h : Rd3 w a1 z1 a2 z2 a3 z3) (n : Nat) : Rd3 (w.drewN n) a1 z1 a2 z2 a3 z3 := ⟨h.x.drewN n, h.y.drewN n, h.z.drewN n⟩
theorem Rd3.len (h : Rd3 w a1 z1 a2 z2 a3 z3) : z1.length ≤ 1000000000 ∧ z2.length ≤ 1000000000 ∧ z3.length ≤ 1000000000 := ⟨h.x.len, h.y.len, h.z.len⟩

/-- Three rows that came in: of whatever length. -/
structure Raw3 (w : World) (a1 : Option Addr) (z1 : List Int) (a2 : Option Addr) (z2 : List Int) (a3 : Option Addr) (z3 : List Int) : Prop where
  x : Raw w a1 z1
  y : Raw w a2 z2
  z : Raw w a3 z3
theorem Raw3.len (h : Raw3 w a1 z1 a2 z2 a3 z3) : z1.length ≤ 9223372036854775807 ∧ z2.length ≤ 9223372036854775807 ∧ z3.length ≤ 9223372036854775807 := ⟨h.x.len, h.y.len, h.z.len⟩
theorem Raw3.wf (h : Raw3 w a1 z1 a2 z2 a3 z3) : All64 z1 ∧ All64 z2 ∧ All64 z3 := ⟨h.x.wf, h.y.wf, h.z.wf⟩
theorem Raw3.rd (h : Raw3 w a1 z1 a2 z2 a3 z3) (hl : z1.length + z2.length + z3.length ≤ 1000000000) : Rd3 w a1 z1 a2 z2 a3 z3 := ⟨h.x.rd (by omega), h.y.rd (by omega), h.z.rd (by omega)⟩
end

/-- Three slices of the call's own, among the blocks lo .. hi - 1, apart from each other. -/
structure Own3 (t : TypeId) (w : World) (lo hi : Nat) (u1 : Value) (z1 : List Int) (u2 : Value) (z2 : List Int) (u3 : Value) (z3 : List Int) : Prop where
  ex : ∃ l1 h1 l2 h2 l3 h3, Own t w l1 h1 u1 z1 ∧ Own t w l2 h2 u2 z2 ∧ Own t w l3 h3 u3 z3 ∧ lo ≤ l1 ∧ h1 ≤ hi ∧ lo ≤ l2 ∧ h2 ≤ hi ∧ lo ≤ l3 ∧ h3 ≤ hi ∧ (h1 ≤ l2 ∨ h2 ≤ l1) ∧ (h1 ≤ l3 ∨ h3 ≤ l1) ∧ (h2 ≤ l3 ∨ h3 ≤ l2)
section
variable {t : TypeId} {w w' : World} {lo hi : Nat} {u1 u2 u3 : Value} {z1 z2 z3 : List Int}
theorem Own3.touch {a b : Nat} (h : Own3 t w lo hi u1 z1 u2 z2 u3 z3) (ht : Touch a b w w') (hd : hi ≤ a ∨ b ≤ lo) : Own3 t w' lo hi u1 z1 u2 z2 u3 z3 := by
  obtain ⟨l1, h1, l2, h2, l3, h3, o1, o2, o3, s⟩ := h.ex
  exact ⟨l1, h1, l2, h2, l3, h3, o1.touch ht (by omega), o2.touch ht (by omega), o3.touch ht (by omega), s⟩
theorem Own3.below (h : Own3 t w lo hi u1 z1 u2 z2 u3 z3) (hb : Below w.heap.size w w') : Own3 t w' lo hi u1 z1 u2 z2 u3 z3 := by
  obtain ⟨l1, h1, l2, h2, l3, h3, o1, o2, o3, s⟩ := h.ex
  exact ⟨l1, h1, l2, h2, l3, h3, o1.below hb, o2.below hb, o3.below hb, s⟩
theorem Own3.low {L : Nat} (h : Own3 t w lo hi u1 z1 u2 z2 u3 z3) (hb : Below L w w') (hg : hi ≤ L) : Own3 t w' lo hi u1 z1 u2 z2 u3 z3 := by
  obtain ⟨l1, h1, l2, h2, l3, h3, o1, o2, o3, s⟩ := h.ex
  exact ⟨l1, h1, l2, h2, l3, h3, Own.lo o1 hb (by omega), Own.lo o2 hb (by omega), Own.lo o3 hb (by omega), s⟩
theorem Own3.drewN (h : Own3 t w lo hi u1 z1 u2 z2 u3 z3) (n : Nat) : Own3 t (w.drewN n) lo hi u1 z1 u2 z2 u3 z3 := h.below (bel_drewN (Below.refl _ _) n)
theorem Own3.drew (h : Own3 t w lo hi u1 z1 u2 z2 u3 z3) : Own3 t w.drew lo hi u1 z1 u2 z2 u3 z3 := h.below ((Below.refl _ _).drew)
theorem Own3.alloc (h : Own3 t w lo hi u1 z1 u2 z2 u3 z3) (o : Obj) : Own3 t (w.alloc o) lo hi u1 z1 u2 z2 u3 z3 := h.below ((Below.refl _ _).alloc (Nat.le_refl _) o)
theorem Own3.setCell (h : Own3 t w lo hi u1 z1 u2 z2 u3 z3) {p : Addr} (hp : p.block < lo ∨ hi ≤ p.block) (x : Value) : Own3 t (w.setCell p x) lo hi u1 z1 u2 z2 u3 z3 := by
  obtain ⟨l1, h1, l2, h2, l3, h3, o1, o2, o3, s⟩ := h.ex
  exact ⟨l1, h1, l2, h2, l3, h3, o1.setCell (by omega) x, o2.setCell (by omega) x, o3.setCell (by omega) x, s⟩
theorem Own3.wide {lo' hi' : Nat} (h : Own3 t w lo hi u1 z1 u2 z2 u3 z3) (hl : lo' ≤ lo) (hh : hi ≤ hi') : Own3 t w lo' hi' u1 z1 u2 z2 u3 z3 := by
  obtain ⟨l1, h1, l2, h2, l3, h3, o1, o2, o3, s⟩ := h.ex
  exact ⟨l1, h1, l2, h2, l3, h3, o1, o2, o3, by omega⟩
theorem Own3.len (h : Own3 t w lo hi u1 z1 u2 z2 u3 z3) : z1.length ≤ 1000000000 ∧ z2.length ≤ 1000000000 ∧ z3.length ≤ 1000000000 := by
  obtain ⟨l1, h1, l2, h2, l3, h3, o1, o2, o3, s⟩ := h.ex
  exact ⟨o1.len, o2.len, o3.len⟩
theorem Own3.rd {a b d : Option Addr} {n c m e k f : Nat} (h : Own3 t w lo hi (.slice a n c) z1 (.slice b m e) z2 (.slice d k f) z3) : Rd3 w a z1 b z2 d z3 := by
  obtain ⟨l1, h1, l2, h2, l3, h3, o1, o2, o3, s⟩ := h.ex
  exact ⟨o1.rd, o2.rd, o3.rd⟩
theorem own3_nil (t : TypeId) (w : World) (lo hi : Nat) (hl : lo ≤ hi) : Own3 t w lo hi (.slice none 0 0) [] (.slice none 0 0) [] (.slice none 0 0) [] :=
  have n : Own t w lo lo (.slice none 0 0) [] := ⟨World.ownsRow_nil _ _ _ _, by simp [Value.ownBlock], by simp⟩
  ⟨lo, lo, lo, lo, lo, lo, n, n, n, by omega⟩
end

theorem bx_put7 {X : World} {G : Nat} {t : TypeId} {a0 a1 a2 a3 a4 a5 a6 b0 b1 b2 b3 b4 b5 b6 : Value} (h : Bx X G t #[a0, a1, a2, a3, a4, a5, a6]) :
    Bx (((((((X.setCell ⟨G, 0, none⟩ b0).setCell ⟨G, 1, none⟩ b1).setCell ⟨G, 2, none⟩ b2).setCell ⟨G, 3, none⟩ b3).setCell ⟨G, 4, none⟩ b4).setCell ⟨G, 5, none⟩ b5).setCell ⟨G, 6, none⟩ b6) G t #[b0, b1, b2, b3, b4, b5, b6] := by
  have h1 : Bx (X.setCell ⟨G, 0, none⟩ b0) G t #[b0, a1, a2, a3, a4, a5, a6] := h.set_ 0 b0
  have h2 : Bx ((X.setCell ⟨G, 0, none⟩ b0).setCell ⟨G, 1, none⟩ b1) G t #[b0, b1, a2, a3, a4, a5, a6] := h1.set_ 1 b1
  have h3 : Bx (((X.setCell ⟨G, 0, none⟩ b0).setCell ⟨G, 1, none⟩ b1).setCell ⟨G, 2, none⟩ b2) G t #[b0, b1, b2, a3, a4, a5, a6] := h2.set_ 2 b2
  have h4 : Bx ((((X.setCell ⟨G, 0, none⟩ b0).setCell ⟨G, 1, none⟩ b1).setCell ⟨G, 2, none⟩ b2).setCell ⟨G, 3, none⟩ b3) G t #[b0, b1, b2, b3, a4, a5, a6] := h3.set_ 3 b3
  have h5 : Bx (((((X.setCell ⟨G, 0, none⟩ b0).setCell ⟨G, 1, none⟩ b1).setCell ⟨G, 2, none⟩ b2).setCell ⟨G, 3, none⟩ b3).setCell ⟨G, 4, none⟩ b4) G t #[b0, b1, b2, b3, b4, a5, a6] := h4.set_ 4 b4
  have h6 : Bx ((((((X.setCell ⟨G, 0, none⟩ b0).setCell ⟨G, 1, none⟩ b1).setCell ⟨G, 2, none⟩ b2).setCell ⟨G, 3, none⟩ b3).setCell ⟨G, 4, none⟩ b4).setCell ⟨G, 5, none⟩ b5) G t #[b0, b1, b2, b3, b4, b5, a6] := h5.set_ 5 b5
  have h7 : Bx (((((((X.setCell ⟨G, 0, none⟩ b0).setCell ⟨G, 1, none⟩ b1).setCell ⟨G, 2, none⟩ b2).setCell ⟨G, 3, none⟩ b3).setCell ⟨G, 4, none⟩ b4).setCell ⟨G, 5, none⟩ b5).setCell ⟨G, 6, none⟩ b6) G t #[b0, b1, b2, b3, b4, b5, b6] := h6.set_ 6 b6
  exact h7

theorem touch_put7 (X : World) (G : Nat) {b0 b1 b2 b3 b4 b5 b6 : Value} : Touch G (G + 1) X (((((((X.setCell ⟨G, 0, none⟩ b0).setCell ⟨G, 1, none⟩ b1).setCell ⟨G, 2, none⟩ b2).setCell ⟨G, 3, none⟩ b3).setCell ⟨G, 4, none⟩ b4).setCell ⟨G, 5, none⟩ b5).setCell ⟨G, 6, none⟩ b6) :=
  ((((((((Touch.refl G (G + 1) X).setCell (p := ⟨G, 0, none⟩) (Nat.le_refl _) (Nat.lt_succ_self _) b0).setCell (p := ⟨G, 1, none⟩) (Nat.le_refl _) (Nat.lt_succ_self _) b1).setCell (p := ⟨G, 2, none⟩) (Nat.le_refl _) (Nat.lt_succ_self _) b2).setCell (p := ⟨G, 3, none⟩) (Nat.le_refl _) (Nat.lt_succ_self _) b3).setCell (p := ⟨G, 4, none⟩) (Nat.le_refl _) (Nat.lt_succ_self _) b4).setCell (p := ⟨G, 5, none⟩) (Nat.le_refl _) (Nat.lt_succ_self _) b5).setCell (p := ⟨G, 6, none⟩) (Nat.le_refl _) (Nat.lt_succ_self _) b6)

/-- Two machines are equal (a word that the walk does not open). -/
def macEqB (m n : Mac) : Bool := regEqB m.b1 n.b1 m.z1 n.z1 && (regEqB m.b2 n.b2 m.z2 n.z2 && (regEqB m.b3 n.b3 m.z3 n.z3 && decide (m.p = n.p)))
theorem macEqB_self (m : Mac) : macEqB m m = true := by simp [macEqB, regEqB]
end Go.Proofs.YtlahobdopmdfmaaDoor

/- MacM -/
namespace Go.Proofs.YtlahobdopmdfmaaDoor
open Go.RowKit

/-! Digits of sums and differences. -/
theorem mval_app (b : Int) : ∀ xs ys : List Int, valR b (xs ++ ys) = valR b xs + b ^ xs.length * valR b ys
  | [], ys => by simp [valR]
  | x :: xs, ys => by
    simp only [List.cons_append, valR, mval_app b xs ys, List.length_cons, Int.pow_succ, Int.mul_add]
    rw [Int.mul_comm (b ^ xs.length) b, Int.mul_assoc]
    omega
theorem mval_zero (b : Int) : ∀ n : Nat, valR b (List.replicate n 0) = 0
  | 0 => rfl
  | n + 1 => by rw [List.replicate_succ, valR, mval_zero b n]; simp
theorem mval_snoc (b : Int) (zs : List Int) (d : Int) : valR b (zs ++ [d]) = valR b zs + d * b ^ zs.length := by
  rw [mval_app]; simp only [valR, Int.mul_zero, Int.add_zero]; rw [Int.mul_comm]
theorem mval_take {b : Int} {zs : List Int} {k : Nat} (h : k < zs.length) : valR b (zs.take (k + 1)) = valR b (zs.take k) + nth zs k * b ^ k := by
  rw [List.take_succ_eq_append_getElem h, ← nth_get h, mval_snoc, List.length_take, Nat.min_eq_left (by omega)]
theorem mval_tab (b : Int) (f : Nat → Int) (k : Nat) : valR b (tab f (k + 1)) = valR b (tab f k) + f k * b ^ k := by
  rw [tab_succ, mval_snoc, tab_len]
theorem msum_val {b : Int} {xs ys : List Int} (hl : ys.length = xs.length) : ∀ k, k ≤ xs.length → valR b (tab (sumD b xs ys) k) + cK b xs ys k * b ^ k = valR b (xs.take k) + valR b (ys.take k)
  | 0, _ => by simp [tab, valR, cK]
  | k + 1, hk => by
    have ih := msum_val (b := b) hl k (by omega)
    have ec : cK b xs ys (k + 1) = (nth xs k + nth ys k + cK b xs ys k) / b := rfl
    rw [mval_tab, mval_take (by omega), mval_take (by omega), ec, Int.pow_succ]
    have e := Int.emod_add_mul_ediv (nth xs k + nth ys k + cK b xs ys k) b
    have e2 : sumD b xs ys k = nth xs k + nth ys k + cK b xs ys k - b * ((nth xs k + nth ys k + cK b xs ys k) / b) := by unfold sumD; omega
    rw [e2]
    generalize (nth xs k + nth ys k + cK b xs ys k) / b = q
    rw [Int.sub_mul, Int.add_mul, Int.add_mul, show b * q * b ^ k = q * (b ^ k * b) by rw [Int.mul_comm b q, Int.mul_assoc, Int.mul_comm b]]
    omega
theorem msub_val {b : Int} {xs ys : List Int} (hl : ys.length = xs.length) : ∀ k, k ≤ xs.length → valR b (tab (subD b xs ys) k) - bK b xs ys k * b ^ k = valR b (xs.take k) - valR b (ys.take k)
  | 0, _ => by simp [tab, valR, bK]
  | k + 1, hk => by
    have ih := msub_val (b := b) hl k (by omega)
    rw [mval_tab, mval_take (by omega), mval_take (by omega), Int.pow_succ]
    simp only [subD, bK]
    split
    · rw [Int.add_mul, Int.sub_mul, Int.sub_mul, Int.one_mul, Int.mul_comm b (b ^ k)]
      omega
    · rw [Int.sub_mul, Int.sub_mul, Int.zero_mul]
      omega

/-- All are digits of the base. -/
def DigsM (b : Int) (zs : List Int) : Prop := ∀ d ∈ zs, 0 ≤ d ∧ d < b
theorem digsM_nth {b : Int} {zs : List Int} (h : DigsM b zs) {k : Nat} (hk : k < zs.length) : 0 ≤ nth zs k ∧ nth zs k < b := by
  rw [nth_get hk]; exact h _ (List.getElem_mem hk)
/-- The register after x has been added, modulo its size; whether it goes round. -/
def movZ (b : Int) (zs : List Int) (x : Int) : List Int := digsR b zs.length ((valR b zs + x) % b ^ zs.length)
def movO (b : Int) (zs : List Int) (x : Int) : Bool := !decide (0 ≤ valR b zs + x ∧ valR b zs + x ≤ b ^ zs.length - 1)
theorem movZ_len (b : Int) (zs : List Int) (x : Int) : (movZ b zs x).length = zs.length := digsR_len _ _ _
theorem movZ_val {b : Int} (b0 : 1 ≤ b) (zs : List Int) (x : Int) : valR b (movZ b zs x) = (valR b zs + x) % b ^ zs.length := by
  have hp := pow_pos' b0 zs.length
  exact valR_digs b0 _ _ (Int.emod_nonneg _ (by omega)) (Int.emod_lt_of_pos _ (by omega))
theorem movZ_digs {b : Int} (b0 : 1 ≤ b) (zs : List Int) (x : Int) : DigsM b (movZ b zs x) := digsR_bd b0 _ _
theorem sum_mov {b : Int} (b0 : 2 ≤ b) {xs ys : List Int} (hx : DigsM b xs) (hy : DigsM b ys) (hl : ys.length = xs.length) :
    tab (sumD b xs ys) xs.length = movZ b xs (valR b ys) ∧ decide (0 < cK b xs ys xs.length) = movO b xs (valR b ys) := by
  have hv := msum_val (b := b) hl xs.length (Nat.le_refl _)
  rw [List.take_length, List.take_of_length_le (by omega)] at hv
  have hd : DigsM b (tab (sumD b xs ys) xs.length) := tab_mem fun k _ => ⟨Int.emod_nonneg _ (by omega), Int.emod_lt_of_pos _ (by omega)⟩
  have hlt := valR_lt (show 1 ≤ b by omega) hd
  have hback := digsR_back (show 1 ≤ b by omega) hd
  rw [tab_len] at hlt hback
  have hx0 := valR_lt (show 1 ≤ b by omega) hx
  have hy0 := valR_lt (show 1 ≤ b by omega) hy
  have hc := cK_bd b0 (fun k hk => digsM_nth hx hk) (fun k hk => digsM_nth hy (k := k) (by omega)) xs.length (Nat.le_refl _)
  constructor
  · unfold movZ
    rw [← hv, Int.add_mul_emod_self_right, Int.emod_eq_of_lt hlt.1 hlt.2, hback]
  · unfold movO
    rw [← hv]
    rcases (show cK b xs ys xs.length = 0 ∨ cK b xs ys xs.length = 1 by omega) with h | h
    · rw [h]; simp; omega
    · rw [h]; simp; omega
theorem sub_mov {b : Int} (b0 : 2 ≤ b) {xs ys : List Int} (hx : DigsM b xs) (hy : DigsM b ys) (hl : ys.length = xs.length) :
    tab (subD b xs ys) xs.length = movZ b xs (-valR b ys) ∧ decide (0 < bK b xs ys xs.length) = movO b xs (-valR b ys) := by
  have hv := msub_val (b := b) hl xs.length (Nat.le_refl _)
  rw [List.take_length, List.take_of_length_le (by omega)] at hv
  have hd : DigsM b (tab (subD b xs ys) xs.length) := tab_mem fun k hk => by
    have h1 := digsM_nth hx hk
    have h2 := digsM_nth hy (k := k) (by omega)
    have h3 := bK_bd b xs ys k
    unfold subD; split <;> omega
  have hlt := valR_lt (show 1 ≤ b by omega) hd
  have hback := digsR_back (show 1 ≤ b by omega) hd
  rw [tab_len] at hlt hback
  have hx0 := valR_lt (show 1 ≤ b by omega) hx
  have hy0 := valR_lt (show 1 ≤ b by omega) hy
  have hc := bK_bd b xs ys xs.length
  have hs : valR b xs + -valR b ys = valR b (tab (subD b xs ys) xs.length) + (-bK b xs ys xs.length) * b ^ xs.length := by rw [Int.neg_mul]; omega
  constructor
  · unfold movZ
    rw [hs, Int.add_mul_emod_self_right, Int.emod_eq_of_lt hlt.1 hlt.2, hback]
  · unfold movO
    rw [hs]
    rcases (show bK b xs ys xs.length = 0 ∨ bK b xs ys xs.length = 1 by omega) with h | h
    · rw [h]; simp; omega
    · rw [h]; simp; omega

/-- Digits that stand above a register of n digits, from place p on. -/
def abvL (n p : Nat) (ds : List Int) : List Int := List.replicate p 0 ++ (ds ++ List.replicate (n - p - ds.length) 0)
theorem abvL_len {n p : Nat} {ds : List Int} (h : p + ds.length ≤ n) : (abvL n p ds).length = n := by simp [abvL]; omega
theorem abvL_val (b : Int) (n p : Nat) (ds : List Int) : valR b (abvL n p ds) = b ^ p * valR b ds := by
  rw [abvL, mval_app, mval_app, mval_zero, mval_zero, List.length_replicate]; simp
theorem abvL_digs {b : Int} (b0 : 1 ≤ b) {ds : List Int} (h : DigsM b ds) (n p : Nat) : DigsM b (abvL n p ds) := by
  intro d hd
  simp only [abvL, List.mem_append, List.mem_replicate] at hd
  rcases hd with ⟨_, rfl⟩ | hd | ⟨_, rfl⟩
  · omega
  · exact h d hd
  · omega

/-! Machines. -/
def mac0 : Mac := ⟨0, [], 0, [], 0, [], 0⟩
/-- How many places there are. -/
def plcs (m : Mac) : Int := min ((m.z2.length : Int) - m.z1.length + 1) m.z3.length
/-- A machine is valid. -/
def macB (m : Mac) : Bool := decide (okB m.b1 m.z1 = true ∧ okB m.b2 m.z2 = true ∧ okB m.b3 m.z3 = true ∧ m.b1 = m.b2 ∧ m.b1 = m.b3 ∧
  m.b1 ^ m.z2.length - 1 ≤ 1000000000000 ∧ m.b1 ^ m.z3.length - 1 ≤ 1000000000000 ∧ m.z1.length ≤ m.z2.length ∧ 0 ≤ m.p ∧ m.p ≤ plcs m - 1)
theorem macB_spec {m : Mac} (h : macB m = true) : okB m.b1 m.z1 = true ∧ okB m.b2 m.z2 = true ∧ okB m.b3 m.z3 = true ∧ m.b1 = m.b2 ∧ m.b1 = m.b3 ∧
    m.b1 ^ m.z2.length - 1 ≤ 1000000000000 ∧ m.b1 ^ m.z3.length - 1 ≤ 1000000000000 ∧ m.z1.length ≤ m.z2.length ∧ 0 ≤ m.p ∧ m.p ≤ plcs m - 1 := by simpa [macB] using h
theorem macB_acc {m : Mac} (h : macB m = true) : accB m.b2 m.z2 = true ∧ accB m.b3 m.z3 = true := by
  obtain ⟨h1, h2, h3, e2, e3, f2, f3, _⟩ := macB_spec h
  rw [e2] at f2
  rw [e3] at f3
  exact ⟨by simp [accB, h2, f2], by simp [accB, h3, f3]⟩
/-- The parts of a valid machine, as the walks want them. -/
theorem macB_facts {m : Mac} (h : macB m = true) : m.b2 = m.b1 ∧ m.b3 = m.b1 ∧ 2 ≤ m.b1 ∧ m.b1 ≤ 16 ∧ 1 ≤ m.z1.length ∧ m.z1.length ≤ m.z2.length ∧ m.z2.length ≤ 16 ∧ 1 ≤ m.z3.length ∧ m.z3.length ≤ 16 ∧
    0 ≤ m.p ∧ m.p + m.z1.length ≤ m.z2.length ∧ m.p < m.z3.length ∧ DigsM m.b1 m.z1 ∧ DigsM m.b1 m.z2 ∧ DigsM m.b1 m.z3 := by
  obtain ⟨h1, h2, h3, e2, e3, f2, f3, hl, p0, p1⟩ := macB_spec h
  obtain ⟨a0, a1, n0, n1, d1, _⟩ := okB_spec h1
  obtain ⟨_, _, n2, n3, d2, _⟩ := okB_spec h2
  obtain ⟨_, _, n4, n5, d3, _⟩ := okB_spec h3
  unfold plcs at p1
  rw [← e2] at d2
  rw [← e3] at d3
  exact ⟨e2.symm, e3.symm, a0, a1, n0, hl, n3, n4, n5, p0, by omega, by omega, d1, d2, d3⟩

/-- The power of the place. -/
def unitM (m : Mac) : Int := m.b1 ^ m.p.toNat
/-- The setting added s times at the place, whether the bell rings. -/
def trnM (m : Mac) (s : Int) : Mac × Bool :=
  (⟨m.b1, m.z1, m.b2, movZ m.b2 m.z2 (s * (unitM m * valR m.b1 m.z1)), m.b3, movZ m.b3 m.z3 (s * unitM m), m.p⟩, movO m.b2 m.z2 (s * (unitM m * valR m.b1 m.z1)))
/-- The carriage moved. -/
def shfM (m : Mac) (s : Int) : Mac × Bool := if 0 ≤ m.p + s ∧ m.p + s ≤ plcs m - 1 then (⟨m.b1, m.z1, m.b2, m.z2, m.b3, m.z3, m.p + s⟩, false) else (m, true)
/-- A stroke. -/
def doM (m : Mac) (k : Int) : Mac × Bool :=
  if k = 1 then trnM m 1 else if k = 2 then trnM m (-1) else if k = 3 then shfM m 1 else if k = 4 then shfM m (-1) else
  if k = 5 then (⟨m.b1, m.z1, m.b2, List.replicate m.z2.length 0, m.b3, List.replicate m.z3.length 0, m.p⟩, false) else
  (⟨m.b1, List.replicate m.z1.length 0, m.b2, m.z2, m.b3, m.z3, m.p⟩, false)
/-- DoStroke. -/
def dsR (m : Mac) (k : Int) : Mac × Bool × Int := if macB m = true then (if 1 ≤ k ∧ k ≤ 6 then ((doM m k).1, (doM m k).2, 0) else (mac0, false, 2)) else (mac0, false, 1)
/-- Strokes up to the first bell: the machine, how many. -/
def runM : Mac → List Int → Mac × Int
  | m, [] => (m, 0)
  | m, k :: ks => if (doM m k).2 = true then ((doM m k).1, 1) else ((runM (doM m k).1 ks).1, (runM (doM m k).1 ks).2 + 1)
def strB (l : List Int) : Bool := decide (∀ k ∈ l, 1 ≤ k ∧ k ≤ 6)
/-- DoStrokes. -/
def dssR (m : Mac) (l : List Int) : Mac × Int × Int :=
  if macB m = true then (if strB l = true then (if l.length ≤ 300 then ((runM m l).1, (runM m l).2, 0) else (mac0, 0, 5)) else (mac0, 0, 2)) else (mac0, 0, 1)
/-- PlacesOf, StrokeBack. -/
def plR (m : Mac) : Int × Int := if macB m = true then (plcs m, 0) else (0, 1)
def sbR (k : Int) : Int × Int := if k = 1 then (2, 0) else if k = 2 then (1, 0) else if k = 3 then (4, 0) else if k = 4 then (3, 0) else if k = 5 ∨ k = 6 then (0, 3) else (0, 2)
/-- The machine that NewMachine makes out of what NewRegister gives. -/
def rawM (b s r c : Int) : Mac := ⟨(nrR b s 0).1, (nrR b s 0).2.1, (nrR b r 0).1, (nrR b r 0).2.1, (nrR b c 0).1, (nrR b c 0).2.1, 0⟩
/-- NewMachine. -/
def nmR (b s r c : Int) : Mac × Int := if macB (rawM b s r c) = true then (rawM b s r c, 0) else (mac0, 2)
/-- Base and widths are in range. -/
def nmB (b s r c : Int) : Bool := decide (2 ≤ b ∧ b ≤ 16 ∧ 1 ≤ s ∧ s ≤ 16 ∧ 1 ≤ r ∧ r ≤ 16 ∧ 1 ≤ c ∧ c ≤ 16)
theorem leftR_zero (b : Int) : ∀ n : Nat, leftR b n 0 = 0
  | 0 => rfl
  | n + 1 => by rw [leftR, Int.zero_ediv]; exact leftR_zero b n
theorem digsR_zero (b : Int) : ∀ n : Nat, digsR b n 0 = List.replicate n 0
  | 0 => rfl
  | n + 1 => by rw [digsR, Int.zero_emod, Int.zero_ediv, digsR_zero b n, List.replicate_succ]
theorem nrR_zero {b n : Int} (h : 2 ≤ b ∧ b ≤ 16 ∧ 1 ≤ n ∧ n ≤ 16) : nrR b n 0 = (b, digsR b n.toNat 0, 0) := by
  obtain ⟨m, rfl⟩ := Int.eq_ofNat_of_zero_le (show 0 ≤ n by omega)
  rw [Int.toNat_natCast]
  exact nrR_ok ⟨h.1, h.2.1, by omega, by omega, by omega, by omega⟩ (by rw [leftR_zero]; omega)
theorem nrR_none {b n : Int} (h : ¬ (2 ≤ b ∧ b ≤ 16 ∧ 1 ≤ n ∧ n ≤ 16)) : nrR b n 0 = (0, [], 2) := nrR_bad (by omega)
theorem nrR_wf {b n : Int} (h : I64 b) : I64 (nrR b n 0).1 ∧ All64 (nrR b n 0).2.1 := by
  by_cases k : 2 ≤ b ∧ b ≤ 16 ∧ 1 ≤ n ∧ n ≤ 16
  · rw [nrR_zero k]
    refine ⟨h, fun z hz => ?_⟩
    rw [digsR_zero, List.mem_replicate] at hz
    rw [hz.2]; unfold I64; decide
  · rw [nrR_none k]
    exact ⟨by unfold I64; decide, fun z hz => by cases hz⟩
theorem okB_none : okB 0 [] = false := by decide
/-- Where base or widths are out of range there is no machine. -/
theorem rawM_bad {b s r c : Int} (h : nmB b s r c = false) : macB (rawM b s r c) = false := by
  have h' : ¬ (2 ≤ b ∧ b ≤ 16 ∧ 1 ≤ s ∧ s ≤ 16) ∨ ¬ (2 ≤ b ∧ b ≤ 16 ∧ 1 ≤ r ∧ r ≤ 16) ∨ ¬ (2 ≤ b ∧ b ≤ 16 ∧ 1 ≤ c ∧ c ≤ 16) := by
    simp only [nmB, decide_eq_false_iff_not] at h; omega
  cases hm : macB (rawM b s r c) with
  | false => rfl
  | true =>
    obtain ⟨h1, h2, h3, _⟩ := macB_spec hm
    unfold rawM at h1 h2 h3
    rcases h' with k | k | k
    · simp only [nrR_none k] at h1; rw [okB_none] at h1; cases h1
    · simp only [nrR_none k] at h2; rw [okB_none] at h2; cases h2
    · simp only [nrR_none k] at h3; rw [okB_none] at h3; cases h3
theorem rawM_good {b s r c : Int} (h : nmB b s r c = true) : rawM b s r c = ⟨b, digsR b s.toNat 0, b, digsR b r.toNat 0, b, digsR b c.toNat 0, 0⟩ := by
  simp only [nmB, decide_eq_true_eq] at h
  obtain ⟨b0, b1, s0, s1, r0, r1, c0, c1⟩ := h
  rw [rawM, nrR_zero ⟨b0, b1, s0, s1⟩, nrR_zero ⟨b0, b1, r0, r1⟩, nrR_zero ⟨b0, b1, c0, c1⟩]
/-- SetValue, SetDigit. -/
def svR (m : Mac) (v : Int) : Mac × Int :=
  if macB m = true then (if 0 ≤ v ∧ v ≤ m.b1 ^ m.z1.length - 1 then (⟨m.b1, digsR m.b1 m.z1.length v, m.b2, m.z2, m.b3, m.z3, m.p⟩, 0) else (mac0, 2)) else (mac0, 1)
def sdR (m : Mac) (k d : Int) : Mac × Int :=
  if macB m = true then (if (0 ≤ k ∧ k ≤ (m.z1.length : Int) - 1) ∧ 0 ≤ d ∧ d ≤ m.b1 - 1 then (⟨m.b1, m.z1.set k.toNat d, m.b2, m.z2, m.b3, m.z3, m.p⟩, 0) else (mac0, 2)) else (mac0, 1)

/-- A machine of its own and a code. -/
def MacC (R : Mac × Int) (w : World) (e : Ending) (w' : World) : Prop := ∃ (A1 : Option Addr) (C1 : Nat) (A2 : Option Addr) (C2 : Nat) (A3 : Option Addr) (C3 : Nat),
  e = .returned (.tuple #[.agg #[.int .i64 R.1.b1, .slice A1 R.1.z1.length C1, .int .i64 R.1.b2, .slice A2 R.1.z2.length C2, .int .i64 R.1.b3, .slice A3 R.1.z3.length C3, .int .i64 R.1.p], .int .i64 R.2]) ∧ Own3 2 w' w.heap.size w'.heap.size (.slice A1 R.1.z1.length C1) R.1.z1 (.slice A2 R.1.z2.length C2) R.1.z2 (.slice A3 R.1.z3.length C3) R.1.z3 ∧ Below w.heap.size w w'
theorem macC_err {R : Mac × Int} {c : Int} {w w' : World} {e : Ending} (h : R = (mac0, c)) (he : e = .returned (.tuple #[.agg #[.int .i64 0, .slice none 0 0, .int .i64 0, .slice none 0 0, .int .i64 0, .slice none 0 0, .int .i64 0], .int .i64 c])) (hb : Below w.heap.size w w') : MacC R w e w' := by
  subst h
  exact ⟨none, 0, none, 0, none, 0, he, own3_nil _ _ _ _ hb.size, hb⟩
theorem macC_ok {R : Mac × Int} {m : Mac} {w w' : World} {A1 : Option Addr} {C1 : Nat} {A2 : Option Addr} {C2 : Nat} {A3 : Option Addr} {C3 : Nat} {lo hi : Nat} {e : Ending} (h : R = (m, 0)) (he : e = .returned (.tuple #[.agg #[.int .i64 m.b1, .slice A1 m.z1.length C1, .int .i64 m.b2, .slice A2 m.z2.length C2, .int .i64 m.b3, .slice A3 m.z3.length C3, .int .i64 m.p], .int .i64 0]))
    (ho : Own3 2 w' lo hi (.slice A1 m.z1.length C1) m.z1 (.slice A2 m.z2.length C2) m.z2 (.slice A3 m.z3.length C3) m.z3) (hl : w.heap.size ≤ lo) (hh : hi ≤ w'.heap.size) (hb : Below w.heap.size w w') : MacC R w e w' := by
  subst h
  exact ⟨A1, C1, A2, C2, A3, C3, he, ho.wide hl hh, hb⟩
end Go.Proofs.YtlahobdopmdfmaaDoor

/- MacT -/
namespace Go.Proofs.YtlahobdopmdfmaaDoor
open Go.RowKit

set_option maxHeartbeats 2000000 in
set_option maxRecDepth 100000 in
theorem toMachine_any (m : Mac) (A1 : Option Addr) (C1 : Nat) (A2 : Option Addr) (C2 : Nat) (A3 : Option Addr) (C3 : Nat) (w : World) (h : Rd3 w A1 m.z1 A2 m.z2 A3 m.z3) :
    Calls Tryd.prog 64 #[.agg #[.int .i64 m.b1, .slice A1 m.z1.length C1, .int .i64 m.b2, .slice A2 m.z2.length C2, .int .i64 m.b3, .slice A3 m.z3.length C3, .int .i64 m.p]] w fun e w' => ∃ D1 E1 D2 E2 D3 E3, e = .returned (.agg #[.int .i64 m.b1, .slice D1 m.z1.length E1, .int .i64 m.b2, .slice D2 m.z2.length E2, .int .i64 m.b3, .slice D3 m.z3.length E3, .int .i64 m.p]) ∧
      Own3 2 w' w.heap.size w'.heap.size (.slice D1 m.z1.length E1) m.z1 (.slice D2 m.z2.length E2) m.z2 (.slice D3 m.z3.length E3) m.z3 ∧ Below w.heap.size w w' := by
  obtain ⟨u, hu⟩ : ∃ u, u = ((w.alloc (.cells #[.int .i64 m.b1, .slice A1 m.z1.length C1, .int .i64 m.b2, .slice A2 m.z2.length C2, .int .i64 m.b3, .slice A3 m.z3.length C3, .int .i64 m.p] 72)).alloc (.cells #[.int .i64 0, .slice none 0 0, .int .i64 0, .slice none 0 0, .int .i64 0, .slice none 0 0, .int .i64 0] 28)).alloc (.cells #[.int .i64 0, .slice none 0 0, .int .i64 0, .slice none 0 0, .int .i64 0, .slice none 0 0, .int .i64 0] 28) := ⟨_, rfl⟩
  have hb0 : Below w.heap.size w u := by rw [hu]; exact (by repeat (first | exact Below.refl _ _ | refine Below.setCell ?_ (by first | omega | (simp <;> omega)) _ | refine Below.alloc ?_ (by first | omega | (simp <;> omega)) _ | refine Below.drew ?_))
  have HU := Lib.hid hu
  have b0 : Bx u w.heap.size 72 #[.int .i64 m.b1, .slice A1 m.z1.length C1, .int .i64 m.b2, .slice A2 m.z2.length C2, .int .i64 m.b3, .slice A3 m.z3.length C3, .int .i64 m.p] := by rw [hu]; exact ((Bx.new _ _ _).alloc _).alloc _
  have b1 : Bx u (w.heap.size + 1) 28 #[.int .i64 0, .slice none 0 0, .int .i64 0, .slice none 0 0, .int .i64 0, .slice none 0 0, .int .i64 0] := by
    rw [hu]; simpa using (Bx.new (w.alloc (.cells #[.int .i64 m.b1, .slice A1 m.z1.length C1, .int .i64 m.b2, .slice A2 m.z2.length C2, .int .i64 m.b3, .slice A3 m.z3.length C3, .int .i64 m.p] 72)) #[.int .i64 0, .slice none 0 0, .int .i64 0, .slice none 0 0, .int .i64 0, .slice none 0 0, .int .i64 0] 28).alloc (.cells #[.int .i64 0, .slice none 0 0, .int .i64 0, .slice none 0 0, .int .i64 0, .slice none 0 0, .int .i64 0] 28)
  have b2 : Bx u (w.heap.size + 1 + 1) 28 #[.int .i64 0, .slice none 0 0, .int .i64 0, .slice none 0 0, .int .i64 0, .slice none 0 0, .int .i64 0] := by
    rw [hu]; simpa using Bx.new ((w.alloc (.cells #[.int .i64 m.b1, .slice A1 m.z1.length C1, .int .i64 m.b2, .slice A2 m.z2.length C2, .int .i64 m.b3, .slice A3 m.z3.length C3, .int .i64 m.p] 72)).alloc (.cells #[.int .i64 0, .slice none 0 0, .int .i64 0, .slice none 0 0, .int .i64 0, .slice none 0 0, .int .i64 0] 28)) #[.int .i64 0, .slice none 0 0, .int .i64 0, .slice none 0 0, .int .i64 0, .slice none 0 0, .int .i64 0] 28
  have hz : u.heap.size = w.heap.size + 1 + 1 + 1 := by rw [hu]; simp
  have hx1 := h.x.below hb0
  have hy1 := h.y
  have hz1 := h.z
  clear hu h
  go_enter Tryd.func64, Tryd.ntmps64
  go_wp2_with fail
  rw [← HU.out]
  refine (toRegister_any m.b1 A1 C1 m.z1 u hx1).mono ?_
  rintro e w1 ⟨D1, E1, rfl, o1, hb1⟩
  replace b0 := b0.below hb1
  replace b1 := b1.below hb1
  replace b2 := b2.below hb1
  have hs1 := hb1.size
  have hbw := hb0.trans (hb1.mono hb0.size)
  clear hb1 hx1
  have e0 := b0.at_ 2 rfl
  have e1 := b0.at_ 3 rfl
  have g0 := b2.at_ 0 rfl
  have g1 := b2.at_ 1 rfl
  have g0f := b2.thaw 0
  have g1f := b2.thaw 1
  go_wp2_with fail
  obtain ⟨V, hV⟩ : ∃ V, V = (w1.setCell ⟨w.heap.size + 1 + 1, 0, none⟩ (.int .i64 m.b1)).setCell ⟨w.heap.size + 1 + 1, 1, none⟩ (.slice D1 m.z1.length E1) := ⟨_, rfl⟩
  rw [← hV]
  have p1 : Own 2 V u.heap.size w1.heap.size (.slice D1 m.z1.length E1) m.z1 := by rw [hV]; exact (o1.setCell (.inl (by simp; omega)) _).setCell (.inl (by simp; omega)) _
  have c0 : Bx V w.heap.size 72 #[.int .i64 m.b1, .slice A1 m.z1.length C1, .int .i64 m.b2, .slice A2 m.z2.length C2, .int .i64 m.b3, .slice A3 m.z3.length C3, .int .i64 m.p] := by rw [hV]; exact (b0.far (by simp <;> omega) _).far (by simp <;> omega) _
  have c1 : Bx V (w.heap.size + 1) 28 #[.int .i64 0, .slice none 0 0, .int .i64 0, .slice none 0 0, .int .i64 0, .slice none 0 0, .int .i64 0] := by rw [hV]; exact (b1.far (by simp) _).far (by simp) _
  have c2 : Bx V (w.heap.size + 1 + 1) 28 #[.int .i64 m.b1, .slice D1 m.z1.length E1, .int .i64 0, .slice none 0 0, .int .i64 0, .slice none 0 0, .int .i64 0] := by rw [hV]; exact (b2.set_ 0 _).set_ 1 _
  have hbV : Below w.heap.size w V := by rw [hV]; exact (by repeat (first | with_reducible exact hbw | with_reducible refine Below.setCell ?_ (by first | omega | (simp <;> omega)) _ | with_reducible refine Below.alloc ?_ (by first | omega | (simp <;> omega)) _ | with_reducible refine Below.drew ?_))
  have hzV : V.heap.size = w1.heap.size := by rw [hV]; simp
  clear hV o1 b0 b1 b2 e0 e1 g0 g1 g0f g1f hbw
  refine (toRegister_any m.b2 A2 C2 m.z2 V (hy1.below hbV)).mono ?_
  rintro e w2 ⟨D2, E2, rfl, o2, hb2⟩
  replace p1 := p1.below hb2
  replace c0 := c0.below hb2
  replace c1 := c1.below hb2
  replace c2 := c2.below hb2
  have hs2 := hb2.size
  have hbw := hbV.trans (hb2.mono hbV.size)
  clear hb2 hbV
  have e0 := c0.at_ 4 rfl
  have e1 := c0.at_ 5 rfl
  have g0 := c2.at_ 2 rfl
  have g1 := c2.at_ 3 rfl
  have g0f := c2.thaw 2
  have g1f := c2.thaw 3
  go_wp2_with fail
  obtain ⟨V2, hV⟩ : ∃ V2, V2 = (w2.setCell ⟨w.heap.size + 1 + 1, 2, none⟩ (.int .i64 m.b2)).setCell ⟨w.heap.size + 1 + 1, 3, none⟩ (.slice D2 m.z2.length E2) := ⟨_, rfl⟩
  rw [← hV]
  replace p1 : Own 2 V2 u.heap.size w1.heap.size (.slice D1 m.z1.length E1) m.z1 := by rw [hV]; exact (p1.setCell (.inl (by simp; omega)) _).setCell (.inl (by simp; omega)) _
  have p2 : Own 2 V2 V.heap.size w2.heap.size (.slice D2 m.z2.length E2) m.z2 := by rw [hV]; exact (o2.setCell (.inl (by simp; omega)) _).setCell (.inl (by simp; omega)) _
  have d0 : Bx V2 w.heap.size 72 #[.int .i64 m.b1, .slice A1 m.z1.length C1, .int .i64 m.b2, .slice A2 m.z2.length C2, .int .i64 m.b3, .slice A3 m.z3.length C3, .int .i64 m.p] := by rw [hV]; exact (c0.far (by simp <;> omega) _).far (by simp <;> omega) _
  have d1 : Bx V2 (w.heap.size + 1) 28 #[.int .i64 0, .slice none 0 0, .int .i64 0, .slice none 0 0, .int .i64 0, .slice none 0 0, .int .i64 0] := by rw [hV]; exact (c1.far (by simp) _).far (by simp) _
  have d2 : Bx V2 (w.heap.size + 1 + 1) 28 #[.int .i64 m.b1, .slice D1 m.z1.length E1, .int .i64 m.b2, .slice D2 m.z2.length E2, .int .i64 0, .slice none 0 0, .int .i64 0] := by rw [hV]; exact (c2.set_ 2 _).set_ 3 _
  have hbV : Below w.heap.size w V2 := by rw [hV]; exact (by repeat (first | with_reducible exact hbw | with_reducible refine Below.setCell ?_ (by first | omega | (simp <;> omega)) _ | with_reducible refine Below.alloc ?_ (by first | omega | (simp <;> omega)) _ | with_reducible refine Below.drew ?_))
  have hzV2 : V2.heap.size = w2.heap.size := by rw [hV]; simp
  clear hV o2 c0 c1 c2 e0 e1 g0 g1 g0f g1f hbw
  refine (toRegister_any m.b3 A3 C3 m.z3 V2 (hz1.below hbV)).mono ?_
  rintro e w3 ⟨D3, E3, rfl, o3, hb3⟩
  replace p1 := p1.below hb3
  replace p2 := p2.below hb3
  replace d0 := d0.below hb3
  replace d1 := d1.below hb3
  replace d2 := d2.below hb3
  have hs3 := hb3.size
  have hbw := hbV.trans (hb3.mono hbV.size)
  clear hb3 hbV
  have e0 := d0.at_ 6 rfl
  have g0 := d2.at_ 4 rfl
  have g1 := d2.at_ 5 rfl
  have g2 := d2.at_ 6 rfl
  have g0f := d2.thaw 4
  have g1f := d2.thaw 5
  have g2f := d2.thaw 6
  go_upto_region 5 with fail
  obtain ⟨V3, hV⟩ : ∃ V3, V3 = (w3.setCell ⟨w.heap.size + 1 + 1, 4, none⟩ (.int .i64 m.b3)).setCell ⟨w.heap.size + 1 + 1, 5, none⟩ (.slice D3 m.z3.length E3) := ⟨_, rfl⟩
  try rw [← hV]
  replace p1 : Own 2 V3 u.heap.size w1.heap.size (.slice D1 m.z1.length E1) m.z1 := by rw [hV]; exact (p1.setCell (.inl (by simp; omega)) _).setCell (.inl (by simp; omega)) _
  replace p2 : Own 2 V3 V.heap.size w2.heap.size (.slice D2 m.z2.length E2) m.z2 := by rw [hV]; exact (p2.setCell (.inl (by simp; omega)) _).setCell (.inl (by simp; omega)) _
  have p3 : Own 2 V3 V2.heap.size w3.heap.size (.slice D3 m.z3.length E3) m.z3 := by rw [hV]; exact (o3.setCell (.inl (by simp; omega)) _).setCell (.inl (by simp; omega)) _
  replace d0 : Bx V3 w.heap.size 72 #[.int .i64 m.b1, .slice A1 m.z1.length C1, .int .i64 m.b2, .slice A2 m.z2.length C2, .int .i64 m.b3, .slice A3 m.z3.length C3, .int .i64 m.p] := by rw [hV]; exact (d0.far (by simp <;> omega) _).far (by simp <;> omega) _
  replace d1 : Bx V3 (w.heap.size + 1) 28 #[.int .i64 0, .slice none 0 0, .int .i64 0, .slice none 0 0, .int .i64 0, .slice none 0 0, .int .i64 0] := by rw [hV]; exact (d1.far (by simp) _).far (by simp) _
  replace d2 : Bx V3 (w.heap.size + 1 + 1) 28 #[.int .i64 m.b1, .slice D1 m.z1.length E1, .int .i64 m.b2, .slice D2 m.z2.length E2, .int .i64 m.b3, .slice D3 m.z3.length E3, .int .i64 0] := by rw [hV]; exact (d2.set_ 4 _).set_ 5 _
  have hbV : Below w.heap.size w V3 := by rw [hV]; exact (by repeat (first | with_reducible exact hbw | with_reducible refine Below.setCell ?_ (by first | omega | (simp <;> omega)) _ | with_reducible refine Below.alloc ?_ (by first | omega | (simp <;> omega)) _ | with_reducible refine Below.drew ?_))
  have hzV3 : V3.heap.size = w3.heap.size := by rw [hV]; simp
  clear hV o3 e0 g0 g1 g2 g0f g1f g2f hbw
  have e0 := d0.at_ 6 rfl
  have g0 := d2.at_ 6 rfl
  have g0f := d2.thaw 6
  go_upto_region 6 with fail
  obtain ⟨V4, hV⟩ : ∃ V4, V4 = V3.setCell ⟨w.heap.size + 1 + 1, 6, none⟩ (.int .i64 m.p) := ⟨_, rfl⟩
  try rw [← hV]
  replace p1 : Own 2 V4 u.heap.size w1.heap.size (.slice D1 m.z1.length E1) m.z1 := by rw [hV]; exact p1.setCell (.inl (by simp; omega)) _
  replace p2 : Own 2 V4 V.heap.size w2.heap.size (.slice D2 m.z2.length E2) m.z2 := by rw [hV]; exact p2.setCell (.inl (by simp; omega)) _
  replace p3 : Own 2 V4 V2.heap.size w3.heap.size (.slice D3 m.z3.length E3) m.z3 := by rw [hV]; exact p3.setCell (.inl (by simp; omega)) _
  replace d1 : Bx V4 (w.heap.size + 1) 28 #[.int .i64 0, .slice none 0 0, .int .i64 0, .slice none 0 0, .int .i64 0, .slice none 0 0, .int .i64 0] := by rw [hV]; exact d1.far (by simp) _
  replace d2 : Bx V4 (w.heap.size + 1 + 1) 28 #[.int .i64 m.b1, .slice D1 m.z1.length E1, .int .i64 m.b2, .slice D2 m.z2.length E2, .int .i64 m.b3, .slice D3 m.z3.length E3, .int .i64 m.p] := by rw [hV]; exact d2.set_ 6 _
  replace hbV : Below w.heap.size w V4 := by rw [hV]; exact (by repeat (first | with_reducible exact hbV | with_reducible refine Below.setCell ?_ (by first | omega | (simp <;> omega)) _ | with_reducible refine Below.alloc ?_ (by first | omega | (simp <;> omega)) _ | with_reducible refine Below.drew ?_))
  have hzV4 : V4.heap.size = V3.heap.size := by rw [hV]; simp
  clear hV e0 g0 g0f
  have k0 := d2.at_ 0 rfl
  have k1 := d2.at_ 1 rfl
  have k2 := d2.at_ 2 rfl
  have k3 := d2.at_ 3 rfl
  have k4 := d2.at_ 4 rfl
  have k5 := d2.at_ 5 rfl
  have k6 := d2.at_ 6 rfl
  have j0 := d1.at_ 0 rfl
  have j1 := d1.at_ 1 rfl
  have j2 := d1.at_ 2 rfl
  have j3 := d1.at_ 3 rfl
  have j4 := d1.at_ 4 rfl
  have j5 := d1.at_ 5 rfl
  have j6 := d1.at_ 6 rfl
  have f0 := d1.thaw 0
  have f1 := d1.thaw 1
  have f2 := d1.thaw 2
  have f3 := d1.thaw 3
  have f4 := d1.thaw 4
  have f5 := d1.thaw 5
  have f6 := d1.thaw 6
  have hl := d1.lt
  have z0 : u.heap.size ≤ w1.heap.size := by omega
  have q0 : w.heap.size + 1 < u.heap.size := by omega
  have q1 : w.heap.size + 1 < V.heap.size := by omega
  have q2 : w.heap.size + 1 < V2.heap.size := by omega
  have HQ := Lib.hid (show w.heap.size ≤ u.heap.size ∧ w.heap.size ≤ V.heap.size ∧ w.heap.size ≤ V2.heap.size ∧ w1.heap.size ≤ V4.heap.size ∧ w2.heap.size ≤ V4.heap.size ∧ w3.heap.size ≤ V4.heap.size ∧ w1.heap.size ≤ V.heap.size ∧ V.heap.size ≤ w2.heap.size ∧ w2.heap.size ≤ V2.heap.size by omega)
  clear hz hzV hzV2 hzV3 hzV4 hs1 hs2 hs3 z0
  have bz : Bx (((((((V4.setCell ⟨w.heap.size + 1, 0, none⟩ (.int .i64 m.b1)).setCell ⟨w.heap.size + 1, 1, none⟩ (.slice D1 m.z1.length E1)).setCell ⟨w.heap.size + 1, 2, none⟩ (.int .i64 m.b2)).setCell ⟨w.heap.size + 1, 3, none⟩ (.slice D2 m.z2.length E2)).setCell ⟨w.heap.size + 1, 4, none⟩ (.int .i64 m.b3)).setCell ⟨w.heap.size + 1, 5, none⟩ (.slice D3 m.z3.length E3)).setCell ⟨w.heap.size + 1, 6, none⟩ (.int .i64 m.p)) (w.heap.size + 1) 28 #[.int .i64 m.b1, .slice D1 m.z1.length E1, .int .i64 m.b2, .slice D2 m.z2.length E2, .int .i64 m.b3, .slice D3 m.z3.length E3, .int .i64 m.p] := bx_put7 d1
  have r0 := bz.at_ 0 rfl
  have r1 := bz.at_ 1 rfl
  have r2 := bz.at_ 2 rfl
  have r3 := bz.at_ 3 rfl
  have r4 := bz.at_ 4 rfl
  have r5 := bz.at_ 5 rfl
  have r6 := bz.at_ 6 rfl
  clear bz
  go_wp2
  exact bodyPost_ret (v := .agg #[.int .i64 m.b1, .slice D1 m.z1.length E1, .int .i64 m.b2, .slice D2 m.z2.length E2, .int .i64 m.b3, .slice D3 m.z3.length E3, .int .i64 m.p]) (by simp [results, Tryd.results64, go_sem, r0, r1, r2, r3, r4, r5, r6]) rfl
    ⟨D1, E1, D2, E2, D3, E3, rfl, ⟨u.heap.size, w1.heap.size, V.heap.size, w2.heap.size, V2.heap.size, w3.heap.size, (((((((p1.setCell (p := ⟨w.heap.size + 1, 0, none⟩) (.inl (by assumption)) _).setCell (p := ⟨w.heap.size + 1, 1, none⟩) (.inl (by assumption)) _).setCell (p := ⟨w.heap.size + 1, 2, none⟩) (.inl (by assumption)) _).setCell (p := ⟨w.heap.size + 1, 3, none⟩) (.inl (by assumption)) _).setCell (p := ⟨w.heap.size + 1, 4, none⟩) (.inl (by assumption)) _).setCell (p := ⟨w.heap.size + 1, 5, none⟩) (.inl (by assumption)) _).setCell (p := ⟨w.heap.size + 1, 6, none⟩) (.inl (by assumption)) _), (((((((p2.setCell (p := ⟨w.heap.size + 1, 0, none⟩) (.inl (by assumption)) _).setCell (p := ⟨w.heap.size + 1, 1, none⟩) (.inl (by assumption)) _).setCell (p := ⟨w.heap.size + 1, 2, none⟩) (.inl (by assumption)) _).setCell (p := ⟨w.heap.size + 1, 3, none⟩) (.inl (by assumption)) _).setCell (p := ⟨w.heap.size + 1, 4, none⟩) (.inl (by assumption)) _).setCell (p := ⟨w.heap.size + 1, 5, none⟩) (.inl (by assumption)) _).setCell (p := ⟨w.heap.size + 1, 6, none⟩) (.inl (by assumption)) _), (((((((p3.setCell (p := ⟨w.heap.size + 1, 0, none⟩) (.inl (by assumption)) _).setCell (p := ⟨w.heap.size + 1, 1, none⟩) (.inl (by assumption)) _).setCell (p := ⟨w.heap.size + 1, 2, none⟩) (.inl (by assumption)) _).setCell (p := ⟨w.heap.size + 1, 3, none⟩) (.inl (by assumption)) _).setCell (p := ⟨w.heap.size + 1, 4, none⟩) (.inl (by assumption)) _).setCell (p := ⟨w.heap.size + 1, 5, none⟩) (.inl (by assumption)) _).setCell (p := ⟨w.heap.size + 1, 6, none⟩) (.inl (by assumption)) _), by have := HQ.out; simp; omega⟩, (by repeat (first | with_reducible exact hbV | with_reducible refine Below.setCell ?_ (by first | omega | (simp <;> omega)) _ | with_reducible refine Below.alloc ?_ (by first | omega | (simp <;> omega)) _ | with_reducible refine Below.drew ?_))⟩

set_option maxHeartbeats 1000000 in
theorem szMachine_any (b1 : Int) (a1 : Option Addr) (n1 c1 : Nat) (b2 : Int) (a2 : Option Addr) (n2 c2 : Nat) (b3 : Int) (a3 : Option Addr) (n3 c3 : Nat) (p left : Int) (w : World) (hn : n1 ≤ 9223372036854775807 ∧ n2 ≤ 9223372036854775807 ∧ n3 ≤ 9223372036854775807) (hl : 0 ≤ left) (hl' : left ≤ 1048576) :
    Calls Tryd.prog 63 #[.agg #[.int .i64 b1, .slice a1 n1 c1, .int .i64 b2, .slice a2 n2 c2, .int .i64 b3, .slice a3 n3 c3, .int .i64 p], .int .i64 left] w fun e w' => e = .returned (.int .i64 (leftOf (n1 + n2 + n3) left)) ∧ Below w.heap.size w w' := by
  obtain ⟨u, hu⟩ : ∃ u, u = w.alloc (.cells #[.int .i64 b1, .slice a1 n1 c1, .int .i64 b2, .slice a2 n2 c2, .int .i64 b3, .slice a3 n3 c3, .int .i64 p] 72) := ⟨_, rfl⟩
  have bx : Bx u w.heap.size 72 #[.int .i64 b1, .slice a1 n1 c1, .int .i64 b2, .slice a2 n2 c2, .int .i64 b3, .slice a3 n3 c3, .int .i64 p] := by rw [hu]; exact Bx.new _ _ _
  have hbel : Below w.heap.size w u := by rw [hu]; exact (by repeat (first | exact Below.refl _ _ | refine Below.setCell ?_ (by first | omega | (simp <;> omega)) _ | refine Below.alloc ?_ (by first | omega | (simp <;> omega)) _ | refine Below.drew ?_))
  have HU := Lib.hid hu
  clear hu
  rcases Int.lt_or_le (left - (n1 : Int)) 0 with h | h
  · have HN := Lib.hid (szRegister_any b1 a1 n1 c1 left u hn.1 hl hl')
    rw [show leftOf n1 left = -1 by rw [leftOf, if_pos h]] at HN
    have HE := Lib.hid (show leftOf (n1 + n2 + n3) left = -1 by rw [leftOf, if_pos (by omega)])
    go_enter Tryd.func63, Tryd.ntmps63
    go_wp2_with fail
    rw [← HU.out]
    refine HN.out.mono ?_
    rintro e w1 ⟨rfl, hb⟩
    go_wp2
    go_ret
    exact ⟨ret_int HE.out.symm, hbel.trans (hb.mono hbel.size)⟩
  · have HN := Lib.hid (szRegister_any b1 a1 n1 c1 left u hn.1 hl hl')
    rw [show leftOf n1 left = left - n1 by rw [leftOf, if_neg (by omega)]] at HN
    rcases Int.lt_or_le (left - (n1 : Int) - (n2 : Int)) 0 with h2 | h2
    · have HM := Lib.hid (fun v => szRegister_any b2 a2 n2 c2 (left - n1) v hn.2.1 h (by omega))
      rw [show leftOf n2 (left - n1) = -1 by rw [leftOf, if_pos h2]] at HM
      have HE := Lib.hid (show leftOf (n1 + n2 + n3) left = -1 by rw [leftOf, if_pos (by omega)])
      go_enter Tryd.func63, Tryd.ntmps63
      go_wp2_with fail
      rw [← HU.out]
      refine HN.out.mono ?_
      rintro e w1 ⟨rfl, hb⟩
      replace bx := bx.below hb
      replace hbel := hbel.trans (hb.mono hbel.size)
      clear hb
      have c2 := bx.at_ 2 rfl
      have c3 := bx.at_ 3 rfl
      go_wp2_with fail
      refine (HM.out w1).mono ?_
      rintro e w2 ⟨rfl, hb⟩
      go_wp2
      go_ret
      exact ⟨ret_int HE.out.symm, hbel.trans (hb.mono hbel.size)⟩
    · have HM := Lib.hid (fun v => szRegister_any b2 a2 n2 c2 (left - n1) v hn.2.1 h (by omega))
      rw [show leftOf n2 (left - n1) = left - n1 - n2 by rw [leftOf, if_neg (by omega)]] at HM
      have HK := Lib.hid (fun v => szRegister_any b3 a3 n3 c3 (left - n1 - n2) v hn.2.2 h2 (by omega))
      have HE := Lib.hid (show leftOf n3 (left - n1 - n2) = leftOf (n1 + n2 + n3) left by unfold leftOf; split <;> split <;> omega)
      rw [HE.out] at HK
      rcases Int.lt_or_le (leftOf (n1 + n2 + n3) left) 0 with h3 | h3
      all_goals
        have HF := Lib.hid (show leftOf (n1 + n2 + n3) left < 0 → leftOf (n1 + n2 + n3) left = -1 by unfold leftOf; split <;> omega)
        go_enter Tryd.func63, Tryd.ntmps63
        go_wp2_with fail
        rw [← HU.out]
        refine HN.out.mono ?_
        rintro e w1 ⟨rfl, hb⟩
        replace bx := bx.below hb
        replace hbel := hbel.trans (hb.mono hbel.size)
        clear hb
        have c2 := bx.at_ 2 rfl
        have c3 := bx.at_ 3 rfl
        go_wp2_with fail
        refine (HM.out w1).mono ?_
        rintro e w2 ⟨rfl, hb⟩
        replace bx := bx.below hb
        replace hbel := hbel.trans (hb.mono hbel.size)
        clear hb c2 c3
        have c4 := bx.at_ 4 rfl
        have c5 := bx.at_ 5 rfl
        go_wp2_with fail
        refine (HK.out w2).mono ?_
        rintro e w3 ⟨rfl, hb⟩
        go_wp2
        go_ret
        exact ⟨ret_int (by first | exact rfl | exact (HF.out h3).symm), hbel.trans (hb.mono hbel.size)⟩

set_option maxHeartbeats 2000000 in
theorem eqMachine_any (m n : Mac) (A1 : Option Addr) (C1 : Nat) (A2 : Option Addr) (C2 : Nat) (A3 : Option Addr) (C3 : Nat) (D1 : Option Addr) (E1 : Nat) (D2 : Option Addr) (E2 : Nat) (D3 : Option Addr) (E3 : Nat) (w : World) (h : Rd3 w A1 m.z1 A2 m.z2 A3 m.z3) (k : Rd3 w D1 n.z1 D2 n.z2 D3 n.z3) :
    Calls Tryd.prog 60 #[.agg #[.int .i64 m.b1, .slice A1 m.z1.length C1, .int .i64 m.b2, .slice A2 m.z2.length C2, .int .i64 m.b3, .slice A3 m.z3.length C3, .int .i64 m.p], .agg #[.int .i64 n.b1, .slice D1 n.z1.length E1, .int .i64 n.b2, .slice D2 n.z2.length E2, .int .i64 n.b3, .slice D3 n.z3.length E3, .int .i64 n.p]] w fun e w' => e = .returned (.bool (macEqB m n)) ∧ Below w.heap.size w w' := by
  obtain ⟨u, hu⟩ : ∃ u, u = (w.alloc (.cells #[.int .i64 m.b1, .slice A1 m.z1.length C1, .int .i64 m.b2, .slice A2 m.z2.length C2, .int .i64 m.b3, .slice A3 m.z3.length C3, .int .i64 m.p] 28)).alloc (.cells #[.int .i64 n.b1, .slice D1 n.z1.length E1, .int .i64 n.b2, .slice D2 n.z2.length E2, .int .i64 n.b3, .slice D3 n.z3.length E3, .int .i64 n.p] 28) := ⟨_, rfl⟩
  have bx : Bx u w.heap.size 28 #[.int .i64 m.b1, .slice A1 m.z1.length C1, .int .i64 m.b2, .slice A2 m.z2.length C2, .int .i64 m.b3, .slice A3 m.z3.length C3, .int .i64 m.p] := by rw [hu]; exact (Bx.new _ _ _).alloc _
  have by_ : Bx u (w.heap.size + 1) 28 #[.int .i64 n.b1, .slice D1 n.z1.length E1, .int .i64 n.b2, .slice D2 n.z2.length E2, .int .i64 n.b3, .slice D3 n.z3.length E3, .int .i64 n.p] := by rw [hu]; simpa using Bx.new (w.alloc (.cells #[.int .i64 m.b1, .slice A1 m.z1.length C1, .int .i64 m.b2, .slice A2 m.z2.length C2, .int .i64 m.b3, .slice A3 m.z3.length C3, .int .i64 m.p] 28)) #[.int .i64 n.b1, .slice D1 n.z1.length E1, .int .i64 n.b2, .slice D2 n.z2.length E2, .int .i64 n.b3, .slice D3 n.z3.length E3, .int .i64 n.p] 28
  have hbel : Below w.heap.size w u := by rw [hu]; exact (by repeat (first | exact Below.refl _ _ | refine Below.setCell ?_ (by first | omega | (simp <;> omega)) _ | refine Below.alloc ?_ (by first | omega | (simp <;> omega)) _ | refine Below.drew ?_))
  replace h := h.below hbel
  replace k := k.below hbel
  have H1 := Lib.hid (eqRegister_any m.b1 n.b1 A1 D1 C1 E1 m.z1 n.z1 u h.x k.x)
  have H2 := Lib.hid (fun (v : World) (hb : Below u.heap.size u v) => eqRegister_any m.b2 n.b2 A2 D2 C2 E2 m.z2 n.z2 v (h.y.below hb) (k.y.below hb))
  have H3 := Lib.hid (fun (v : World) (hb : Below u.heap.size u v) => eqRegister_any m.b3 n.b3 A3 D3 C3 E3 m.z3 n.z3 v (h.z.below hb) (k.z.below hb))
  have HE := Lib.hid (show macEqB m n = (regEqB m.b1 n.b1 m.z1 n.z1 && (regEqB m.b2 n.b2 m.z2 n.z2 && (regEqB m.b3 n.b3 m.z3 n.z3 && decide (m.p = n.p)))) from rfl)
  have HU := Lib.hid hu
  clear hu h k
  cases q1 : regEqB m.b1 n.b1 m.z1 n.z1 with
  | false =>
    rw [q1] at H1 HE
    go_enter Tryd.func60, Tryd.ntmps60
    go_wp2_with fail
    rw [← HU.out]
    refine H1.out.mono ?_
    rintro e w1 ⟨rfl, hb⟩
    go_wp2
    go_ret
    exact ⟨ret_bool (by rw [HE.out]; rfl), hbel.trans (hb.mono hbel.size)⟩
  | true =>
    rw [q1] at H1 HE
    cases q2 : regEqB m.b2 n.b2 m.z2 n.z2 with
    | false =>
      rw [q2] at H2 HE
      go_enter Tryd.func60, Tryd.ntmps60
      go_wp2_with fail
      rw [← HU.out]
      refine H1.out.mono ?_
      rintro e w1 ⟨rfl, hb⟩
      have c0 := (bx.below hb).at_ 2 rfl
      have c1 := (bx.below hb).at_ 3 rfl
      have d0 := (by_.below hb).at_ 2 rfl
      have d1 := (by_.below hb).at_ 3 rfl
      go_wp2_with fail
      refine (H2.out w1 hb).mono ?_
      rintro e w2 ⟨rfl, hb2⟩
      go_wp2
      go_ret
      exact ⟨ret_bool (by rw [HE.out]; rfl), hbel.trans ((hb.trans (hb2.mono hb.size)).mono hbel.size)⟩
    | true =>
      rw [q2] at H2 HE
      cases q3 : regEqB m.b3 n.b3 m.z3 n.z3 with
      | false =>
        rw [q3] at H3 HE
        go_enter Tryd.func60, Tryd.ntmps60
        go_wp2_with fail
        rw [← HU.out]
        refine H1.out.mono ?_
        rintro e w1 ⟨rfl, hb⟩
        have c0 := (bx.below hb).at_ 2 rfl
        have c1 := (bx.below hb).at_ 3 rfl
        have d0 := (by_.below hb).at_ 2 rfl
        have d1 := (by_.below hb).at_ 3 rfl
        go_wp2_with fail
        refine (H2.out w1 hb).mono ?_
        rintro e w2 ⟨rfl, hb2⟩
        replace hb := hb.trans (hb2.mono hb.size)
        clear hb2 c0 c1 d0 d1
        have c0 := (bx.below hb).at_ 4 rfl
        have c1 := (bx.below hb).at_ 5 rfl
        have d0 := (by_.below hb).at_ 4 rfl
        have d1 := (by_.below hb).at_ 5 rfl
        go_wp2_with fail
        refine (H3.out w2 hb).mono ?_
        rintro e w3 ⟨rfl, hb2⟩
        go_wp2
        go_ret
        exact ⟨ret_bool (by rw [HE.out]; rfl), hbel.trans ((hb.trans (hb2.mono hb.size)).mono hbel.size)⟩
      | true =>
        rw [q3] at H3 HE
        cases q4 : decide (m.p = n.p)
        all_goals
          have hbe : (m.p != n.p) = !(decide (m.p = n.p)) := rfl
          rw [q4] at HE hbe
          simp only [Bool.not_true, Bool.not_false] at hbe
          clear q1 q2 q3 q4
          go_enter Tryd.func60, Tryd.ntmps60
          go_wp2_with fail
          rw [← HU.out]
          refine H1.out.mono ?_
          rintro e w1 ⟨rfl, hb⟩
          have c0 := (bx.below hb).at_ 2 rfl
          have c1 := (bx.below hb).at_ 3 rfl
          have d0 := (by_.below hb).at_ 2 rfl
          have d1 := (by_.below hb).at_ 3 rfl
          go_wp2_with fail
          refine (H2.out w1 hb).mono ?_
          rintro e w2 ⟨rfl, hb2⟩
          replace hb := hb.trans (hb2.mono hb.size)
          clear hb2 c0 c1 d0 d1
          have c0 := (bx.below hb).at_ 4 rfl
          have c1 := (bx.below hb).at_ 5 rfl
          have d0 := (by_.below hb).at_ 4 rfl
          have d1 := (by_.below hb).at_ 5 rfl
          go_wp2_with fail
          refine (H3.out w2 hb).mono ?_
          rintro e w3 ⟨rfl, hb2⟩
          replace hb := hb.trans (hb2.mono hb.size)
          clear hb2 c0 c1 d0 d1
          have c0 := (bx.below hb).at_ 6 rfl
          have d0 := (by_.below hb).at_ 6 rfl
          go_wp2
          go_ret
          exact ⟨ret_bool (by rw [HE.out]; rfl), hbel.trans (hb.mono hbel.size)⟩

set_option maxHeartbeats 1000000 in
theorem markMachine_any (t : TypeId) (lo hi : Nat) (m : Mac) (A1 : Option Addr) (C1 : Nat) (A2 : Option Addr) (C2 : Nat) (A3 : Option Addr) (C3 : Nat) (k : Int) (w : World) (ho : Own3 t w lo hi (.slice A1 m.z1.length C1) m.z1 (.slice A2 m.z2.length C2) m.z2 (.slice A3 m.z3.length C3) m.z3) (h0 : 0 ≤ k) (h1 : k ≤ 900000000000) :
    Calls Tryd.prog 61 #[.agg #[.int .i64 m.b1, .slice A1 m.z1.length C1, .int .i64 m.b2, .slice A2 m.z2.length C2, .int .i64 m.b3, .slice A3 m.z3.length C3, .int .i64 m.p], .int .i64 k] w fun e w' => e = .returned (.int .i64 (k + ((m.z1.length : Int) + (m.z2.length : Int) + (m.z3.length : Int)))) ∧
      Own3 t w' lo hi (.slice A1 m.z1.length C1) (seqI k m.z1.length) (.slice A2 m.z2.length C2) (seqI (k + m.z1.length) m.z2.length) (.slice A3 m.z3.length C3) (seqI (k + m.z1.length + m.z2.length) m.z3.length) ∧ Touch lo hi w w' := by
  obtain ⟨l1, u1, l2, u2, l3, u3, o1, o2, o3, s1, s2, s3, s4, s5, s6, s7, s8, s9⟩ := ho.ex
  replace o1 := o1.tight
  replace o2 := o2.tight
  replace o3 := o3.tight
  obtain ⟨v1, hv1⟩ : ∃ v, v = min u1 w.heap.size := ⟨_, rfl⟩
  obtain ⟨v2, hv2⟩ : ∃ v, v = min u2 w.heap.size := ⟨_, rfl⟩
  obtain ⟨v3, hv3⟩ : ∃ v, v = min u3 w.heap.size := ⟨_, rfl⟩
  rw [← hv1] at o1
  rw [← hv2] at o2
  rw [← hv3] at o3
  have s2' : v1 ≤ hi := by omega
  have s4' : v2 ≤ hi := by omega
  have s6' : v3 ≤ hi := by omega
  have s7' : v1 ≤ l2 ∨ v2 ≤ l1 := by omega
  have s8' : v1 ≤ l3 ∨ v3 ≤ l1 := by omega
  have s9' : v2 ≤ l3 ∨ v3 ≤ l2 := by omega
  have t1 : v1 ≤ w.heap.size := by omega
  have t2 : v2 ≤ w.heap.size := by omega
  have e1 := o1.len
  have e2 := o2.len
  have e3 := o3.len
  clear hv1 hv2 hv3 s2 s4 s6 s7 s8 s9 ho
  obtain ⟨u, hu⟩ : ∃ u, u = w.alloc (.cells #[.int .i64 m.b1, .slice A1 m.z1.length C1, .int .i64 m.b2, .slice A2 m.z2.length C2, .int .i64 m.b3, .slice A3 m.z3.length C3, .int .i64 m.p] 28) := ⟨_, rfl⟩
  have bx : Bx u w.heap.size 28 #[.int .i64 m.b1, .slice A1 m.z1.length C1, .int .i64 m.b2, .slice A2 m.z2.length C2, .int .i64 m.b3, .slice A3 m.z3.length C3, .int .i64 m.p] := by rw [hu]; exact Bx.new _ _ _
  replace o1 : Own t u l1 v1 (.slice A1 m.z1.length C1) m.z1 := by rw [hu]; exact o1.alloc _
  replace o2 : Own t u l2 v2 (.slice A2 m.z2.length C2) m.z2 := by rw [hu]; exact o2.alloc _
  replace o3 : Own t u l3 v3 (.slice A3 m.z3.length C3) m.z3 := by rw [hu]; exact o3.alloc _
  have ht0 : Touch lo hi w u := by rw [hu]; exact (Touch.refl _ _ _).alloc _
  have HU := Lib.hid hu
  clear hu
  go_enter Tryd.func61, Tryd.ntmps61
  go_wp2_with fail
  rw [← HU.out]
  refine (markRegister_any t l1 v1 m.b1 A1 C1 k m.z1 u o1 h0 (by omega)).mono ?_
  rintro e w1 ⟨rfl, p1, ht1⟩
  have ht2 : Touch lo hi w w1 := ht0.trans (ht1.widen s1 s2')
  replace o2 := o2.touch ht1 (by omega)
  replace o3 := o3.touch ht1 (by omega)
  replace bx := bx.touch ht1 (.inr t1)
  have c2 := bx.at_ 2 rfl
  have c3 := bx.at_ 3 rfl
  clear ht0 ht1 o1
  go_wp2_with fail
  refine (markRegister_any t l2 v2 m.b2 A2 C2 (k + (m.z1.length : Int)) m.z2 w1 o2 (by omega) (by omega)).mono ?_
  rintro e w2 ⟨rfl, p2, ht3⟩
  replace p1 := p1.touch ht3 (by omega)
  replace o3 := o3.touch ht3 (by omega)
  replace bx := bx.touch ht3 (.inr t2)
  replace ht2 := ht2.trans (ht3.widen s3 s4')
  clear c2 c3 ht3 o2
  have c4 := bx.at_ 4 rfl
  have c5 := bx.at_ 5 rfl
  go_wp2_with fail
  refine (markRegister_any t l3 v3 m.b3 A3 C3 (k + (m.z1.length : Int) + (m.z2.length : Int)) m.z3 w2 o3 (by omega) (by omega)).mono ?_
  rintro e w3 ⟨rfl, p3, ht3⟩
  replace p1 := p1.touch ht3 (by omega)
  replace p2 := p2.touch ht3 (by omega)
  replace ht2 := ht2.trans (ht3.widen s5 s6')
  go_wp2
  go_ret
  exact ⟨ret_int (by omega), ⟨l1, v1, l2, v2, l3, v3, p1, p2, p3, s1, s2', s3, s4', s5, s6', s7', s8', s9'⟩, ht2⟩

set_option maxHeartbeats 1000000 in
theorem heldMachine_any (m : Mac) (A1 : Option Addr) (C1 : Nat) (A2 : Option Addr) (C2 : Nat) (A3 : Option Addr) (C3 : Nat) (k : Int) (n1 n2 n3 : Nat) (w : World) (ha : Rd3 w A1 (seqI k n1) A2 (seqI (k + n1) n2) A3 (seqI (k + n1 + n2) n3)) (h0 : 0 ≤ k) (h1 : k ≤ 900000000000) :
    Calls Tryd.prog 62 #[.agg #[.int .i64 m.b1, .slice A1 n1 C1, .int .i64 m.b2, .slice A2 n2 C2, .int .i64 m.b3, .slice A3 n3 C3, .int .i64 m.p], .int .i64 k] w fun e w' => e = .returned (.int .i64 (k + ((n1 : Int) + (n2 : Int) + (n3 : Int)))) ∧ Below w.heap.size w w' := by
  have hl := ha.len
  rw [seqI_len, seqI_len, seqI_len] at hl
  obtain ⟨u, hu⟩ : ∃ u, u = w.alloc (.cells #[.int .i64 m.b1, .slice A1 n1 C1, .int .i64 m.b2, .slice A2 n2 C2, .int .i64 m.b3, .slice A3 n3 C3, .int .i64 m.p] 28) := ⟨_, rfl⟩
  have bx : Bx u w.heap.size 28 #[.int .i64 m.b1, .slice A1 n1 C1, .int .i64 m.b2, .slice A2 n2 C2, .int .i64 m.b3, .slice A3 n3 C3, .int .i64 m.p] := by rw [hu]; exact Bx.new _ _ _
  have hbel : Below w.heap.size w u := by rw [hu]; exact (by repeat (first | exact Below.refl _ _ | refine Below.setCell ?_ (by first | omega | (simp <;> omega)) _ | refine Below.alloc ?_ (by first | omega | (simp <;> omega)) _ | refine Below.drew ?_))
  replace ha := ha.below hbel
  have HU := Lib.hid hu
  clear hu
  go_enter Tryd.func62, Tryd.ntmps62
  go_wp2_with fail
  rw [← HU.out]
  refine (heldRegister_any m.b1 A1 C1 k n1 u ha.x h0 (by omega)).mono ?_
  rintro e w1 ⟨rfl, hb⟩
  replace bx := bx.below hb
  replace ha := ha.below hb
  replace hbel := hbel.trans (hb.mono hbel.size)
  clear hb
  have c2 := bx.at_ 2 rfl
  have c3 := bx.at_ 3 rfl
  go_wp2_with fail
  refine (heldRegister_any m.b2 A2 C2 (k + n1) n2 w1 ha.y (by omega) (by omega)).mono ?_
  rintro e w2 ⟨rfl, hb⟩
  replace bx := bx.below hb
  replace ha := ha.below hb
  replace hbel := hbel.trans (hb.mono hbel.size)
  clear hb c2 c3
  have c4 := bx.at_ 4 rfl
  have c5 := bx.at_ 5 rfl
  go_wp2_with fail
  refine (heldRegister_any m.b3 A3 C3 (k + n1 + n2) n3 w2 ha.z (by omega) (by omega)).mono ?_
  rintro e w3 ⟨rfl, hb⟩
  go_wp2
  go_ret
  exact ⟨ret_int (by omega), hbel.trans (hb.mono hbel.size)⟩
end Go.Proofs.YtlahobdopmdfmaaDoor

/- RegO -/
namespace Go.Proofs.YtlahobdopmdfmaaDoor
open Go.RowKit

set_option maxHeartbeats 1000000 in
theorem l02Ok_off (p o : Nat) (b : Int) (a : Option Addr) (c : Nat) (zs : List Int) (w : World) (ha : Rd w a zs) (hp0 : w.cell? ⟨p, o, none⟩ = some (.int .i64 b)) (hp1 : w.cell? ⟨p, o + 1, none⟩ = some (.slice a zs.length c)) :
    Calls Tryd.prog 96 #[.pointer (some ⟨p, o, none⟩)] w fun e w' => e = .returned (.bool (okB b zs)) ∧ ∃ n, w' = w.drewN n := by
  cases hb : baseB b with
  | false =>
    have HO := Lib.hid (show okB b zs = false by simp [okB, hb])
    have HB := Lib.hid (show ∀ n, Calls Tryd.prog 133 #[.int .i64 b] (w.drewN n) fun e w' => e = .returned (.bool false) ∧ w' = w.drewN n from fun n => by rw [← hb]; exact l02Base_any b _)
    clear hb
    go_enter Tryd.func96, Tryd.ntmps96
    go_wp2
    go_quiet ((go_at_call 133; exact Calls.quiet_of_same (HB.out _)))
    go_wp2
    go_ret
    exact ⟨ret_bool (by rw [HO.out]), _, rfl⟩
  | true =>
    obtain ⟨hb1, hb2⟩ := baseB_true hb
    have HB := Lib.hid (show ∀ n, Calls Tryd.prog 133 #[.int .i64 b] (w.drewN n) fun e w' => e = .returned (.bool true) ∧ w' = w.drewN n from fun n => by rw [← hb]; exact l02Base_any b _)
    cases hd : digitsB b zs && widthB zs.length with
    | false =>
      have HO := Lib.hid (show okB b zs = false by simp at hd; simp [okB, hb]; intro h1 h2; rw [hd h2] at h1; cases h1)
      have HD2 := Lib.hid (show ∀ n, Calls Tryd.prog 157 #[.int .i64 b, .slice a zs.length c] (w.drewN n) fun e w' => e = .returned (.bool false) ∧ w' = w.drewN n from fun n => by rw [← hd]; exact l02Digits_any b a c zs _ (ha.drewN _) hb1 hb2)
      clear hb hd
      go_enter Tryd.func96, Tryd.ntmps96
      go_wp2
      go_quiet (first | (go_at_call 133; exact Calls.quiet_of_same (HB.out _)) | (go_at_call 157; exact Calls.quiet_of_same (HD2.out _)))
      go_wp2
      go_ret
      exact ⟨ret_bool (by rw [HO.out]), _, rfl⟩
    | true =>
      have HD : ∀ d ∈ zs, 0 ≤ d ∧ d < b := digitsB_true (by simp at hd; exact hd.1)
      have HO := Lib.hid (show okB b zs = decide (capV b zs ≤ 1000000000000) by simp at hd; simp [okB, hb, hd, capV_le hb1 HD])
      have HE := Lib.hid HD
      have HD2 := Lib.hid (show ∀ n, Calls Tryd.prog 157 #[.int .i64 b, .slice a zs.length c] (w.drewN n) fun e w' => e = .returned (.bool true) ∧ w' = w.drewN n from fun n => by rw [← hd]; exact l02Digits_any b a c zs _ (ha.drewN _) hb1 hb2)
      clear HD hb hd
      cases hv : decide (capV b zs ≤ 1000000000000)
      all_goals
        rw [hv] at HO
        go_enter Tryd.func96, Tryd.ntmps96
        go_wp2
        go_quiet (first | (go_at_call 133; exact Calls.quiet_of_same (HB.out _)) | (go_at_call 157; exact Calls.quiet_of_same (HD2.out _)) | (go_at_call 97; exact Calls.quiet_of_same (l02Value_any _ _ _ _ _ (ha.drewN _) hb1 hb2 HE.out)))
        go_wp2
        go_ret
        exact ⟨ret_bool (by rw [HO.out]), _, rfl⟩

set_option maxHeartbeats 400000 in
theorem l02Same_off (p o q r : Nat) (B D : Int) (a b : Option Addr) (c d : Nat) (xs ys : List Int) (w : World) (ha : Rd w a xs) (hb : Rd w b ys)
    (hp0 : w.cell? ⟨p, o, none⟩ = some (.int .i64 B)) (hp1 : w.cell? ⟨p, o + 1, none⟩ = some (.slice a xs.length c)) (hq0 : w.cell? ⟨q, r, none⟩ = some (.int .i64 D)) (hq1 : w.cell? ⟨q, r + 1, none⟩ = some (.slice b ys.length d)) :
    Calls Tryd.prog 120 #[.pointer (some ⟨p, o, none⟩), .pointer (some ⟨q, r, none⟩)] w fun e w' => e = .returned (.bool (regEqB B D xs ys)) ∧ ∃ n, w' = w.drewN n := by
  by_cases h : B = D
  · have hbe : (B == D) = true := by simp [h]
    have H := Lib.hid h
    clear h
    go_enter Tryd.func120, Tryd.ntmps120
    go_wp2
    go_quiet ((go_at_call 165; exact Calls.quiet_of (l00Same_any _ _ _ _ _ _ _ (ha.drewN _) (hb.drewN _))))
    go_wp2
    go_ret
    exact ⟨ret_bool (by simp [regEqB, H.out]), _, rfl⟩
  · have hbe : (B == D) = false := by simp [h]
    have H := Lib.hid h
    clear h
    go_enter Tryd.func120, Tryd.ntmps120
    go_wp2
    go_quiet (fail)
    go_wp2
    go_ret
    exact ⟨ret_bool (by simp [regEqB, H.out]), _, rfl⟩


theorem l02Ok_atO {v : Bool} (p o : Nat) (b : Int) (a : Option Addr) (c : Nat) (zs : List Int) (w : World) (hv : okB b zs = v) (ha : Rd w a zs) (hp0 : w.cell? ⟨p, o, none⟩ = some (.int .i64 b)) (hp1 : w.cell? ⟨p, o + 1, none⟩ = some (.slice a zs.length c)) :
    Calls Tryd.prog 96 #[.pointer (some ⟨p, o, none⟩)] w fun e w' => e = .returned (.bool v) ∧ Below w.heap.size w w' := by
  subst hv
  exact (l02Ok_off p o b a c zs w ha hp0 hp1).mono fun e w' ⟨h1, m, h2⟩ => ⟨h1, by rw [h2]; exact bel_drewN (Below.refl _ _) m⟩
theorem l02Same_atO {v : Bool} (p o q r : Nat) (B D : Int) (a b : Option Addr) (c d : Nat) (xs ys : List Int) (w : World) (hv : regEqB B D xs ys = v) (ha : Rd w a xs) (hb : Rd w b ys)
    (hp0 : w.cell? ⟨p, o, none⟩ = some (.int .i64 B)) (hp1 : w.cell? ⟨p, o + 1, none⟩ = some (.slice a xs.length c)) (hq0 : w.cell? ⟨q, r, none⟩ = some (.int .i64 D)) (hq1 : w.cell? ⟨q, r + 1, none⟩ = some (.slice b ys.length d)) :
    Calls Tryd.prog 120 #[.pointer (some ⟨p, o, none⟩), .pointer (some ⟨q, r, none⟩)] w fun e w' => e = .returned (.bool v) ∧ Below w.heap.size w w' := by
  subst hv
  exact (l02Same_off p o q r B D a b c d xs ys w ha hb hp0 hp1 hq0 hq1).mono fun e w' ⟨h1, m, h2⟩ => ⟨h1, by rw [h2]; exact bel_drewN (Below.refl _ _) m⟩
end Go.Proofs.YtlahobdopmdfmaaDoor

/- FrameM -/
namespace Go.Proofs.YtlahobdopmdfmaaDoor
open Go.ChangeShapes Go.WideShapes Go.ChangeAt Go.RowKit Go.Joins

theorem array7 {α : Type} {cs : Array α} (h : cs.size = 7) : ∃ c0 c1 c2 c3 c4 c5 c6, cs = #[c0, c1, c2, c3, c4, c5, c6] := by
  obtain ⟨l⟩ := cs
  match l, h with
  | [c0, c1, c2, c3, c4, c5, c6], _ => exact ⟨c0, c1, c2, c3, c4, c5, c6, rfl⟩

section
variable {H : Type} {enc : TypeId × Value → H} {W : World} {base : Nat} {v : Value} {d : DataW H} {p : List MemPlace}

set_option maxRecDepth 100000 in
theorem reg_of_trod {fuel : Nat} {c0 c1 : Value} {y : DataW H × List MemPlace} (h : DataW.trod enc Tryd.prog W 0 (fun _ => true) true fuel 70 [c0, c1] = some y) :
    ∃ B A C Z, c0 = .int .i64 B ∧ c1 = .slice A (List.length Z) C ∧ Raw W A Z ∧ I64 B := by
  obtain ⟨y0, y1, n, _, _, h0, h1⟩ := trod_struct2 Tryd.underlying70 h
  rw [cells_int64] at h0
  rw [show Tryd.prog.cellsOf 24 = 1 by kernel_rfl] at h1
  obtain ⟨B, e0, rfl, wB⟩ := DataW.trod_int Tryd.underlying2 h0
  obtain ⟨A, C, Z, e1, hr⟩ := raw_of_trod (v := c1) (by simpa using h1)
  simp at e0
  exact ⟨B, A, C, Z, e0, e1, hr, wB⟩

set_option maxRecDepth 100000 in
theorem open_Machine (hval : Value.okWide Tryd.prog W .any base 72 v) (h : DataW.Trod enc Tryd.prog W 0 (fun _ => true) true 72 v d p) :
    ∃ (m : Mac) (A1 : Option Addr) (C1 : Nat) (A2 : Option Addr) (C2 : Nat) (A3 : Option Addr) (C3 : Nat), v = .agg #[.int .i64 m.b1, .slice A1 m.z1.length C1, .int .i64 m.b2, .slice A2 m.z2.length C2, .int .i64 m.b3, .slice A3 m.z3.length C3, .int .i64 m.p] ∧ Raw3 W A1 m.z1 A2 m.z2 A3 m.z3 ∧ (I64 m.b1 ∧ I64 m.b2 ∧ I64 m.b3 ∧ I64 m.p) := by
  obtain ⟨cs, rfl, hsz⟩ := okWide_struct Tryd.underlying72 hval
  obtain ⟨c0, c1, c2, c3, c4, c5, c6, rfl⟩ := array7 (hsz.trans (by kernel_rfl))
  obtain ⟨fuel, hf⟩ := h
  obtain ⟨y0, y1, y2, y3, n, _, _, h0, h1, h2, h3⟩ := trod_struct4 Tryd.underlying72 hf
  rw [cells_Register] at h0 h1 h2
  rw [cells_int64] at h3
  obtain ⟨B1, A1, C1, Z1, rfl, rfl, r1, w1⟩ := reg_of_trod (c0 := c0) (c1 := c1) (by simpa [Value.cells] using h0)
  obtain ⟨B2, A2, C2, Z2, rfl, rfl, r2, w2⟩ := reg_of_trod (c0 := c2) (c1 := c3) (by simpa [Value.cells] using h1)
  obtain ⟨B3, A3, C3, Z3, rfl, rfl, r3, w3⟩ := reg_of_trod (c0 := c4) (c1 := c5) (by simpa [Value.cells] using h2)
  obtain ⟨P, e0, _, wP⟩ := DataW.trod_int Tryd.underlying2 h3
  simp [Value.cells] at e0
  subst e0
  exact ⟨⟨B1, Z1, B2, Z2, B3, Z3, P⟩, A1, C1, A2, C2, A3, C3, rfl, ⟨r1, r2, r3⟩, w1, w2, w3, wP⟩
end
end Go.Proofs.YtlahobdopmdfmaaDoor

/- BoxMac -/
namespace Go.Proofs.YtlahobdopmdfmaaDoor
open Go.RowKit

/-- s leads to a box that holds the machine; what it owns lies elsewhere. -/
def BoxMac (W : World) (m : Mac) (s : Value) (wx : World) : Prop := ∃ (g : Nat) (A1 : Option Addr) (C1 : Nat) (A2 : Option Addr) (C2 : Nat) (A3 : Option Addr) (C3 : Nat) (lo hi : Nat), s = .pointer (some ⟨g, 0, none⟩) ∧
  wx.cell? ⟨g, 0, none⟩ = some (.int .i64 m.b1) ∧ wx.cell? ⟨g, 1, none⟩ = some (.slice A1 m.z1.length C1) ∧ wx.cell? ⟨g, 2, none⟩ = some (.int .i64 m.b2) ∧ wx.cell? ⟨g, 3, none⟩ = some (.slice A2 m.z2.length C2) ∧ wx.cell? ⟨g, 4, none⟩ = some (.int .i64 m.b3) ∧ wx.cell? ⟨g, 5, none⟩ = some (.slice A3 m.z3.length C3) ∧ wx.cell? ⟨g, 6, none⟩ = some (.int .i64 m.p) ∧ Own3 2 wx lo hi (.slice A1 m.z1.length C1) m.z1 (.slice A2 m.z2.length C2) m.z2 (.slice A3 m.z3.length C3) m.z3 ∧
  Hid (g < lo ∨ hi ≤ g) ∧ Hid (W.heap.size ≤ lo) ∧ Hid (W.heap.size ≤ g) ∧ Hid (g < wx.heap.size) ∧ Hid (hi ≤ wx.heap.size) ∧ Below W.heap.size W wx
theorem boxMac_after {W u v : World} {m : Mac} {A1 : Option Addr} {C1 : Nat} {A2 : Option Addr} {C2 : Nat} {A3 : Option Addr} {C3 : Nat} {t : TypeId} (hk : Below W.heap.size W u) (hb : Below u.heap.size u v) (ow : Own3 2 v u.heap.size v.heap.size (.slice A1 m.z1.length C1) m.z1 (.slice A2 m.z2.length C2) m.z2 (.slice A3 m.z3.length C3) m.z3) :
    BoxMac W m (.pointer (some ⟨v.heap.size, 0, none⟩)) (v.alloc (.cells #[.int .i64 m.b1, .slice A1 m.z1.length C1, .int .i64 m.b2, .slice A2 m.z2.length C2, .int .i64 m.b3, .slice A3 m.z3.length C3, .int .i64 m.p] t)) := by
  have h1 := hk.size
  have h2 := hb.size
  have bx := Bx.new v #[.int .i64 m.b1, .slice A1 m.z1.length C1, .int .i64 m.b2, .slice A2 m.z2.length C2, .int .i64 m.b3, .slice A3 m.z3.length C3, .int .i64 m.p] t
  exact ⟨_, A1, C1, A2, C2, A3, C3, _, _, rfl, bx.at_ 0 rfl, bx.at_ 1 rfl, bx.at_ 2 rfl, bx.at_ 3 rfl, bx.at_ 4 rfl, bx.at_ 5 rfl, bx.at_ 6 rfl, ow.alloc _, Lib.hid (.inr (Nat.le_refl _)), Lib.hid h1, Lib.hid (by omega), Lib.hid (by simp), Lib.hid (by simp), (hk.trans (hb.mono h1)).alloc (by omega) _⟩
theorem boxMac_before {W u v : World} {m : Mac} {A1 : Option Addr} {C1 : Nat} {A2 : Option Addr} {C2 : Nat} {A3 : Option Addr} {C3 : Nat} {g : Nat} {t : TypeId} {c0 c1 c2 c3 c4 c5 c6 : Value} (hk : Below W.heap.size W u) (hb : Below u.heap.size u v)
    (ow : Own3 2 v u.heap.size v.heap.size (.slice A1 m.z1.length C1) m.z1 (.slice A2 m.z2.length C2) m.z2 (.slice A3 m.z3.length C3) m.z3) (bz : Bx v g t #[c0, c1, c2, c3, c4, c5, c6]) (h1 : Hid (W.heap.size ≤ g)) (h2 : Hid (g < u.heap.size)) :
    BoxMac W m (.pointer (some ⟨g, 0, none⟩)) (((((((v.setCell ⟨g, 0, none⟩ (.int .i64 m.b1)).setCell ⟨g, 1, none⟩ (.slice A1 m.z1.length C1)).setCell ⟨g, 2, none⟩ (.int .i64 m.b2)).setCell ⟨g, 3, none⟩ (.slice A2 m.z2.length C2)).setCell ⟨g, 4, none⟩ (.int .i64 m.b3)).setCell ⟨g, 5, none⟩ (.slice A3 m.z3.length C3)).setCell ⟨g, 6, none⟩ (.int .i64 m.p)) := by
  have h3 := hk.size
  have h4 := hb.size
  have h5 := h1.out
  have h6 := h2.out
  have bx : Bx (((((((v.setCell ⟨g, 0, none⟩ (.int .i64 m.b1)).setCell ⟨g, 1, none⟩ (.slice A1 m.z1.length C1)).setCell ⟨g, 2, none⟩ (.int .i64 m.b2)).setCell ⟨g, 3, none⟩ (.slice A2 m.z2.length C2)).setCell ⟨g, 4, none⟩ (.int .i64 m.b3)).setCell ⟨g, 5, none⟩ (.slice A3 m.z3.length C3)).setCell ⟨g, 6, none⟩ (.int .i64 m.p)) g t #[.int .i64 m.b1, .slice A1 m.z1.length C1, .int .i64 m.b2, .slice A2 m.z2.length C2, .int .i64 m.b3, .slice A3 m.z3.length C3, .int .i64 m.p] := bx_put7 bz
  refine ⟨_, A1, C1, A2, C2, A3, C3, _, _, rfl, bx.at_ 0 rfl, bx.at_ 1 rfl, bx.at_ 2 rfl, bx.at_ 3 rfl, bx.at_ 4 rfl, bx.at_ 5 rfl, bx.at_ 6 rfl, (((((((ow.setCell (p := ⟨g, 0, none⟩) (.inl h6) _).setCell (p := ⟨g, 1, none⟩) (.inl h6) _).setCell (p := ⟨g, 2, none⟩) (.inl h6) _).setCell (p := ⟨g, 3, none⟩) (.inl h6) _).setCell (p := ⟨g, 4, none⟩) (.inl h6) _).setCell (p := ⟨g, 5, none⟩) (.inl h6) _).setCell (p := ⟨g, 6, none⟩) (.inl h6) _), Lib.hid (.inl h6), Lib.hid h3, Lib.hid h5, Lib.hid (by simp; omega), Lib.hid (by simp), ?_⟩
  exact (((((((hk.trans (hb.mono h3)).setCell h5 _).setCell h5 _).setCell h5 _).setCell h5 _).setCell h5 _).setCell h5 _).setCell h5 _
end Go.Proofs.YtlahobdopmdfmaaDoor

/- MacI -/
namespace Go.Proofs.YtlahobdopmdfmaaDoor
open Go.RowKit Go.BigFrame

/-- All of a machine's numbers are int64. -/
def Mac64 (m : Mac) : Prop := (All64 m.z1 ∧ All64 m.z2 ∧ All64 m.z3) ∧ (I64 m.b1 ∧ I64 m.b2 ∧ I64 m.b3 ∧ I64 m.p)

theorem inB_eq {z lo hi : Int} : inB z lo hi = decide (lo ≤ z ∧ z ≤ hi) := by
  cases h : inB z lo hi with
  | true => exact (decide_eq_true (inB_true h)).symm
  | false => exact (decide_eq_false (by have := inB_false h; omega)).symm
theorem macB_impl {m : Mac} {a b c d e f : Bool} (h1 : okB m.b1 m.z1 = a) (h2 : accB m.b2 m.z2 = b) (h3 : accB m.b3 m.z3 = c) (h4 : (m.b2 == m.b1) = d) (h5 : (m.b3 == m.b1) = e) (h6 : inB m.p 0 (plcs m - 1) = f) :
    macB m = (a && (b && (c && (d && (e && f))))) := by
  subst h1 h2 h3 h4 h5 h6
  rw [inB_eq]
  unfold macB accB
  rw [Bool.eq_iff_iff]
  simp only [decide_eq_true_eq, Bool.and_eq_true, beq_iff_eq]
  constructor
  · rintro ⟨h1, h2, h3, e2, e3, f2, f3, hl, p0, p1⟩
    rw [e2] at f2
    rw [e3] at f3
    exact ⟨h1, ⟨h2, f2⟩, ⟨h3, f3⟩, e2.symm, e3.symm, p0, p1⟩
  · rintro ⟨h1, ⟨h2, f2⟩, ⟨h3, f3⟩, e2, e3, p0, p1⟩
    rw [e2] at f2
    rw [e3] at f3
    refine ⟨h1, h2, h3, e2.symm, e3.symm, f2, f3, ?_, p0, p1⟩
    unfold plcs at p1
    omega

set_option maxHeartbeats 1000000 in
theorem mBase_any (m : Mac) (A1 : Option Addr) (C1 : Nat) (A2 : Option Addr) (C2 : Nat) (A3 : Option Addr) (C3 : Nat) (w : World) :
    Calls Tryd.prog 138 #[.agg #[.int .i64 m.b1, .slice A1 m.z1.length C1, .int .i64 m.b2, .slice A2 m.z2.length C2, .int .i64 m.b3, .slice A3 m.z3.length C3, .int .i64 m.p]] w fun e w' => e = .returned (.int .i64 m.b1) ∧ Below w.heap.size w w' := by
  go_enter Tryd.func138, Tryd.ntmps138
  go_wp2
  go_ret
  exact ⟨rfl, (by repeat (first | exact Below.refl _ _ | refine Below.setCell ?_ (by first | omega | (simp <;> omega)) _ | refine Below.alloc ?_ (by first | omega | (simp <;> omega)) _ | refine Below.drew ?_))⟩

set_option maxHeartbeats 1000000 in
theorem places_any (m : Mac) (A1 : Option Addr) (C1 : Nat) (A2 : Option Addr) (C2 : Nat) (A3 : Option Addr) (C3 : Nat) (w : World) (h : m.z1.length ≤ 1000000000 ∧ m.z2.length ≤ 1000000000 ∧ m.z3.length ≤ 1000000000) :
    Calls Tryd.prog 143 #[.agg #[.int .i64 m.b1, .slice A1 m.z1.length C1, .int .i64 m.b2, .slice A2 m.z2.length C2, .int .i64 m.b3, .slice A3 m.z3.length C3, .int .i64 m.p]] w fun e w' => e = .returned (.int .i64 (plcs m)) ∧ Below w.heap.size w w' := by
  obtain ⟨h1, h2, h3⟩ := h
  have w1 : IntKind.i64.wrap ((m.z2.length : Int) - m.z1.length) = (m.z2.length : Int) - m.z1.length := IntWalk.i64_in _ (by omega)
  have w2 : IntKind.i64.wrap ((m.z2.length : Int) - m.z1.length + 1) = (m.z2.length : Int) - m.z1.length + 1 := IntWalk.i64_in _ (by omega)
  have HP := Lib.hid (show plcs m = min ((m.z2.length : Int) - m.z1.length + 1) m.z3.length from rfl)
  go_enter Tryd.func143, Tryd.ntmps143
  go_wp2
  go_ret
  exact ⟨ret_int HP.out.symm, (by repeat (first | exact Below.refl _ _ | refine Below.setCell ?_ (by first | omega | (simp <;> omega)) _ | refine Below.alloc ?_ (by first | omega | (simp <;> omega)) _ | refine Below.drew ?_))⟩

theorem plcs_bd {m : Mac} (h : m.z1.length ≤ 1000000000 ∧ m.z2.length ≤ 1000000000 ∧ m.z3.length ≤ 1000000000) : -1000000000 ≤ plcs m ∧ plcs m ≤ 1000000000 := by unfold plcs; omega

set_option maxHeartbeats 1000000 in
theorem hasPlace_any (m : Mac) (A1 : Option Addr) (C1 : Nat) (A2 : Option Addr) (C2 : Nat) (A3 : Option Addr) (C3 : Nat) (k : Int) (w : World) (h : m.z1.length ≤ 1000000000 ∧ m.z2.length ≤ 1000000000 ∧ m.z3.length ≤ 1000000000) :
    Calls Tryd.prog 139 #[.agg #[.int .i64 m.b1, .slice A1 m.z1.length C1, .int .i64 m.b2, .slice A2 m.z2.length C2, .int .i64 m.b3, .slice A3 m.z3.length C3, .int .i64 m.p], .int .i64 k] w fun e w' => e = .returned (.bool (inB k 0 (plcs m - 1))) ∧ Below w.heap.size w w' := by
  have hp := plcs_bd h
  obtain ⟨u, hu⟩ : ∃ u, u = w.alloc (.cells #[.int .i64 m.b1, .slice A1 m.z1.length C1, .int .i64 m.b2, .slice A2 m.z2.length C2, .int .i64 m.b3, .slice A3 m.z3.length C3, .int .i64 m.p] 28) := ⟨_, rfl⟩
  have hbel : Below w.heap.size w u := by rw [hu]; exact (by repeat (first | exact Below.refl _ _ | refine Below.setCell ?_ (by first | omega | (simp <;> omega)) _ | refine Below.alloc ?_ (by first | omega | (simp <;> omega)) _ | refine Below.drew ?_))
  have bx : Bx u w.heap.size 28 #[.int .i64 m.b1, .slice A1 m.z1.length C1, .int .i64 m.b2, .slice A2 m.z2.length C2, .int .i64 m.b3, .slice A3 m.z3.length C3, .int .i64 m.p] := by rw [hu]; exact Bx.new _ _ _
  have HU := Lib.hid hu
  have HP := Lib.hid (places_any m A1 C1 A2 C2 A3 C3 u h)
  obtain ⟨q, hq⟩ : ∃ q, q = plcs m := ⟨_, rfl⟩
  rw [← hq] at HP hp ⊢
  have w1 : IntKind.i64.wrap (q - 1) = q - 1 := IntWalk.i64_in _ (by omega)
  clear hu hq
  go_enter Tryd.func139, Tryd.ntmps139
  go_wp2_with fail
  rw [← HU.out]
  refine HP.out.mono ?_
  rintro e w1 ⟨rfl, hb⟩
  replace hbel := hbel.trans (hb.mono hbel.size)
  have hs := hbel.size
  clear hb
  go_wp2_with fail
  refine (within1_at 0 (q - 1) k _ w1.heap.size 1 (cell_new1 _ _ _)).mono ?_
  rintro e w2 ⟨rfl, hw⟩
  subst w2
  go_wp2
  go_ret
  exact ⟨rfl, hbel.alloc hs _⟩

set_option maxHeartbeats 2000000 in
theorem goes_any (xB : Int) (xA : Option Addr) (xC : Nat) (xZ : List Int) (w : World) (ha : Rd w xA xZ) (z : All64 xZ) (b : I64 xB) (hD : BellD w) :
    Calls Tryd.prog 137 #[.agg #[.int .i64 xB, .slice xA xZ.length xC]] w fun e w' => e = .returned (.bool (accB xB xZ)) ∧ Below w.heap.size w w' := by
  obtain ⟨a, hl⟩ := hD
  obtain ⟨u, hu⟩ : ∃ u, u = w.alloc (.cells #[.int .i64 xB, .slice xA xZ.length xC] 26) := ⟨_, rfl⟩
  have hbel : Below w.heap.size w u := by rw [hu]; exact (by repeat (first | exact Below.refl _ _ | refine Below.setCell ?_ (by first | omega | (simp <;> omega)) _ | refine Below.alloc ?_ (by first | omega | (simp <;> omega)) _ | refine Below.drew ?_))
  have HU := Lib.hid hu
  replace ha := ha.below hbel
  replace hl := hl.below hbel
  clear hu
  cases h : accB xB xZ with
  | false =>
    have HC := Lib.hid (accOf_no xB xA xC xZ u ha z b h)
    clear h
    go_enter Tryd.func137, Tryd.ntmps137
    go_wp2_with fail
    rw [← HU.out]
    refine HC.out.mono ?_
    rintro e w1 ⟨rfl, hb⟩
    replace hbel := hbel.trans (hb.mono hbel.size)
    have hs := hbel.size
    clear hb
    go_wp2
    go_ret
    exact ⟨rfl, (by repeat (first | with_reducible exact hbel | with_reducible refine Below.setCell ?_ (by first | omega | (simp <;> omega)) _ | with_reducible refine Below.alloc ?_ (by first | omega | (simp <;> omega)) _ | with_reducible refine Below.drew ?_))⟩
  | true =>
    have HC := Lib.hid (accOf_ok a xB xA xC xZ u ha z b h hl)
    clear h
    go_enter Tryd.func137, Tryd.ntmps137
    go_wp2_with fail
    rw [← HU.out]
    refine HC.out.mono ?_
    rintro e w1 ⟨rfl, hb⟩
    replace hbel := hbel.trans (hb.mono hbel.size)
    have hs := hbel.size
    clear hb
    go_wp2
    go_ret
    exact ⟨rfl, (by repeat (first | with_reducible exact hbel | with_reducible refine Below.setCell ?_ (by first | omega | (simp <;> omega)) _ | with_reducible refine Below.alloc ?_ (by first | omega | (simp <;> omega)) _ | with_reducible refine Below.drew ?_))⟩
end Go.Proofs.YtlahobdopmdfmaaDoor

/- MavI -/
namespace Go.Proofs.YtlahobdopmdfmaaDoor
open Go.RowKit Go.BigFrame

set_option maxHeartbeats 4000000 in
set_option maxRecDepth 100000 in
theorem implValidMachine (m : Mac) (A1 : Option Addr) (C1 : Nat) (A2 : Option Addr) (C2 : Nat) (A3 : Option Addr) (C3 : Nat) (w : World) (h : Rd3 w A1 m.z1 A2 m.z2 A3 m.z3) (z : All64 m.z1 ∧ All64 m.z2 ∧ All64 m.z3) (y : I64 m.b1 ∧ I64 m.b2 ∧ I64 m.b3 ∧ I64 m.p) (hD : BellD w) :
    Calls Tryd.prog 65 #[.agg #[.int .i64 m.b1, .slice A1 m.z1.length C1, .int .i64 m.b2, .slice A2 m.z2.length C2, .int .i64 m.b3, .slice A3 m.z3.length C3, .int .i64 m.p]] w fun e w' => e = .returned (.bool (macB m)) ∧ Below w.heap.size w w' := by
  have hlen := h.len
  obtain ⟨u, hu⟩ : ∃ u, u = w.alloc (.cells #[.int .i64 m.b1, .slice A1 m.z1.length C1, .int .i64 m.b2, .slice A2 m.z2.length C2, .int .i64 m.b3, .slice A3 m.z3.length C3, .int .i64 m.p] 28) := ⟨_, rfl⟩
  have hbel : Below w.heap.size w u := by rw [hu]; exact (by repeat (first | exact Below.refl _ _ | refine Below.setCell ?_ (by first | omega | (simp <;> omega)) _ | refine Below.alloc ?_ (by first | omega | (simp <;> omega)) _ | refine Below.drew ?_))
  have bx : Bx u w.heap.size 28 #[.int .i64 m.b1, .slice A1 m.z1.length C1, .int .i64 m.b2, .slice A2 m.z2.length C2, .int .i64 m.b3, .slice A3 m.z3.length C3, .int .i64 m.p] := by rw [hu]; exact Bx.new _ _ _
  replace h := h.below hbel
  replace hD := hD.below hbel
  obtain ⟨a, h1⟩ : ∃ a, okB m.b1 m.z1 = a := ⟨_, rfl⟩
  obtain ⟨b, h2⟩ : ∃ a, accB m.b2 m.z2 = a := ⟨_, rfl⟩
  obtain ⟨c, h3⟩ : ∃ a, accB m.b3 m.z3 = a := ⟨_, rfl⟩
  obtain ⟨d, h4⟩ : ∃ a, (m.b2 == m.b1) = a := ⟨_, rfl⟩
  obtain ⟨e, h5⟩ : ∃ a, (m.b3 == m.b1) = a := ⟨_, rfl⟩
  obtain ⟨f, h6⟩ : ∃ a, inB m.p 0 (plcs m - 1) = a := ⟨_, rfl⟩
  have HE := Lib.hid (macB_impl h1 h2 h3 h4 h5 h6)
  have H1 := Lib.hid (implValidRegister m.b1 A1 C1 m.z1 u h.x z.1 y.1)
  have H2 := Lib.hid (fun (v : World) (hb : Below u.heap.size u v) => goes_any m.b2 A2 C2 m.z2 v (h.y.below hb) z.2.1 y.2.1 (hD.below hb))
  have H3 := Lib.hid (fun (v : World) (hb : Below u.heap.size u v) => goes_any m.b3 A3 C3 m.z3 v (h.z.below hb) z.2.2 y.2.2.1 (hD.below hb))
  have HB := Lib.hid (fun v => mBase_any m A1 C1 A2 C2 A3 C3 v)
  have HP := Lib.hid (fun v => hasPlace_any m A1 C1 A2 C2 A3 C3 m.p v hlen)
  rw [h1] at H1
  rw [h2] at H2
  rw [h3] at H3
  rw [h6] at HP
  have HU := Lib.hid hu
  clear hu h h1 h2 h3 h6 hD z y hlen
  rw [HE.out]
  cases a
  · clear H2 H3 HB HP h4 h5
    go_enter Tryd.func65, Tryd.ntmps65
    go_wp2_with fail
    rw [← HU.out]
    refine H1.out.mono ?_
    rintro e w1 ⟨rfl, hb⟩
    go_wp2
    go_ret
    exact ⟨rfl, hbel.trans (hb.mono hbel.size)⟩
  cases b
  · clear H3 HB HP h4 h5
    go_enter Tryd.func65, Tryd.ntmps65
    go_wp2_with fail
    rw [← HU.out]
    refine H1.out.mono ?_
    rintro e w1 ⟨rfl, hb⟩
    have c0 := (bx.below hb).at_ 2 rfl
    have c1 := (bx.below hb).at_ 3 rfl
    go_wp2_with fail
    refine (H2.out _ hb).mono ?_
    rintro e w2 ⟨rfl, hbn⟩
    replace hb := hb.trans (hbn.mono hb.size)
    clear hbn
    go_wp2
    go_ret
    exact ⟨rfl, hbel.trans (hb.mono hbel.size)⟩
  cases c
  · clear HB HP h4 h5
    go_enter Tryd.func65, Tryd.ntmps65
    go_wp2_with fail
    rw [← HU.out]
    refine H1.out.mono ?_
    rintro e w1 ⟨rfl, hb⟩
    have c0 := (bx.below hb).at_ 2 rfl
    have c1 := (bx.below hb).at_ 3 rfl
    go_wp2_with fail
    refine (H2.out _ hb).mono ?_
    rintro e w2 ⟨rfl, hbn⟩
    replace hb := hb.trans (hbn.mono hb.size)
    clear hbn
    clear c0 c1
    have c0 := (bx.below hb).at_ 4 rfl
    have c1 := (bx.below hb).at_ 5 rfl
    go_wp2_with fail
    refine (H3.out _ hb).mono ?_
    rintro e w3 ⟨rfl, hbn⟩
    replace hb := hb.trans (hbn.mono hb.size)
    clear hbn
    go_wp2
    go_ret
    exact ⟨rfl, hbel.trans (hb.mono hbel.size)⟩
  cases d
  rotate_left
  cases e
  rotate_left
  all_goals
    go_enter Tryd.func65, Tryd.ntmps65
    go_wp2_with fail
    rw [← HU.out]
    refine H1.out.mono ?_
    rintro e w1 ⟨rfl, hb⟩
    have c0 := (bx.below hb).at_ 2 rfl
    have c1 := (bx.below hb).at_ 3 rfl
    go_wp2_with fail
    refine (H2.out _ hb).mono ?_
    rintro e w2 ⟨rfl, hbn⟩
    replace hb := hb.trans (hbn.mono hb.size)
    clear hbn
    clear c0 c1
    have c0 := (bx.below hb).at_ 4 rfl
    have c1 := (bx.below hb).at_ 5 rfl
    go_wp2_with fail
    refine (H3.out _ hb).mono ?_
    rintro e w3 ⟨rfl, hbn⟩
    replace hb := hb.trans (hbn.mono hb.size)
    clear hbn
    clear c0 c1
    replace bx := bx.below hb
    replace hbel := hbel.trans (hb.mono hbel.size)
    clear hb
    go_upto_region 3 with fail
    have k0 := kept_after (bx.at_ 0 rfl)
    have k1 := kept_after (bx.at_ 1 rfl)
    have k2 := kept_after (bx.at_ 2 rfl)
    have k3 := kept_after (bx.at_ 3 rfl)
    have k4 := kept_after (bx.at_ 4 rfl)
    have k5 := kept_after (bx.at_ 5 rfl)
    have k6 := kept_after (bx.at_ 6 rfl)
    clear bx
    refine wp_region_after (by kernel_rfl) (by kernel_rfl) ?_
    repeat (go_big_quiet_step (first | (go_at_call 138; with_reducible exact calls_after (HB.out _)) | (go_at_call 139; with_reducible exact calls_after (HP.out _))))
    refine wpQuiet_nil ?_
    intro u3
    go_wp2
    go_ret
    exact ⟨rfl, hbel.trans (u3.ok.mono hbel.size)⟩

theorem implPlacesOf (m : Mac) (A1 : Option Addr) (C1 : Nat) (A2 : Option Addr) (C2 : Nat) (A3 : Option Addr) (C3 : Nat) (w : World) (h : Rd3 w A1 m.z1 A2 m.z2 A3 m.z3) (z : All64 m.z1 ∧ All64 m.z2 ∧ All64 m.z3) (y : I64 m.b1 ∧ I64 m.b2 ∧ I64 m.b3 ∧ I64 m.p) (hD : BellD w) :
    Calls Tryd.prog 76 #[.agg #[.int .i64 m.b1, .slice A1 m.z1.length C1, .int .i64 m.b2, .slice A2 m.z2.length C2, .int .i64 m.b3, .slice A3 m.z3.length C3, .int .i64 m.p]] w fun e w' => e = .returned (.tuple #[.int .i64 (plR m).1, .int .i64 (plR m).2]) ∧ Below w.heap.size w w' := by
  have R := Tryd.results76
  have hlen := h.len
  obtain ⟨u, hu⟩ : ∃ u, u = w.alloc (.cells #[.int .i64 m.b1, .slice A1 m.z1.length C1, .int .i64 m.b2, .slice A2 m.z2.length C2, .int .i64 m.b3, .slice A3 m.z3.length C3, .int .i64 m.p] 28) := ⟨_, rfl⟩
  have hbel : Below w.heap.size w u := by rw [hu]; exact (by repeat (first | exact Below.refl _ _ | refine Below.setCell ?_ (by first | omega | (simp <;> omega)) _ | refine Below.alloc ?_ (by first | omega | (simp <;> omega)) _ | refine Below.drew ?_))
  have bx : Bx u w.heap.size 28 #[.int .i64 m.b1, .slice A1 m.z1.length C1, .int .i64 m.b2, .slice A2 m.z2.length C2, .int .i64 m.b3, .slice A3 m.z3.length C3, .int .i64 m.p] := by rw [hu]; exact Bx.new _ _ _
  have HV := Lib.hid (implValidMachine m A1 C1 A2 C2 A3 C3 u (h.below hbel) z y (hD.below hbel))
  have HP := Lib.hid (fun v => places_any m A1 C1 A2 C2 A3 C3 v hlen)
  have HU := Lib.hid hu
  clear hu h z y hD
  cases hm : macB m with
  | false =>
    have HR := Lib.hid (show plR m = (0, 1) by simp [plR, hm])
    rw [hm] at HV
    clear hm
    go_enter Tryd.func76, Tryd.ntmps76
    go_wp2_with fail
    rw [← HU.out]
    refine HV.out.mono ?_
    rintro e w1 ⟨rfl, hb⟩
    go_wp2
    exact bodyPost_ret (v := .tuple #[.int .i64 0, .int .i64 1]) (by simp [results, go_sem]) rfl ⟨by rw [HR.out], hbel.trans (hb.mono hbel.size)⟩
  | true =>
    have HR := Lib.hid (show plR m = (plcs m, 0) by simp [plR, hm])
    rw [hm] at HV
    clear hm
    go_enter Tryd.func76, Tryd.ntmps76
    go_wp2_with fail
    rw [← HU.out]
    refine HV.out.mono ?_
    rintro e w1 ⟨rfl, hb⟩
    replace bx := bx.below hb
    replace hbel := hbel.trans (hb.mono hbel.size)
    clear hb
    have k0 := bx.at_ 0 rfl
    have k1 := bx.at_ 1 rfl
    have k2 := bx.at_ 2 rfl
    have k3 := bx.at_ 3 rfl
    have k4 := bx.at_ 4 rfl
    have k5 := bx.at_ 5 rfl
    have k6 := bx.at_ 6 rfl
    go_wp2_with fail
    refine (HP.out w1).mono ?_
    rintro e w2 ⟨rfl, hb⟩
    go_wp2
    exact bodyPost_ret (v := .tuple #[.int .i64 (plcs m), .int .i64 0]) (by simp [results, go_sem]) rfl ⟨by rw [HR.out], hbel.trans (hb.mono hbel.size)⟩
end Go.Proofs.YtlahobdopmdfmaaDoor

/- MacS -/
namespace Go.Proofs.YtlahobdopmdfmaaDoor
open Go.RowKit Go.BigFrame

theorem macB_spec2 {m : Mac} {a b c d e f g i j : Bool} (h1 : okB m.b1 m.z1 = a) (h2 : okB m.b2 m.z2 = b) (h3 : okB m.b3 m.z3 = c) (h4 : (m.b1 != m.b2) = d) (h5 : (m.b1 != m.b3) = e)
    (h6 : decide (m.b1 ^ m.z2.length - 1 ≤ 1000000000000) = f) (h7 : decide (m.b1 ^ m.z3.length - 1 ≤ 1000000000000) = g) (h8 : decide ((m.z1.length : Int) ≤ m.z2.length) = i) (h9 : inB m.p 0 (plcs m - 1) = j) :
    macB m = (a && (b && (c && (!d && (!e && (f && (g && (i && j)))))))) := by
  subst h1 h2 h3 h4 h5 h6 h7 h8 h9
  rw [show inB m.p 0 (plcs m - 1) = decide (0 ≤ m.p ∧ m.p ≤ plcs m - 1) by
    cases h : inB m.p 0 (plcs m - 1) with
    | true => exact (decide_eq_true (inB_true h)).symm
    | false => exact (decide_eq_false (by have := inB_false h; omega)).symm]
  unfold macB
  rw [Bool.eq_iff_iff]
  simp only [decide_eq_true_eq, Bool.and_eq_true, Bool.not_eq_true', bne_eq_false_iff_eq, Int.ofNat_le]

set_option maxHeartbeats 1000000 in
theorem l10Places_any (p : Nat) (m : Mac) (A1 : Option Addr) (C1 : Nat) (A2 : Option Addr) (C2 : Nat) (A3 : Option Addr) (C3 : Nat) (w : World) (bp : Bx w p 28 #[.int .i64 m.b1, .slice A1 m.z1.length C1, .int .i64 m.b2, .slice A2 m.z2.length C2, .int .i64 m.b3, .slice A3 m.z3.length C3, .int .i64 m.p]) (h : m.z1.length ≤ 1000000000 ∧ m.z2.length ≤ 1000000000 ∧ m.z3.length ≤ 1000000000) :
    Calls Tryd.prog 142 #[.pointer (some ⟨p, 0, none⟩)] w fun e w' => e = .returned (.int .i64 (plcs m)) ∧ Below w.heap.size w w' := by
  obtain ⟨h1, h2, h3⟩ := h
  have w1 : IntKind.i64.wrap ((m.z2.length : Int) - m.z1.length) = (m.z2.length : Int) - m.z1.length := IntWalk.i64_in _ (by omega)
  have w2 : IntKind.i64.wrap ((m.z2.length : Int) - m.z1.length + 1) = (m.z2.length : Int) - m.z1.length + 1 := IntWalk.i64_in _ (by omega)
  have HP := Lib.hid (show min (m.z3.length : Int) ((m.z2.length : Int) - m.z1.length + 1) = plcs m by unfold plcs; omega)
  have k1 := kept_after (bp.at_ 1 rfl)
  have k3 := kept_after (bp.at_ 3 rfl)
  have k5 := kept_after (bp.at_ 5 rfl)
  clear bp
  go_enter Tryd.func142, Tryd.ntmps142
  go_wp2_with fail
  refine wp_region_after (by kernel_rfl) (by kernel_rfl) ?_
  repeat (go_big_quiet_step ((go_at_call 158; exact calls_after ((l00Min_any _ _ _).mono fun e w' ⟨x, y⟩ => ⟨x, (by rw [y]; exact Below.refl _ _)⟩))))
  refine wpQuiet_nil ?_
  intro u
  go_wp2
  go_ret
  exact ⟨ret_int HP.out, u.ok⟩

set_option maxHeartbeats 8000000 in
set_option maxRecDepth 100000 in
theorem l10Ok_any (p : Nat) (m : Mac) (A1 : Option Addr) (C1 : Nat) (A2 : Option Addr) (C2 : Nat) (A3 : Option Addr) (C3 : Nat) (w : World) (h : Rd3 w A1 m.z1 A2 m.z2 A3 m.z3) (bp : Bx w p 28 #[.int .i64 m.b1, .slice A1 m.z1.length C1, .int .i64 m.b2, .slice A2 m.z2.length C2, .int .i64 m.b3, .slice A3 m.z3.length C3, .int .i64 m.p]) :
    Calls Tryd.prog 88 #[.pointer (some ⟨p, 0, none⟩)] w fun e w' => e = .returned (.bool (macB m)) ∧ Below w.heap.size w w' := by
  have hlen := h.len
  obtain ⟨a, h1⟩ : ∃ a, okB m.b1 m.z1 = a := ⟨_, rfl⟩
  obtain ⟨b, h2⟩ : ∃ a, okB m.b2 m.z2 = a := ⟨_, rfl⟩
  obtain ⟨c, h3⟩ : ∃ a, okB m.b3 m.z3 = a := ⟨_, rfl⟩
  obtain ⟨d, h4⟩ : ∃ a, (m.b1 != m.b2) = a := ⟨_, rfl⟩
  obtain ⟨e, h5⟩ : ∃ a, (m.b1 != m.b3) = a := ⟨_, rfl⟩
  obtain ⟨f, h6⟩ : ∃ a, decide (m.b1 ^ m.z2.length - 1 ≤ 1000000000000) = a := ⟨_, rfl⟩
  obtain ⟨g, h7⟩ : ∃ a, decide (m.b1 ^ m.z3.length - 1 ≤ 1000000000000) = a := ⟨_, rfl⟩
  obtain ⟨i, h8⟩ : ∃ a, decide ((m.z1.length : Int) ≤ m.z2.length) = a := ⟨_, rfl⟩
  obtain ⟨j, h9⟩ : ∃ a, inB m.p 0 (plcs m - 1) = a := ⟨_, rfl⟩
  have h8n : decide (m.z1.length ≤ m.z2.length) = i := by rw [← h8]; exact decide_eq_decide.2 Int.ofNat_le.symm
  have HE := Lib.hid (macB_spec2 h1 h2 h3 h4 h5 h6 h7 h8 h9)
  have H1 : Hid (∀ v, Below w.heap.size w v → Calls Tryd.prog 96 #[.pointer (some ⟨p, 0, none⟩)] v fun e w' => e = .returned (.bool a) ∧ Below v.heap.size v w') :=
    Lib.hid fun v hb => l02Ok_atO p 0 m.b1 A1 C1 m.z1 v h1 (h.x.below hb) ((bp.below hb).at_ 0 rfl) ((bp.below hb).at_ 1 rfl)
  have H2 : Hid (∀ v, Below w.heap.size w v → Calls Tryd.prog 96 #[.pointer (some ⟨p, 2, none⟩)] v fun e w' => e = .returned (.bool b) ∧ Below v.heap.size v w') :=
    Lib.hid fun v hb => l02Ok_atO p 2 m.b2 A2 C2 m.z2 v h2 (h.y.below hb) ((bp.below hb).at_ 2 rfl) ((bp.below hb).at_ 3 rfl)
  have H3 : Hid (∀ v, Below w.heap.size w v → Calls Tryd.prog 96 #[.pointer (some ⟨p, 4, none⟩)] v fun e w' => e = .returned (.bool c) ∧ Below v.heap.size v w') :=
    Lib.hid fun v hb => l02Ok_atO p 4 m.b3 A3 C3 m.z3 v h3 (h.z.below hb) ((bp.below hb).at_ 4 rfl) ((bp.below hb).at_ 5 rfl)
  have k0 := kept_after (bp.at_ 0 rfl)
  have k2 := kept_after (bp.at_ 2 rfl)
  have k4 := kept_after (bp.at_ 4 rfl)
  rw [HE.out]
  have HX : Hid ((a && (b && (c && (!d && !e)))) = true → 2 ≤ m.b1 ∧ m.b1 ≤ 16 ∧ m.z2.length ≤ 16 ∧ m.z3.length ≤ 16) := Lib.hid (by
    simp only [Bool.and_eq_true]
    rintro ⟨ha, hb, hc, _⟩
    subst ha hb hc
    obtain ⟨q1, q2, _⟩ := okB_spec h1
    exact ⟨q1, q2, (okB_spec h2).2.2.2.1, (okB_spec h3).2.2.2.1⟩)
  clear h h1 h2 h3
  have HR : Hid ((a && (b && (c && (!d && !e)))) = true ∨ ((a && (b && (c && (!d && (!e && (f && (g && (i && j)))))))) = false)) := Lib.hid (by cases a <;> cases b <;> cases c <;> cases d <;> cases e <;> simp)
  cases hq : (a && (b && (c && (!d && !e)))) with
  | false =>
    have HF := Lib.hid (show (a && (b && (c && (!d && (!e && (f && (g && (i && j)))))))) = false from HR.out.resolve_left (by rw [hq]; simp))
    rw [HF.out]
    clear HX HR HF h6 h7 h8 h8n h9 hlen
    cases a
    rotate_left
    cases b
    rotate_left
    cases c
    rotate_left
    cases d
    cases e
    · cases hq
    all_goals
      clear hq
      go_enter Tryd.func88, Tryd.ntmps88
      go_wp2_with fail
      refine wp_region_after (by kernel_rfl) (by kernel_rfl) ?_
      repeat (go_big_quiet_step ((go_at_call 96; first | with_reducible exact calls_after (H1.out _ (After.ok _)) | with_reducible exact calls_after (H2.out _ (After.ok _)) | with_reducible exact calls_after (H3.out _ (After.ok _)))))
      refine wpQuiet_nil ?_
      intro u
      go_wp2
      go_ret
      exact ⟨rfl, u.ok⟩
  | true =>
    obtain ⟨x0, x1, x2, x3⟩ := HX.out hq
    obtain ⟨rfl, rfl, rfl, rfl, rfl⟩ : a = true ∧ b = true ∧ c = true ∧ d = false ∧ e = false := by revert hq; cases a <;> cases b <;> cases c <;> cases d <;> cases e <;> simp
    have HF2 := Lib.hid (fun v => l10Full_at (v := f) m.b1 m.z2.length v (by omega) x1 x2 h6)
    have HF3 := Lib.hid (fun v => l10Full_at (v := g) m.b1 m.z3.length v (by omega) x1 x3 h7)
    have HI := Lib.hid (fun v => l00In_b m.p 0 (plcs m - 1) v)
    rw [h9] at HI
    have HPl := Lib.hid (fun (v : World) (hb : Below w.heap.size w v) => l10Places_any p m A1 C1 A2 C2 A3 C3 v (bp.below hb) hlen)
    have hpb : -1000000000 ≤ plcs m ∧ plcs m ≤ 1000000000 := by unfold plcs; omega
    obtain ⟨q, hq2⟩ : ∃ q, q = plcs m := ⟨_, rfl⟩
    rw [← hq2] at HI HPl hpb
    have w1 : IntKind.i64.wrap (q - 1) = q - 1 := IntWalk.i64_in _ (by omega)
    clear HX HR hq h6 h7 h9 hq2 hlen x2 x3
    simp only [Bool.true_and, Bool.not_false]
    cases f
    rotate_left
    cases g
    rotate_left
    cases i
    rotate_left
    all_goals
      go_enter Tryd.func88, Tryd.ntmps88
      go_wp2_with fail
      refine wp_region_after (by kernel_rfl) (by kernel_rfl) ?_
      repeat (go_big_quiet_step ((go_at_call 96; first | with_reducible exact calls_after (H1.out _ (After.ok _)) | with_reducible exact calls_after (H2.out _ (After.ok _)) | with_reducible exact calls_after (H3.out _ (After.ok _)))))
      refine wpQuiet_nil ?_
      intro u
      clear k0 k2 k4
      obtain ⟨W, hW⟩ : ∃ W, W = u.now := ⟨_, rfl⟩
      have hbW : Below w.heap.size w W := by rw [hW]; exact u.ok
      rw [← hW]
      clear hW u
      have bW := bp.below hbW
      have c0 := bW.at_ 0 rfl
      have c1 := bW.at_ 1 rfl
      have c3 := bW.at_ 3 rfl
      have c5 := bW.at_ 5 rfl
      have c6 := bW.at_ 6 rfl
      go_wp2_with fail
      refine (HF2.out _).mono ?_
      rintro e w1 ⟨rfl, hw⟩
      subst w1
      first
      | (go_wp2; go_ret; exact ⟨rfl, hbW⟩)
      | (go_wp2_with fail
         refine (HF3.out _).mono ?_
         rintro e w2 ⟨rfl, hw⟩
         subst w2
         first
         | (go_wp2; go_ret; exact ⟨rfl, hbW⟩)
         | (go_wp2_with fail
            have k1 := kept_after c1
            have k3 := kept_after c3
            have k6 := kept_after c6
            have HPl2 := Lib.hid (fun (v : World) (hb : Below W.heap.size W v) => HPl.out v (hbW.trans (hb.mono hbW.size)))
            clear c0 c1 c3 c5 c6
            refine wp_region_after (by kernel_rfl) (by kernel_rfl) ?_
            repeat (go_big_quiet_step (first | (go_at_call 142; with_reducible exact calls_after (HPl2.out _ (After.ok _))) | (go_at_call 118; with_reducible exact calls_after (HI.out _))))
            refine wpQuiet_nil ?_
            intro u2
            go_wp2
            go_ret
            exact ⟨rfl, hbW.trans (u2.ok.mono hbW.size)⟩))
end Go.Proofs.YtlahobdopmdfmaaDoor

/- MavS -/
namespace Go.Proofs.YtlahobdopmdfmaaDoor
open Go.RowKit

theorem specValidMachine (m : Mac) (A1 : Option Addr) (C1 : Nat) (A2 : Option Addr) (C2 : Nat) (A3 : Option Addr) (C3 : Nat) (w : World) (h : Rd3 w A1 m.z1 A2 m.z2 A3 m.z3) (_ : All64 m.z1 ∧ All64 m.z2 ∧ All64 m.z3) (_ : I64 m.b1 ∧ I64 m.b2 ∧ I64 m.b3 ∧ I64 m.p) :
    Calls Tryd.prog 21 #[.agg #[.int .i64 m.b1, .slice A1 m.z1.length C1, .int .i64 m.b2, .slice A2 m.z2.length C2, .int .i64 m.b3, .slice A3 m.z3.length C3, .int .i64 m.p]] w fun e w' => e = .returned (.bool (macB m)) ∧ Below w.heap.size w w' := by
  obtain ⟨u, hu⟩ : ∃ u, u = w.alloc (.cells #[.int .i64 m.b1, .slice A1 m.z1.length C1, .int .i64 m.b2, .slice A2 m.z2.length C2, .int .i64 m.b3, .slice A3 m.z3.length C3, .int .i64 m.p] 28) := ⟨_, rfl⟩
  have hbel : Below w.heap.size w u := by rw [hu]; exact (by repeat (first | exact Below.refl _ _ | refine Below.setCell ?_ (by first | omega | (simp <;> omega)) _ | refine Below.alloc ?_ (by first | omega | (simp <;> omega)) _ | refine Below.drew ?_))
  have bx : Bx u w.heap.size 28 #[.int .i64 m.b1, .slice A1 m.z1.length C1, .int .i64 m.b2, .slice A2 m.z2.length C2, .int .i64 m.b3, .slice A3 m.z3.length C3, .int .i64 m.p] := by rw [hu]; exact Bx.new _ _ _
  have HU := Lib.hid hu
  clear hu
  go_enter Tryd.func21, Tryd.ntmps21
  go_wp2_with fail
  rw [← HU.out]
  refine (l10Ok_any w.heap.size m A1 C1 A2 C2 A3 C3 u (h.below hbel) bx).mono ?_
  rintro e w1 ⟨rfl, hb⟩
  go_wp2
  go_ret
  exact ⟨rfl, hbel.trans (hb.mono hbel.size)⟩

theorem specPlacesOf (m : Mac) (A1 : Option Addr) (C1 : Nat) (A2 : Option Addr) (C2 : Nat) (A3 : Option Addr) (C3 : Nat) (w : World) (h : Rd3 w A1 m.z1 A2 m.z2 A3 m.z3) (_ : All64 m.z1 ∧ All64 m.z2 ∧ All64 m.z3) (_ : I64 m.b1 ∧ I64 m.b2 ∧ I64 m.b3 ∧ I64 m.p) :
    Calls Tryd.prog 75 #[.agg #[.int .i64 m.b1, .slice A1 m.z1.length C1, .int .i64 m.b2, .slice A2 m.z2.length C2, .int .i64 m.b3, .slice A3 m.z3.length C3, .int .i64 m.p]] w fun e w' => e = .returned (.tuple #[.int .i64 (plR m).1, .int .i64 (plR m).2]) ∧ Below w.heap.size w w' := by
  have R := Tryd.results75
  have hlen := h.len
  obtain ⟨u, hu⟩ : ∃ u, u = w.alloc (.cells #[.int .i64 m.b1, .slice A1 m.z1.length C1, .int .i64 m.b2, .slice A2 m.z2.length C2, .int .i64 m.b3, .slice A3 m.z3.length C3, .int .i64 m.p] 28) := ⟨_, rfl⟩
  have hbel : Below w.heap.size w u := by rw [hu]; exact (by repeat (first | exact Below.refl _ _ | refine Below.setCell ?_ (by first | omega | (simp <;> omega)) _ | refine Below.alloc ?_ (by first | omega | (simp <;> omega)) _ | refine Below.drew ?_))
  have bx : Bx u w.heap.size 28 #[.int .i64 m.b1, .slice A1 m.z1.length C1, .int .i64 m.b2, .slice A2 m.z2.length C2, .int .i64 m.b3, .slice A3 m.z3.length C3, .int .i64 m.p] := by rw [hu]; exact Bx.new _ _ _
  have HV := Lib.hid (l10Ok_any w.heap.size m A1 C1 A2 C2 A3 C3 u (h.below hbel) bx)
  have HU := Lib.hid hu
  clear hu h
  cases hm : macB m with
  | false =>
    have HR := Lib.hid (show plR m = (0, 1) by simp [plR, hm])
    rw [hm] at HV
    clear hm
    go_enter Tryd.func75, Tryd.ntmps75
    go_wp2_with fail
    rw [← HU.out]
    refine HV.out.mono ?_
    rintro e w1 ⟨rfl, hb⟩
    go_wp2
    exact bodyPost_ret (v := .tuple #[.int .i64 0, .int .i64 1]) (by simp [results, go_sem]) rfl ⟨by rw [HR.out], hbel.trans (hb.mono hbel.size)⟩
  | true =>
    have HR := Lib.hid (show plR m = (plcs m, 0) by simp [plR, hm])
    rw [hm] at HV
    clear hm
    go_enter Tryd.func75, Tryd.ntmps75
    go_wp2_with fail
    rw [← HU.out]
    refine HV.out.mono ?_
    rintro e w1 ⟨rfl, hb⟩
    replace bx := bx.below hb
    replace hbel := hbel.trans (hb.mono hbel.size)
    clear hb
    go_wp2_with fail
    refine (l10Places_any w.heap.size m A1 C1 A2 C2 A3 C3 w1 bx hlen).mono ?_
    rintro e w2 ⟨rfl, hb⟩
    go_wp2
    exact bodyPost_ret (v := .tuple #[.int .i64 (plcs m), .int .i64 0]) (by simp [results, go_sem]) rfl ⟨by rw [HR.out], hbel.trans (hb.mono hbel.size)⟩
end Go.Proofs.YtlahobdopmdfmaaDoor

/- Wid3 -/
namespace Go.Proofs.YtlahobdopmdfmaaDoor
open Go.RowKit

set_option maxHeartbeats 1000000 in
theorem isWidth_any (n : Int) (w : World) : Calls Tryd.prog 161 #[.int .i64 n] w fun e w' => e = .returned (.bool (inB n 1 16)) ∧ w' = w := by
  cases h : inB n 1 16 with
  | true =>
    obtain ⟨h1, h2⟩ := inB_true h
    have d1 : decide (n ≥ 1) = true := decide_eq_true h1
    have d2 : decide (n ≤ 16) = true := decide_eq_true h2
    clear h
    go_enter Tryd.func161, Tryd.ntmps161
    go_wp2
    go_ret
    exact ⟨rfl, rfl⟩
  | false =>
    have hh := inB_false h
    clear h
    rcases Int.lt_or_le n 1 with h1 | h1
    · have d1 : decide (n ≥ 1) = false := decide_eq_false (by omega)
      have h1' : ¬ 1 ≤ n := by omega
      clear hh h1
      go_enter Tryd.func161, Tryd.ntmps161
      go_wp2
      go_ret
      exact ⟨rfl, rfl⟩
    · have d1 : decide (n ≥ 1) = true := decide_eq_true h1
      have d2 : decide (n ≤ 16) = false := decide_eq_false (by omega)
      have h2 : ¬ n ≤ 16 := by omega
      clear hh
      go_enter Tryd.func161, Tryd.ntmps161
      go_wp2
      go_ret
      exact ⟨rfl, rfl⟩
theorem isWidth_at {b : Bool} (n : Int) (w : World) (h : inB n 1 16 = b) : Calls Tryd.prog 161 #[.int .i64 n] w fun e w' => e = .returned (.bool b) ∧ w' = w := by
  subst h; exact isWidth_any n w

theorem l07Size_any (n : Int) (w : World) : Calls Tryd.prog 134 #[.int .i64 n] w fun e w' => e = .returned (.bool (inB n 1 16)) ∧ w' = w := by
  go_enter Tryd.func134, Tryd.ntmps134
  go_wp2_with (go_at_call 118; refine (l00In_any n 1 16 _).mono ?_; rintro e w1 ⟨rfl, hq⟩; subst w1)
  go_ret
  exact ⟨rfl, rfl⟩
theorem l07Size_at {b : Bool} (n : Int) (w : World) (h : inB n 1 16 = b) : Calls Tryd.prog 134 #[.int .i64 n] w fun e w' => e = .returned (.bool b) ∧ w' = w := by
  subst h; exact l07Size_any n w
end Go.Proofs.YtlahobdopmdfmaaDoor

/- CloneI -/
namespace Go.Proofs.YtlahobdopmdfmaaDoor
open Go.RowKit

theorem rd_news {w : World} {b off : Nat} {zs : List Int} (h : Rd w (some ⟨b, off, none⟩) zs) : ∀ j u, (zs.map (Value.int .i64))[j]? = some u → w.cell? ((⟨b, off, none⟩ : Addr).add j) = some u := by
  intro j u hj
  rw [List.getElem?_map] at hj
  have hlt : j < zs.length := by
    rcases Nat.lt_or_ge j zs.length with h1 | h1
    · exact h1
    · rw [List.getElem?_eq_none h1] at hj; cases hj
  rw [List.getElem?_eq_getElem hlt, Option.map_some] at hj
  injection hj with hj
  subst hj
  obtain ⟨b', off', e, hc⟩ := h.cells (by rintro rfl; simp at hlt)
  injection e with e
  injection e with e1 e2 _
  subst e1 e2
  have := hc j hlt
  rw [nth_get hlt] at this
  have ea : (⟨b, off, none⟩ : Addr).add j = ⟨b, off + j, none⟩ := by
    by_cases h0 : j = 0
    · subst h0; rfl
    · simp [Addr.add, h0]
  rw [ea]; exact this

set_option maxHeartbeats 1000000 in
theorem clone_any (a : Option Addr) (c : Nat) (zs : List Int) (w : World) (ha : Rd w a zs) (hne : 0 < zs.length) :
    Calls Tryd.prog 173 #[.slice a zs.length c] w fun e w' => ∃ A C, e = .returned (.slice A zs.length C) ∧ Own 2 w' w.heap.size w'.heap.size (.slice A zs.length C) zs ∧ Below w.heap.size w w' := by
  have hx := ha.len
  obtain ⟨b, off, rfl, _⟩ := ha.cells (by rintro rfl; simp at hne)
  obtain ⟨u, hu⟩ : ∃ u, u = w.alloc (.cells #[] 2) := ⟨_, rfl⟩
  have hbel : Below w.heap.size w u := by rw [hu]; exact (by repeat (first | exact Below.refl _ _ | refine Below.setCell ?_ (by first | omega | (simp <;> omega)) _ | refine Below.alloc ?_ (by first | omega | (simp <;> omega)) _ | refine Below.drew ?_))
  have hrow : Row 2 1 u w.heap.size (w.heap.size + 1) (.slice (some ⟨w.heap.size, 0, none⟩) 0 0) 0 [] := by
    rw [hu]; simpa using row_new 2 1 w #[] 0 (by simp) (by omega)
  have hus : u.heap.size = w.heap.size + 1 := by rw [hu]; simp
  have hnew := rd_news (ha.below hbel)
  have hone : ∀ v ∈ zs.map (Value.int .i64), v.oneCell' = true := by intro v hv; obtain ⟨x, _, rfl⟩ := List.mem_map.1 hv; rfl
  have hnl := fun (w : World) => Lib.run_eql_slice_nil (P := Tryd.prog) w 24 2 (some ⟨b, off, none⟩) zs.length c 0 0 Tryd.underlying24
  have HU := Lib.hid hu
  clear hu
  go_enter Tryd.func173, Tryd.ntmps173
  go_wp2_with (at_builtin; rw [← HU.out]; refine wpList_appR rfl (.tmp 5) (.tmp 6) 24 2 rfl (.int .i64 0) 1 8 Tryd.underlying24 info_int64 rfl (by omega) (by omega) rfl hrow ⟨b, off, none⟩ zs.length c (zs.map (Value.int .i64)) rfl (by simp) hnew hone (by omega) (by omega) ?_; intro A' C' w1 hrow1 ht)
  have ow : Own 2 w1 w.heap.size w1.heap.size (.slice A' zs.length C') zs := own_of_row (n := zs.length) (by simpa using hrow1) rfl hx
  go_ret
  exact ⟨A', C', by simp, ow, hbel.trans (ht.below (by omega) (by omega))⟩

set_option maxHeartbeats 1000000 in
theorem l00Own_any (a : Option Addr) (c : Nat) (zs : List Int) (w : World) (ha : Rd w a zs) (hne : 0 < zs.length) :
    Calls Tryd.prog 169 #[.slice a zs.length c] w fun e w' => ∃ A C, e = .returned (.slice A zs.length C) ∧ Own 2 w' w.heap.size w'.heap.size (.slice A zs.length C) zs ∧ Below w.heap.size w w' := by
  have hx := ha.len
  obtain ⟨b, off, rfl, _⟩ := ha.cells (by rintro rfl; simp at hne)
  obtain ⟨u, hu⟩ : ∃ u, u = w.alloc (.cells #[] 2) := ⟨_, rfl⟩
  have hbel : Below w.heap.size w u := by rw [hu]; exact (by repeat (first | exact Below.refl _ _ | refine Below.setCell ?_ (by first | omega | (simp <;> omega)) _ | refine Below.alloc ?_ (by first | omega | (simp <;> omega)) _ | refine Below.drew ?_))
  have hrow : Row 2 1 u w.heap.size (w.heap.size + 1) (.slice (some ⟨w.heap.size, 0, none⟩) 0 0) 0 [] := by
    rw [hu]; simpa using row_new 2 1 w #[] 0 (by simp) (by omega)
  have hus : u.heap.size = w.heap.size + 1 := by rw [hu]; simp
  have hnew := rd_news (ha.below hbel)
  have hone : ∀ v ∈ zs.map (Value.int .i64), v.oneCell' = true := by intro v hv; obtain ⟨x, _, rfl⟩ := List.mem_map.1 hv; rfl
  have HU := Lib.hid hu
  clear hu
  go_enter Tryd.func169, Tryd.ntmps169
  go_wp2_with (at_builtin; rw [← HU.out]; refine wpList_appR rfl (.tmp 3) (.tmp 4) 24 2 rfl (.int .i64 0) 1 8 Tryd.underlying24 info_int64 rfl (by omega) (by omega) rfl hrow ⟨b, off, none⟩ zs.length c (zs.map (Value.int .i64)) rfl (by simp) hnew hone (by omega) (by omega) ?_; intro A' C' w1 hrow1 ht)
  have ow : Own 2 w1 w.heap.size w1.heap.size (.slice A' zs.length C') zs := own_of_row (n := zs.length) (by simpa using hrow1) rfl hx
  go_ret
  exact ⟨A', C', by simp, ow, hbel.trans (ht.below (by omega) (by omega))⟩

end Go.Proofs.YtlahobdopmdfmaaDoor

/- Box -/
namespace Go.Proofs.YtlahobdopmdfmaaDoor
open Go.RowKit

/-- s leads to a box that holds the register; what it owns lies elsewhere. -/
def BoxReg (W : World) (b : Int) (zs : List Int) (s : Value) (wx : World) : Prop := ∃ g A C lo hi, s = .pointer (some ⟨g, 0, none⟩) ∧
  wx.cell? ⟨g, 0, none⟩ = some (.int .i64 b) ∧ wx.cell? ⟨g, 1, none⟩ = some (.slice A zs.length C) ∧ Own 2 wx lo hi (.slice A zs.length C) zs ∧
  Hid (g < lo ∨ hi ≤ g) ∧ Hid (W.heap.size ≤ lo) ∧ Hid (W.heap.size ≤ g) ∧ Hid (g < wx.heap.size) ∧ Hid (hi ≤ wx.heap.size) ∧ Below W.heap.size W wx
theorem boxReg_after {W u v : World} {b : Int} {zs : List Int} {A : Option Addr} {C : Nat} {t : TypeId} (hk : Below W.heap.size W u) (hb : Below u.heap.size u v) (ow : Own 2 v u.heap.size v.heap.size (.slice A zs.length C) zs) :
    BoxReg W b zs (.pointer (some ⟨v.heap.size, 0, none⟩)) (v.alloc (.cells #[.int .i64 b, .slice A zs.length C] t)) := by
  have h1 := hk.size
  have h2 := hb.size
  refine ⟨_, A, C, _, _, rfl, ?_, ?_, ow.alloc _, Lib.hid (.inr (Nat.le_refl _)), Lib.hid h1, Lib.hid (by omega), Lib.hid (by simp), Lib.hid (by simp), (hk.trans (hb.mono h1)).alloc (by omega) _⟩
  · exact (Bx.new v #[.int .i64 b, .slice A zs.length C] t).at_ 0 rfl
  · exact (Bx.new v #[.int .i64 b, .slice A zs.length C] t).at_ 1 rfl
theorem boxReg_before {W u v : World} {b : Int} {zs : List Int} {A : Option Addr} {C g : Nat} {t : TypeId} {c0 c1 : Value} (hk : Below W.heap.size W u) (hb : Below u.heap.size u v)
    (ow : Own 2 v u.heap.size v.heap.size (.slice A zs.length C) zs) (bz : Bx v g t #[c0, c1]) (h1 : Hid (W.heap.size ≤ g)) (h2 : Hid (g < u.heap.size)) :
    BoxReg W b zs (.pointer (some ⟨g, 0, none⟩)) ((v.setCell ⟨g, 0, none⟩ (.int .i64 b)).setCell ⟨g, 1, none⟩ (.slice A zs.length C)) := by
  have h3 := hk.size
  have h4 := hb.size
  have h5 := h1.out
  have h6 := h2.out
  replace bz := ((bz.set_ 0 (.int .i64 b)).set_ 1 (.slice A zs.length C))
  refine ⟨_, A, C, _, _, rfl, bz.at_ 0 rfl, bz.at_ 1 rfl, (ow.setCell (.inl h6) _).setCell (.inl h6) _, Lib.hid (.inl h6), Lib.hid h3, Lib.hid h5, Lib.hid (by simp; omega), Lib.hid (by simp), ?_⟩
  exact ((hk.trans (hb.mono h3)).setCell h5 _).setCell h5 _
end Go.Proofs.YtlahobdopmdfmaaDoor

/- MacMid -/
/- MnwI -/
namespace Go.Proofs.YtlahobdopmdfmaaDoor
open Go.RowKit

theorem implNewReg_at (b n v : Int) (w : World) (h1 : I64 b) (h2 : I64 n) (h3 : I64 v) : Calls Tryd.prog 136 #[.int .i64 b, .int .i64 n, .int .i64 v] w fun e w' => ∃ A C,
    e = .returned (.tuple #[.agg #[.int .i64 (nrR b n v).1, .slice A (nrR b n v).2.1.length C], .int .i64 (nrR b n v).2.2]) ∧ Own 2 w' w.heap.size w'.heap.size (.slice A (nrR b n v).2.1.length C) (nrR b n v).2.1 ∧ Below w.heap.size w w' := implNewRegister b n v w h1 h2 h3

set_option maxHeartbeats 4000000 in
set_option maxRecDepth 100000 in
theorem implNewMachine (b s r c : Int) (w : World) (hb : I64 b) (hs : I64 s) (hr : I64 r) (hc : I64 c) (hD : BellD w) :
    Calls Tryd.prog 59 #[.int .i64 b, .int .i64 s, .int .i64 r, .int .i64 c] w (MacC (nmR b s r c) w) := by
  have R := Tryd.results59
  have i0 : I64 0 := by unfold I64; decide
  obtain ⟨B1, Z1, k1, e1⟩ : ∃ B1 Z1 k1, nrR b s 0 = (B1, Z1, k1) := ⟨_, _, _, rfl⟩
  obtain ⟨B2, Z2, k2, e2⟩ : ∃ B1 Z1 k1, nrR b r 0 = (B1, Z1, k1) := ⟨_, _, _, rfl⟩
  obtain ⟨B3, Z3, k3, e3⟩ : ∃ B1 Z1 k1, nrR b c 0 = (B1, Z1, k1) := ⟨_, _, _, rfl⟩
  have HN1 := Lib.hid (fun v => implNewReg_at b s 0 v hb hs i0)
  have HN2 := Lib.hid (fun v => implNewReg_at b r 0 v hb hr i0)
  have HN3 := Lib.hid (fun v => implNewReg_at b c 0 v hb hc i0)
  rw [e1] at HN1
  rw [e2] at HN2
  rw [e3] at HN3
  have HM := Lib.hid (show rawM b s r c = ⟨B1, Z1, B2, Z2, B3, Z3, 0⟩ by rw [rawM, e1, e2, e3])
  have HW := Lib.hid (show (All64 Z1 ∧ All64 Z2 ∧ All64 Z3) ∧ (I64 B1 ∧ I64 B2 ∧ I64 B3 ∧ I64 0) from
    have q1 := nrR_wf (n := s) hb
    have q2 := nrR_wf (n := r) hb
    have q3 := nrR_wf (n := c) hb
    ⟨⟨by rw [e1] at q1; exact q1.2, by rw [e2] at q2; exact q2.2, by rw [e3] at q3; exact q3.2⟩, by rw [e1] at q1; exact q1.1, by rw [e2] at q2; exact q2.1, by rw [e3] at q3; exact q3.1, i0⟩)
  clear e1 e2 e3
  obtain ⟨m, hm⟩ : ∃ m : Mac, m = ⟨B1, Z1, B2, Z2, B3, Z3, 0⟩ := ⟨_, rfl⟩
  rw [← hm] at HM
  obtain ⟨g, hg⟩ : ∃ g, g = w.heap.size := ⟨_, rfl⟩
  obtain ⟨u, hu⟩ : ∃ u, u = (w.alloc (.cells #[.int .i64 0, .slice none 0 0, .int .i64 0, .slice none 0 0, .int .i64 0, .slice none 0 0, .int .i64 0] 28)).alloc (.cells #[.int .i64 0, .slice none 0 0, .int .i64 0, .slice none 0 0, .int .i64 0, .slice none 0 0, .int .i64 0] 28) := ⟨_, rfl⟩
  have hbel : Below w.heap.size w u := by rw [hu]; exact (by repeat (first | exact Below.refl _ _ | refine Below.setCell ?_ (by first | omega | (simp <;> omega)) _ | refine Below.alloc ?_ (by first | omega | (simp <;> omega)) _ | refine Below.drew ?_))
  have br : Bx u g 28 #[.int .i64 0, .slice none 0 0, .int .i64 0, .slice none 0 0, .int .i64 0, .slice none 0 0, .int .i64 0] := by rw [hu, hg]; exact (Bx.new _ _ _).alloc _
  have bm : Bx u (g + 1) 28 #[.int .i64 0, .slice none 0 0, .int .i64 0, .slice none 0 0, .int .i64 0, .slice none 0 0, .int .i64 0] := by rw [hu, hg]; simpa using Bx.new (w.alloc (.cells #[.int .i64 0, .slice none 0 0, .int .i64 0, .slice none 0 0, .int .i64 0, .slice none 0 0, .int .i64 0] 28)) #[.int .i64 0, .slice none 0 0, .int .i64 0, .slice none 0 0, .int .i64 0, .slice none 0 0, .int .i64 0] 28
  have hgu : g + 1 < u.heap.size := bm.lt
  have HG := Lib.hid hg
  have HU := Lib.hid hu
  clear hu
  go_enter Tryd.func59, Tryd.ntmps59
  go_wp2_with fail
  rw [← HU.out, ← hg]
  clear hg
  refine (HN1.out u).mono ?_
  rintro e w1 ⟨A1, C1, rfl, own1, hb1⟩
  replace br := br.below hb1
  replace bm := bm.below hb1
  have hz1 := hb1.size
  replace hbel := hbel.trans (hb1.mono hbel.size)
  clear hb1
  have c0 := bm.at_ 0 rfl
  have c1 := bm.at_ 1 rfl
  have f0 := bm.thaw 0
  have f1 := bm.thaw 1
  go_wp2_with fail
  obtain ⟨V1, hV⟩ : ∃ V, V = (w1.setCell ⟨g + 1, 0, none⟩ (.int .i64 B1)).setCell ⟨g + 1, 1, none⟩ (.slice A1 Z1.length C1) := ⟨_, rfl⟩
  try rw [← hV]
  replace own1 : Own 2 V1 u.heap.size w1.heap.size (.slice A1 Z1.length C1) Z1 := by rw [hV]; exact (own1.setCell (.inl (by simp; omega)) _).setCell (.inl (by simp; omega)) _
  replace br : Bx V1 g 28 #[.int .i64 0, .slice none 0 0, .int .i64 0, .slice none 0 0, .int .i64 0, .slice none 0 0, .int .i64 0] := by rw [hV]; exact (br.far (by simp) _).far (by simp) _
  replace bm : Bx V1 (g + 1) 28 #[.int .i64 B1, .slice A1 Z1.length C1, .int .i64 0, .slice none 0 0, .int .i64 0, .slice none 0 0, .int .i64 0] := by rw [hV]; exact (bm.set_ 0 _).set_ 1 _
  replace hbel : Below w.heap.size w V1 := by rw [hV]; have := HG.out; exact (by repeat (first | with_reducible exact hbel | with_reducible refine Below.setCell ?_ (by first | omega | (simp <;> omega)) _ | with_reducible refine Below.alloc ?_ (by first | omega | (simp <;> omega)) _ | with_reducible refine Below.drew ?_))
  have hy1 : V1.heap.size = w1.heap.size := by rw [hV]; simp
  clear hV c0 c1 f0 f1
  refine (HN2.out V1).mono ?_
  rintro e w2 ⟨A2, C2, rfl, own2, hb2⟩
  replace own1 := own1.below hb2
  replace br := br.below hb2
  replace bm := bm.below hb2
  have hz2 := hb2.size
  replace hbel := hbel.trans (hb2.mono hbel.size)
  clear hb2
  have c0 := bm.at_ 2 rfl
  have c1 := bm.at_ 3 rfl
  have f0 := bm.thaw 2
  have f1 := bm.thaw 3
  go_wp2_with fail
  obtain ⟨V2, hV⟩ : ∃ V, V = (w2.setCell ⟨g + 1, 2, none⟩ (.int .i64 B2)).setCell ⟨g + 1, 3, none⟩ (.slice A2 Z2.length C2) := ⟨_, rfl⟩
  try rw [← hV]
  replace own1 : Own 2 V2 u.heap.size w1.heap.size (.slice A1 Z1.length C1) Z1 := by rw [hV]; exact (own1.setCell (.inl (by simp; omega)) _).setCell (.inl (by simp; omega)) _
  replace own2 : Own 2 V2 V1.heap.size w2.heap.size (.slice A2 Z2.length C2) Z2 := by rw [hV]; exact (own2.setCell (.inl (by simp; omega)) _).setCell (.inl (by simp; omega)) _
  replace br : Bx V2 g 28 #[.int .i64 0, .slice none 0 0, .int .i64 0, .slice none 0 0, .int .i64 0, .slice none 0 0, .int .i64 0] := by rw [hV]; exact (br.far (by simp) _).far (by simp) _
  replace bm : Bx V2 (g + 1) 28 #[.int .i64 B1, .slice A1 Z1.length C1, .int .i64 B2, .slice A2 Z2.length C2, .int .i64 0, .slice none 0 0, .int .i64 0] := by rw [hV]; exact (bm.set_ 2 _).set_ 3 _
  replace hbel : Below w.heap.size w V2 := by rw [hV]; have := HG.out; exact (by repeat (first | with_reducible exact hbel | with_reducible refine Below.setCell ?_ (by first | omega | (simp <;> omega)) _ | with_reducible refine Below.alloc ?_ (by first | omega | (simp <;> omega)) _ | with_reducible refine Below.drew ?_))
  have hy2 : V2.heap.size = w2.heap.size := by rw [hV]; simp
  clear hV c0 c1 f0 f1
  refine (HN3.out V2).mono ?_
  rintro e w3 ⟨A3, C3, rfl, own3, hb3⟩
  replace own1 := own1.below hb3
  replace own2 := own2.below hb3
  replace br := br.below hb3
  replace bm := bm.below hb3
  have hz3 := hb3.size
  replace hbel := hbel.trans (hb3.mono hbel.size)
  clear hb3
  have c0 := bm.at_ 4 rfl
  have c1 := bm.at_ 5 rfl
  have f0 := bm.thaw 4
  have f1 := bm.thaw 5
  go_upto_region 5 with fail
  obtain ⟨V3, hV⟩ : ∃ V, V = (w3.setCell ⟨g + 1, 4, none⟩ (.int .i64 B3)).setCell ⟨g + 1, 5, none⟩ (.slice A3 Z3.length C3) := ⟨_, rfl⟩
  try rw [← hV]
  replace own1 : Own 2 V3 u.heap.size w1.heap.size (.slice A1 Z1.length C1) Z1 := by rw [hV]; exact (own1.setCell (.inl (by simp; omega)) _).setCell (.inl (by simp; omega)) _
  replace own2 : Own 2 V3 V1.heap.size w2.heap.size (.slice A2 Z2.length C2) Z2 := by rw [hV]; exact (own2.setCell (.inl (by simp; omega)) _).setCell (.inl (by simp; omega)) _
  replace own3 : Own 2 V3 V2.heap.size w3.heap.size (.slice A3 Z3.length C3) Z3 := by rw [hV]; exact (own3.setCell (.inl (by simp; omega)) _).setCell (.inl (by simp; omega)) _
  replace br : Bx V3 g 28 #[.int .i64 0, .slice none 0 0, .int .i64 0, .slice none 0 0, .int .i64 0, .slice none 0 0, .int .i64 0] := by rw [hV]; exact (br.far (by simp) _).far (by simp) _
  replace bm : Bx V3 (g + 1) 28 #[.int .i64 B1, .slice A1 Z1.length C1, .int .i64 B2, .slice A2 Z2.length C2, .int .i64 B3, .slice A3 Z3.length C3, .int .i64 0] := by rw [hV]; exact (bm.set_ 4 _).set_ 5 _
  replace hbel : Below w.heap.size w V3 := by rw [hV]; have := HG.out; exact (by repeat (first | with_reducible exact hbel | with_reducible refine Below.setCell ?_ (by first | omega | (simp <;> omega)) _ | with_reducible refine Below.alloc ?_ (by first | omega | (simp <;> omega)) _ | with_reducible refine Below.drew ?_))
  have hy3 : V3.heap.size = w3.heap.size := by rw [hV]; simp
  clear hV c0 c1 f0 f1
  have HO : Hid (Own3 2 V3 u.heap.size w3.heap.size (.slice A1 m.z1.length C1) m.z1 (.slice A2 m.z2.length C2) m.z2 (.slice A3 m.z3.length C3) m.z3) := Lib.hid (by
    subst hm
    exact ⟨_, _, _, _, _, _, own1, own2, own3, by omega⟩)
  have bm2 : Bx V3 (g + 1) 28 #[.int .i64 m.b1, .slice A1 m.z1.length C1, .int .i64 m.b2, .slice A2 m.z2.length C2, .int .i64 m.b3, .slice A3 m.z3.length C3, .int .i64 m.p] := by subst hm; exact bm
  have hW2 := HW.out
  rw [show Z1 = m.z1 by rw [hm], show Z2 = m.z2 by rw [hm], show Z3 = m.z3 by rw [hm], show B1 = m.b1 by rw [hm], show B2 = m.b2 by rw [hm], show B3 = m.b3 by rw [hm]] at hW2
  have HV := Lib.hid (implValidMachine m A1 C1 A2 C2 A3 C3 V3 HO.out.rd hW2.1 ⟨hW2.2.1, hW2.2.2.1, hW2.2.2.2.1, by rw [hm]; exact i0⟩ (hD.below hbel))
  have HS := Lib.hid (show w.heap.size ≤ u.heap.size ∧ w3.heap.size ≤ V3.heap.size ∧ g < u.heap.size ∧ g + 1 < u.heap.size by have := HG.out; omega)
  clear own1 own2 own3 bm hW2 hm HW hz1 hz2 hz3 hy1 hy2 hy3 hD
  have c0 := bm2.at_ 0 rfl
  have c1 := bm2.at_ 1 rfl
  have c2 := bm2.at_ 2 rfl
  have c3 := bm2.at_ 3 rfl
  have c4 := bm2.at_ 4 rfl
  have c5 := bm2.at_ 5 rfl
  have c6 := bm2.at_ 6 rfl
  cases hv : macB m with
  | false =>
    have HR := Lib.hid (show nmR b s r c = (mac0, 2) by rw [nmR, HM.out, hv]; rfl)
    rw [hv] at HV
    clear hv
    go_wp2_with fail
    refine HV.out.mono ?_
    rintro e w4 ⟨rfl, hb⟩
    replace br := br.below hb
    replace hbel := hbel.trans (hb.mono hbel.size)
    clear hb c0 c1 c2 c3 c4 c5 c6
    have r0 := br.at_ 0 rfl
    have r1 := br.at_ 1 rfl
    have r2 := br.at_ 2 rfl
    have r3 := br.at_ 3 rfl
    have r4 := br.at_ 4 rfl
    have r5 := br.at_ 5 rfl
    have r6 := br.at_ 6 rfl
    have f0 := br.thaw 0
    have f1 := br.thaw 1
    have f2 := br.thaw 2
    have f3 := br.thaw 3
    have f4 := br.thaw 4
    have f5 := br.thaw 5
    have f6 := br.thaw 6
    have hl := br.lt
    go_wp2
    exact bodyPost_ret (v := .tuple #[.agg #[.int .i64 0, .slice none 0 0, .int .i64 0, .slice none 0 0, .int .i64 0, .slice none 0 0, .int .i64 0], .int .i64 2]) (by simp [results, go_sem, r0, r1, r2, r3, r4, r5, r6]) rfl (macC_err HR.out rfl (by have := HG.out; exact (by repeat (first | with_reducible exact hbel | with_reducible refine Below.setCell ?_ (by first | omega | (simp <;> omega)) _ | with_reducible refine Below.alloc ?_ (by first | omega | (simp <;> omega)) _ | with_reducible refine Below.drew ?_))))
  | true =>
    have HR := Lib.hid (show nmR b s r c = (m, 0) by rw [nmR, HM.out, hv]; rfl)
    rw [hv] at HV
    clear hv
    go_wp2_with fail
    refine HV.out.mono ?_
    rintro e w4 ⟨rfl, hb⟩
    replace br := br.below hb
    replace bm2 := bm2.below hb
    replace hbel := hbel.trans (hb.mono hbel.size)
    have HO2 := Lib.hid (HO.out.below hb)
    have HZ := Lib.hid hb.size
    clear hb c0 c1 c2 c3 c4 c5 c6
    have c0 := bm2.at_ 0 rfl
    have c1 := bm2.at_ 1 rfl
    have c2 := bm2.at_ 2 rfl
    have c3 := bm2.at_ 3 rfl
    have c4 := bm2.at_ 4 rfl
    have c5 := bm2.at_ 5 rfl
    have c6 := bm2.at_ 6 rfl
    have j0 := br.at_ 0 rfl
    have j1 := br.at_ 1 rfl
    have j2 := br.at_ 2 rfl
    have j3 := br.at_ 3 rfl
    have j4 := br.at_ 4 rfl
    have j5 := br.at_ 5 rfl
    have j6 := br.at_ 6 rfl
    have f0 := br.thaw 0
    have f1 := br.thaw 1
    have f2 := br.thaw 2
    have f3 := br.thaw 3
    have f4 := br.thaw 4
    have f5 := br.thaw 5
    have f6 := br.thaw 6
    have hl := br.lt
    have bz : Bx (((((((w4.setCell ⟨g, 0, none⟩ (.int .i64 m.b1)).setCell ⟨g, 1, none⟩ (.slice A1 m.z1.length C1)).setCell ⟨g, 2, none⟩ (.int .i64 m.b2)).setCell ⟨g, 3, none⟩ (.slice A2 m.z2.length C2)).setCell ⟨g, 4, none⟩ (.int .i64 m.b3)).setCell ⟨g, 5, none⟩ (.slice A3 m.z3.length C3)).setCell ⟨g, 6, none⟩ (.int .i64 m.p)) (g) 28 #[.int .i64 m.b1, .slice A1 m.z1.length C1, .int .i64 m.b2, .slice A2 m.z2.length C2, .int .i64 m.b3, .slice A3 m.z3.length C3, .int .i64 m.p] := bx_put7 br
    have r0 := bz.at_ 0 rfl
    have r1 := bz.at_ 1 rfl
    have r2 := bz.at_ 2 rfl
    have r3 := bz.at_ 3 rfl
    have r4 := bz.at_ 4 rfl
    have r5 := bz.at_ 5 rfl
    have r6 := bz.at_ 6 rfl
    clear bz
    go_wp2
    exact bodyPost_ret (v := .tuple #[.agg #[.int .i64 m.b1, .slice A1 m.z1.length C1, .int .i64 m.b2, .slice A2 m.z2.length C2, .int .i64 m.b3, .slice A3 m.z3.length C3, .int .i64 m.p], .int .i64 0]) (by simp [results, go_sem, r0, r1, r2, r3, r4, r5, r6]) rfl
      (macC_ok HR.out rfl (((((((HO2.out.setCell (p := ⟨g, 0, none⟩) (.inl HS.out.2.2.1) _).setCell (p := ⟨g, 1, none⟩) (.inl HS.out.2.2.1) _).setCell (p := ⟨g, 2, none⟩) (.inl HS.out.2.2.1) _).setCell (p := ⟨g, 3, none⟩) (.inl HS.out.2.2.1) _).setCell (p := ⟨g, 4, none⟩) (.inl HS.out.2.2.1) _).setCell (p := ⟨g, 5, none⟩) (.inl HS.out.2.2.1) _).setCell (p := ⟨g, 6, none⟩) (.inl HS.out.2.2.1) _) HS.out.1 (by have := HS.out; have := HZ.out; simp; omega) (by have := HG.out; exact (by repeat (first | with_reducible exact hbel | with_reducible refine Below.setCell ?_ (by first | omega | (simp <;> omega)) _ | with_reducible refine Below.alloc ?_ (by first | omega | (simp <;> omega)) _ | with_reducible refine Below.drew ?_))))
end Go.Proofs.YtlahobdopmdfmaaDoor

/- MnwS -/
namespace Go.Proofs.YtlahobdopmdfmaaDoor
open Go.RowKit

/-- A machine of its own. -/
def MacV (m : Mac) (w : World) (e : Ending) (w' : World) : Prop := ∃ (A1 : Option Addr) (C1 : Nat) (A2 : Option Addr) (C2 : Nat) (A3 : Option Addr) (C3 : Nat),
  e = .returned (.agg #[.int .i64 m.b1, .slice A1 m.z1.length C1, .int .i64 m.b2, .slice A2 m.z2.length C2, .int .i64 m.b3, .slice A3 m.z3.length C3, .int .i64 m.p]) ∧ Own3 2 w' w.heap.size w'.heap.size (.slice A1 m.z1.length C1) m.z1 (.slice A2 m.z2.length C2) m.z2 (.slice A3 m.z3.length C3) m.z3 ∧ Below w.heap.size w w'

theorem inB_dec {z lo hi : Int} : inB z lo hi = decide (lo ≤ z ∧ z ≤ hi) := by
  cases h : inB z lo hi with
  | true => exact (decide_eq_true (inB_true h)).symm
  | false => exact (decide_eq_false (by have := inB_false h; omega)).symm
theorem specl02New_at (b : Int) (n : Nat) (w : World) (hb1 : 2 ≤ b) (hb2 : b ≤ 16) (hn : n ≤ 16) :
    Calls Tryd.prog 129 #[.int .i64 b, .int .i64 n, .int .i64 0] w fun e w' => ∃ A C,
      e = .returned (.tuple #[.agg #[.int .i64 b, .slice A (digsR b n 0).length C], .int .i64 (leftR b n 0)]) ∧ Own 2 w' w.heap.size w'.heap.size (.slice A (digsR b n 0).length C) (digsR b n 0) ∧ Below w.heap.size w w' := by
  have := specl02New_any b 0 n w hb1 hb2 hn (by omega) (by omega)
  rw [digsR_len]
  exact this

set_option maxHeartbeats 4000000 in
set_option maxRecDepth 100000 in
theorem l10New_any (b : Int) (n1 n2 n3 : Nat) (w : World) (b0 : 2 ≤ b) (b1 : b ≤ 16) (h1 : n1 ≤ 16) (h2 : n2 ≤ 16) (h3 : n3 ≤ 16) :
    Calls Tryd.prog 135 #[.int .i64 b, .int .i64 n1, .int .i64 n2, .int .i64 n3] w (MacV ⟨b, digsR b n1 0, b, digsR b n2 0, b, digsR b n3 0, 0⟩ w) := by
  have R := Tryd.results135
  have HN1 := Lib.hid (fun v => specl02New_at b n1 v b0 b1 h1)
  have HN2 := Lib.hid (fun v => specl02New_at b n2 v b0 b1 h2)
  have HN3 := Lib.hid (fun v => specl02New_at b n3 v b0 b1 h3)
  obtain ⟨Z1, hZ1⟩ : ∃ Z, Z = digsR b n1 0 := ⟨_, rfl⟩
  obtain ⟨Z2, hZ2⟩ : ∃ Z, Z = digsR b n2 0 := ⟨_, rfl⟩
  obtain ⟨Z3, hZ3⟩ : ∃ Z, Z = digsR b n3 0 := ⟨_, rfl⟩
  rw [← hZ1] at HN1 ⊢
  rw [← hZ2] at HN2 ⊢
  rw [← hZ3] at HN3 ⊢
  obtain ⟨g, hg⟩ : ∃ g, g = w.heap.size := ⟨_, rfl⟩
  obtain ⟨u, hu⟩ : ∃ u, u = w.alloc (.cells #[.int .i64 0, .slice none 0 0, .int .i64 0, .slice none 0 0, .int .i64 0, .slice none 0 0, .int .i64 0] 28) := ⟨_, rfl⟩
  have hbel : Below w.heap.size w u := by rw [hu]; exact (by repeat (first | exact Below.refl _ _ | refine Below.setCell ?_ (by first | omega | (simp <;> omega)) _ | refine Below.alloc ?_ (by first | omega | (simp <;> omega)) _ | refine Below.drew ?_))
  have br : Bx u g 28 #[.int .i64 0, .slice none 0 0, .int .i64 0, .slice none 0 0, .int .i64 0, .slice none 0 0, .int .i64 0] := by rw [hu, hg]; exact Bx.new _ _ _
  have hgu : g < u.heap.size := br.lt
  have HG := Lib.hid hg
  have HU := Lib.hid hu
  clear hu hZ1 hZ2 hZ3 b0 b1 h1 h2 h3
  go_enter Tryd.func135, Tryd.ntmps135
  go_wp2_with fail
  rw [← HU.out, ← hg]
  clear hg
  refine (HN1.out u).mono ?_
  rintro e w1 ⟨A1, C1, rfl, own1, hb⟩
  replace br := br.below hb
  have hz1 := hb.size
  replace hbel := hbel.trans (hb.mono hbel.size)
  clear hb
  go_wp2_with fail
  obtain ⟨g1, hg1⟩ : ∃ g, g = w1.heap.size := ⟨_, rfl⟩
  obtain ⟨V1, hV⟩ : ∃ V, V = w1.alloc (.cells #[.int .i64 b, .slice A1 Z1.length C1] 26) := ⟨_, rfl⟩
  try rw [← hg1, ← hV]
  have bx1 : Bx V1 g1 26 #[.int .i64 b, .slice A1 Z1.length C1] := by rw [hV, hg1]; exact Bx.new _ _ _
  have hb : Below w1.heap.size w1 V1 := by rw [hV]; exact (Below.refl _ _).alloc (Nat.le_refl _) _
  have hy1 := hb.size
  have hx1 : g1 < V1.heap.size := bx1.lt
  replace own1 := own1.below hb
  replace br := br.below hb
  replace hbel := hbel.trans (hb.mono hbel.size)
  clear hb hV hg1
  refine (HN2.out V1).mono ?_
  rintro e w2 ⟨A2, C2, rfl, own2, hb⟩
  replace own1 := own1.below hb
  replace bx1 := bx1.below hb
  replace br := br.below hb
  have hz2 := hb.size
  replace hbel := hbel.trans (hb.mono hbel.size)
  clear hb
  go_wp2_with fail
  obtain ⟨g2, hg2⟩ : ∃ g, g = w2.heap.size := ⟨_, rfl⟩
  obtain ⟨V2, hV⟩ : ∃ V, V = w2.alloc (.cells #[.int .i64 b, .slice A2 Z2.length C2] 26) := ⟨_, rfl⟩
  try rw [← hg2, ← hV]
  have bx2 : Bx V2 g2 26 #[.int .i64 b, .slice A2 Z2.length C2] := by rw [hV, hg2]; exact Bx.new _ _ _
  have hb : Below w2.heap.size w2 V2 := by rw [hV]; exact (Below.refl _ _).alloc (Nat.le_refl _) _
  have hy2 := hb.size
  have hx2 : g2 < V2.heap.size := bx2.lt
  replace own1 := own1.below hb
  replace own2 := own2.below hb
  replace bx1 := bx1.below hb
  replace br := br.below hb
  replace hbel := hbel.trans (hb.mono hbel.size)
  clear hb hV hg2
  refine (HN3.out V2).mono ?_
  rintro e w3 ⟨A3, C3, rfl, own3, hb⟩
  replace own1 := own1.below hb
  replace bx1 := bx1.below hb
  replace own2 := own2.below hb
  replace bx2 := bx2.below hb
  replace br := br.below hb
  have hz3 := hb.size
  replace hbel := hbel.trans (hb.mono hbel.size)
  clear hb
  go_upto_region 4 with fail
  obtain ⟨g3, hg3⟩ : ∃ g, g = w3.heap.size := ⟨_, rfl⟩
  obtain ⟨V3, hV⟩ : ∃ V, V = w3.alloc (.cells #[.int .i64 b, .slice A3 Z3.length C3] 26) := ⟨_, rfl⟩
  try rw [← hg3, ← hV]
  have bx3 : Bx V3 g3 26 #[.int .i64 b, .slice A3 Z3.length C3] := by rw [hV, hg3]; exact Bx.new _ _ _
  have hb : Below w3.heap.size w3 V3 := by rw [hV]; exact (Below.refl _ _).alloc (Nat.le_refl _) _
  have hy3 := hb.size
  have hx3 : g3 < V3.heap.size := bx3.lt
  replace own1 := own1.below hb
  replace own2 := own2.below hb
  replace own3 := own3.below hb
  replace bx1 := bx1.below hb
  replace bx2 := bx2.below hb
  replace br := br.below hb
  replace hbel := hbel.trans (hb.mono hbel.size)
  clear hb hV hg3
  have HO : Hid (Own3 2 V3 u.heap.size w3.heap.size (.slice A1 Z1.length C1) Z1 (.slice A2 Z2.length C2) Z2 (.slice A3 Z3.length C3) Z3) := Lib.hid ⟨_, _, _, _, _, _, own1, own2, own3, by omega⟩
  have HS := Lib.hid (show w.heap.size ≤ u.heap.size ∧ w3.heap.size ≤ V3.heap.size ∧ g < u.heap.size by have := HG.out; omega)
  have d0 := bx1.at_ 0 rfl
  have d1 := bx1.at_ 1 rfl
  have d2 := bx2.at_ 0 rfl
  have d3 := bx2.at_ 1 rfl
  have d4 := bx3.at_ 0 rfl
  have d5 := bx3.at_ 1 rfl
  clear own1 own2 own3 bx1 bx2 bx3 hz1 hz2 hz3 hy1 hy2 hy3 hx1 hx2 hx3
  have j0 := br.at_ 0 rfl
  have j1 := br.at_ 1 rfl
  have j2 := br.at_ 2 rfl
  have j3 := br.at_ 3 rfl
  have j4 := br.at_ 4 rfl
  have j5 := br.at_ 5 rfl
  have j6 := br.at_ 6 rfl
  have f0 := br.thaw 0
  have f1 := br.thaw 1
  have f2 := br.thaw 2
  have f3 := br.thaw 3
  have f4 := br.thaw 4
  have f5 := br.thaw 5
  have f6 := br.thaw 6
  have hl := br.lt
  have bz : Bx (((((((V3.setCell ⟨g, 0, none⟩ (.int .i64 b)).setCell ⟨g, 1, none⟩ (.slice A1 Z1.length C1)).setCell ⟨g, 2, none⟩ (.int .i64 b)).setCell ⟨g, 3, none⟩ (.slice A2 Z2.length C2)).setCell ⟨g, 4, none⟩ (.int .i64 b)).setCell ⟨g, 5, none⟩ (.slice A3 Z3.length C3)).setCell ⟨g, 6, none⟩ (.int .i64 0)) (g) 28 #[.int .i64 b, .slice A1 Z1.length C1, .int .i64 b, .slice A2 Z2.length C2, .int .i64 b, .slice A3 Z3.length C3, .int .i64 0] := bx_put7 br
  have r0 := bz.at_ 0 rfl
  have r1 := bz.at_ 1 rfl
  have r2 := bz.at_ 2 rfl
  have r3 := bz.at_ 3 rfl
  have r4 := bz.at_ 4 rfl
  have r5 := bz.at_ 5 rfl
  have r6 := bz.at_ 6 rfl
  clear bz
  go_wp2
  exact bodyPost_ret (v := .agg #[.int .i64 b, .slice A1 Z1.length C1, .int .i64 b, .slice A2 Z2.length C2, .int .i64 b, .slice A3 Z3.length C3, .int .i64 0]) (by simp [results, go_sem, r0, r1, r2, r3, r4, r5, r6]) rfl
    ⟨A1, C1, A2, C2, A3, C3, rfl, (show Own3 2 _ u.heap.size w3.heap.size (.slice A1 Z1.length C1) Z1 (.slice A2 Z2.length C2) Z2 (.slice A3 Z3.length C3) Z3 from (((((((HO.out.setCell (p := ⟨g, 0, none⟩) (.inl HS.out.2.2) _).setCell (p := ⟨g, 1, none⟩) (.inl HS.out.2.2) _).setCell (p := ⟨g, 2, none⟩) (.inl HS.out.2.2) _).setCell (p := ⟨g, 3, none⟩) (.inl HS.out.2.2) _).setCell (p := ⟨g, 4, none⟩) (.inl HS.out.2.2) _).setCell (p := ⟨g, 5, none⟩) (.inl HS.out.2.2) _).setCell (p := ⟨g, 6, none⟩) (.inl HS.out.2.2) _)).wide HS.out.1 (by have := HS.out; simp; omega), by have := HG.out; exact (by repeat (first | with_reducible exact hbel | with_reducible refine Below.setCell ?_ (by first | omega | (simp <;> omega)) _ | with_reducible refine Below.alloc ?_ (by first | omega | (simp <;> omega)) _ | with_reducible refine Below.drew ?_))⟩

set_option maxHeartbeats 4000000 in
set_option maxRecDepth 100000 in
theorem specNewMachine (b s r c : Int) (w : World) (_ : I64 b) (_ : I64 s) (_ : I64 r) (_ : I64 c) :
    Calls Tryd.prog 58 #[.int .i64 b, .int .i64 s, .int .i64 r, .int .i64 c] w (MacC (nmR b s r c) w) := by
  have R := Tryd.results58
  obtain ⟨q0, h0⟩ : ∃ q, baseB b = q := ⟨_, rfl⟩
  obtain ⟨q1, h1⟩ : ∃ q, inB s 1 16 = q := ⟨_, rfl⟩
  obtain ⟨q2, h2⟩ : ∃ q, inB r 1 16 = q := ⟨_, rfl⟩
  obtain ⟨q3, h3⟩ : ∃ q, inB c 1 16 = q := ⟨_, rfl⟩
  have H0 := Lib.hid (fun v => l02Base_any b v)
  have H1 := Lib.hid (fun v => l07Size_at s v h1)
  have H2 := Lib.hid (fun v => l07Size_at r v h2)
  have H3 := Lib.hid (fun v => l07Size_at c v h3)
  rw [h0] at H0
  have HB := Lib.hid (show nmB b s r c = (q0 && (q1 && (q2 && q3))) by
    subst h0 h1 h2 h3
    unfold nmB baseB
    rw [inB_dec, inB_dec, inB_dec, Bool.eq_iff_iff]
    simp only [decide_eq_true_eq, Bool.and_eq_true]
    omega)
  obtain ⟨g, hg⟩ : ∃ g, g = w.heap.size := ⟨_, rfl⟩
  obtain ⟨u, hu⟩ : ∃ u, u = w.alloc (.cells #[.int .i64 0, .slice none 0 0, .int .i64 0, .slice none 0 0, .int .i64 0, .slice none 0 0, .int .i64 0] 28) := ⟨_, rfl⟩
  have hbel : Below w.heap.size w u := by rw [hu]; exact (by repeat (first | exact Below.refl _ _ | refine Below.setCell ?_ (by first | omega | (simp <;> omega)) _ | refine Below.alloc ?_ (by first | omega | (simp <;> omega)) _ | refine Below.drew ?_))
  have br : Bx u g 28 #[.int .i64 0, .slice none 0 0, .int .i64 0, .slice none 0 0, .int .i64 0, .slice none 0 0, .int .i64 0] := by rw [hu, hg]; exact Bx.new _ _ _
  have hgu : g < u.heap.size := br.lt
  have HG := Lib.hid hg
  have HU := Lib.hid hu
  clear hu hg h1 h2 h3
  cases hq : (q0 && (q1 && (q2 && q3))) with
  | false =>
    have HR := Lib.hid (show nmR b s r c = (mac0, 2) by rw [nmR, rawM_bad (by rw [HB.out, hq])]; rfl)
    clear HB h0
    cases q0
    rotate_left
    cases q1
    rotate_left
    cases q2
    rotate_left
    cases q3
    rotate_left
    · cases hq
    all_goals
      clear hq
      go_enter Tryd.func58, Tryd.ntmps58
      go_wp2_with fail
      rw [← HU.out, ← HG.out]
      have r0 := br.at_ 0 rfl
      have r1 := br.at_ 1 rfl
      have r2 := br.at_ 2 rfl
      have r3 := br.at_ 3 rfl
      have r4 := br.at_ 4 rfl
      have r5 := br.at_ 5 rfl
      have r6 := br.at_ 6 rfl
      have f0 := br.thaw 0
      have f1 := br.thaw 1
      have f2 := br.thaw 2
      have f3 := br.thaw 3
      have f4 := br.thaw 4
      have f5 := br.thaw 5
      have f6 := br.thaw 6
      have hl := br.lt
      go_wp2_with (first | (go_at_call 133; with_reducible refine (H0.out _).mono ?_; rintro e w1 ⟨rfl, hw⟩; subst w1) | (go_at_call 134; first | (with_reducible refine (H1.out _).mono ?_; rintro e w1 ⟨rfl, hw⟩; subst w1) | (with_reducible refine (H2.out _).mono ?_; rintro e w1 ⟨rfl, hw⟩; subst w1) | (with_reducible refine (H3.out _).mono ?_; rintro e w1 ⟨rfl, hw⟩; subst w1)))
      exact bodyPost_ret (v := .tuple #[.agg #[.int .i64 0, .slice none 0 0, .int .i64 0, .slice none 0 0, .int .i64 0, .slice none 0 0, .int .i64 0], .int .i64 2]) (by simp [results, go_sem, r0, r1, r2, r3, r4, r5, r6]) rfl (macC_err HR.out rfl (by have := HG.out; exact (by repeat (first | with_reducible exact hbel | with_reducible refine Below.setCell ?_ (by first | omega | (simp <;> omega)) _ | with_reducible refine Below.alloc ?_ (by first | omega | (simp <;> omega)) _ | with_reducible refine Below.drew ?_))))
  | true =>
    obtain ⟨rfl, rfl, rfl, rfl⟩ : q0 = true ∧ q1 = true ∧ q2 = true ∧ q3 = true := by revert hq; cases q0 <;> cases q1 <;> cases q2 <;> cases q3 <;> simp
    have hB : nmB b s r c = true := HB.out
    have HRw := Lib.hid (rawM_good hB)
    simp only [nmB, decide_eq_true_eq] at hB
    obtain ⟨b0, b1, s0, s1, r0, r1, c0, c1⟩ := hB
    obtain ⟨n1, rfl⟩ := Int.eq_ofNat_of_zero_le (show 0 ≤ s by omega)
    obtain ⟨n2, rfl⟩ := Int.eq_ofNat_of_zero_le (show 0 ≤ r by omega)
    obtain ⟨n3, rfl⟩ := Int.eq_ofNat_of_zero_le (show 0 ≤ c by omega)
    have HN := Lib.hid (fun v => l10New_any b n1 n2 n3 v b0 b1 (by omega) (by omega) (by omega))
    simp only [Int.toNat_natCast] at HRw
    rw [← HRw.out] at HN
    obtain ⟨m, hm⟩ : ∃ m, m = rawM b n1 n2 n3 := ⟨_, rfl⟩
    rw [← hm] at HN
    have HM := Lib.hid hm
    clear hm hq h0 HB HRw b0 b1 s0 s1 r0 r1 c0 c1
    cases hv : macB m
    all_goals
      go_enter Tryd.func58, Tryd.ntmps58
      go_wp2_with fail
      rw [← HU.out, ← HG.out]
      go_wp2_with (first | (go_at_call 133; with_reducible refine (H0.out _).mono ?_; rintro e w1 ⟨rfl, hw⟩; subst w1) | (go_at_call 134; first | (with_reducible refine (H1.out _).mono ?_; rintro e w1 ⟨rfl, hw⟩; subst w1) | (with_reducible refine (H2.out _).mono ?_; rintro e w1 ⟨rfl, hw⟩; subst w1) | (with_reducible refine (H3.out _).mono ?_; rintro e w1 ⟨rfl, hw⟩; subst w1)))
      refine (HN.out u).mono ?_
      rintro e w1 ⟨A1, C1, A2, C2, A3, C3, rfl, own, hb⟩
      have hz1 := hb.size
      replace br := br.below hb
      replace hbel := hbel.trans (hb.mono hbel.size)
      clear hb
      go_upto_region 4 with fail
      obtain ⟨q, hq⟩ : ∃ q, q = w1.heap.size := ⟨_, rfl⟩
      obtain ⟨V, hV⟩ : ∃ V, V = w1.alloc (.cells #[.int .i64 m.b1, .slice A1 m.z1.length C1, .int .i64 m.b2, .slice A2 m.z2.length C2, .int .i64 m.b3, .slice A3 m.z3.length C3, .int .i64 m.p] 28) := ⟨_, rfl⟩
      try rw [← hq, ← hV]
      have bq : Bx V q 28 #[.int .i64 m.b1, .slice A1 m.z1.length C1, .int .i64 m.b2, .slice A2 m.z2.length C2, .int .i64 m.b3, .slice A3 m.z3.length C3, .int .i64 m.p] := by rw [hV, hq]; exact Bx.new _ _ _
      have hb : Below w1.heap.size w1 V := by rw [hV]; exact (Below.refl _ _).alloc (Nat.le_refl _) _
      have hz2 := hb.size
      replace br := br.below hb
      replace own := own.below hb
      replace hbel := hbel.trans (hb.mono hbel.size)
      clear hb hV hq
      have HK := Lib.hid (l10Ok_any q m A1 C1 A2 C2 A3 C3 V own.rd bq)
      have HO := Lib.hid own
      rw [hv] at HK
      clear own
      go_wp2_with fail
      refine HK.out.mono ?_
      rintro e w2 ⟨rfl, hb⟩
      have hz3 := hb.size
      replace br := br.below hb
      replace bq := bq.below hb
      replace hbel := hbel.trans (hb.mono hbel.size)
      replace HO := Lib.hid (HO.out.below hb)
      have HS := Lib.hid (show w.heap.size ≤ u.heap.size ∧ w1.heap.size ≤ w2.heap.size ∧ g < u.heap.size by have := HG.out; omega)
      clear hb hz1 hz2 hz3 hgu
      first
      | (have HR := Lib.hid (show nmR b n1 n2 n3 = (mac0, 2) by rw [nmR, ← HM.out, if_neg (by rw [hv]; simp)])
         clear hv
         have r0 := br.at_ 0 rfl
         have r1 := br.at_ 1 rfl
         have r2 := br.at_ 2 rfl
         have r3 := br.at_ 3 rfl
         have r4 := br.at_ 4 rfl
         have r5 := br.at_ 5 rfl
         have r6 := br.at_ 6 rfl
         have f0 := br.thaw 0
         have f1 := br.thaw 1
         have f2 := br.thaw 2
         have f3 := br.thaw 3
         have f4 := br.thaw 4
         have f5 := br.thaw 5
         have f6 := br.thaw 6
         have hl := br.lt
         go_wp2
         exact bodyPost_ret (v := .tuple #[.agg #[.int .i64 0, .slice none 0 0, .int .i64 0, .slice none 0 0, .int .i64 0, .slice none 0 0, .int .i64 0], .int .i64 2]) (by simp [results, go_sem, r0, r1, r2, r3, r4, r5, r6]) rfl (macC_err HR.out rfl (by have := HG.out; exact (by repeat (first | with_reducible exact hbel | with_reducible refine Below.setCell ?_ (by first | omega | (simp <;> omega)) _ | with_reducible refine Below.alloc ?_ (by first | omega | (simp <;> omega)) _ | with_reducible refine Below.drew ?_)))))
      | (have HR := Lib.hid (show nmR b n1 n2 n3 = (m, 0) by rw [nmR, ← HM.out, if_pos hv])
         clear hv
         have c0 := bq.at_ 0 rfl
         have c1 := bq.at_ 1 rfl
         have c2 := bq.at_ 2 rfl
         have c3 := bq.at_ 3 rfl
         have c4 := bq.at_ 4 rfl
         have c5 := bq.at_ 5 rfl
         have c6 := bq.at_ 6 rfl
         have j0 := br.at_ 0 rfl
         have j1 := br.at_ 1 rfl
         have j2 := br.at_ 2 rfl
         have j3 := br.at_ 3 rfl
         have j4 := br.at_ 4 rfl
         have j5 := br.at_ 5 rfl
         have j6 := br.at_ 6 rfl
         have f0 := br.thaw 0
         have f1 := br.thaw 1
         have f2 := br.thaw 2
         have f3 := br.thaw 3
         have f4 := br.thaw 4
         have f5 := br.thaw 5
         have f6 := br.thaw 6
         have hl := br.lt
         have bz : Bx (((((((w2.setCell ⟨g, 0, none⟩ (.int .i64 m.b1)).setCell ⟨g, 1, none⟩ (.slice A1 m.z1.length C1)).setCell ⟨g, 2, none⟩ (.int .i64 m.b2)).setCell ⟨g, 3, none⟩ (.slice A2 m.z2.length C2)).setCell ⟨g, 4, none⟩ (.int .i64 m.b3)).setCell ⟨g, 5, none⟩ (.slice A3 m.z3.length C3)).setCell ⟨g, 6, none⟩ (.int .i64 m.p)) (g) 28 #[.int .i64 m.b1, .slice A1 m.z1.length C1, .int .i64 m.b2, .slice A2 m.z2.length C2, .int .i64 m.b3, .slice A3 m.z3.length C3, .int .i64 m.p] := bx_put7 br
         have r0 := bz.at_ 0 rfl
         have r1 := bz.at_ 1 rfl
         have r2 := bz.at_ 2 rfl
         have r3 := bz.at_ 3 rfl
         have r4 := bz.at_ 4 rfl
         have r5 := bz.at_ 5 rfl
         have r6 := bz.at_ 6 rfl
         clear bz
         go_wp2
         exact bodyPost_ret (v := .tuple #[.agg #[.int .i64 m.b1, .slice A1 m.z1.length C1, .int .i64 m.b2, .slice A2 m.z2.length C2, .int .i64 m.b3, .slice A3 m.z3.length C3, .int .i64 m.p], .int .i64 0]) (by simp [results, go_sem, r0, r1, r2, r3, r4, r5, r6]) rfl
           (macC_ok HR.out rfl (((((((HO.out.setCell (p := ⟨g, 0, none⟩) (.inl HS.out.2.2) _).setCell (p := ⟨g, 1, none⟩) (.inl HS.out.2.2) _).setCell (p := ⟨g, 2, none⟩) (.inl HS.out.2.2) _).setCell (p := ⟨g, 3, none⟩) (.inl HS.out.2.2) _).setCell (p := ⟨g, 4, none⟩) (.inl HS.out.2.2) _).setCell (p := ⟨g, 5, none⟩) (.inl HS.out.2.2) _).setCell (p := ⟨g, 6, none⟩) (.inl HS.out.2.2) _) HS.out.1 (by have := HS.out; simp; omega) (by have := HG.out; exact (by repeat (first | with_reducible exact hbel | with_reducible refine Below.setCell ?_ (by first | omega | (simp <;> omega)) _ | with_reducible refine Below.alloc ?_ (by first | omega | (simp <;> omega)) _ | with_reducible refine Below.drew ?_)))))
end Go.Proofs.YtlahobdopmdfmaaDoor

/- McpI -/
namespace Go.Proofs.YtlahobdopmdfmaaDoor
open Go.RowKit

/-- A machine of its own. -/
def MacVI (m : Mac) (w : World) (e : Ending) (w' : World) : Prop := ∃ (A1 : Option Addr) (C1 : Nat) (A2 : Option Addr) (C2 : Nat) (A3 : Option Addr) (C3 : Nat),
  e = .returned (.agg #[.int .i64 m.b1, .slice A1 m.z1.length C1, .int .i64 m.b2, .slice A2 m.z2.length C2, .int .i64 m.b3, .slice A3 m.z3.length C3, .int .i64 m.p]) ∧ Own3 2 w' w.heap.size w'.heap.size (.slice A1 m.z1.length C1) m.z1 (.slice A2 m.z2.length C2) m.z2 (.slice A3 m.z3.length C3) m.z3 ∧ Below w.heap.size w w'

set_option maxRecDepth 100000 in
set_option maxHeartbeats 4000000 in
theorem copied_any (m : Mac) (A1 : Option Addr) (C1 : Nat) (A2 : Option Addr) (C2 : Nat) (A3 : Option Addr) (C3 : Nat) (w : World) (h : Rd3 w A1 m.z1 A2 m.z2 A3 m.z3) (n1 : 0 < m.z1.length) (n2 : 0 < m.z2.length) (n3 : 0 < m.z3.length) :
    Calls Tryd.prog 140 #[.agg #[.int .i64 m.b1, .slice A1 m.z1.length C1, .int .i64 m.b2, .slice A2 m.z2.length C2, .int .i64 m.b3, .slice A3 m.z3.length C3, .int .i64 m.p]] w (MacVI m w) := by
  have R := Tryd.results140
  obtain ⟨g, hg⟩ : ∃ g, g = w.heap.size := ⟨_, rfl⟩
  obtain ⟨u, hu⟩ : ∃ u, u = (w.alloc (.cells #[.int .i64 m.b1, .slice A1 m.z1.length C1, .int .i64 m.b2, .slice A2 m.z2.length C2, .int .i64 m.b3, .slice A3 m.z3.length C3, .int .i64 m.p] 28)).alloc (.cells #[.int .i64 0, .slice none 0 0, .int .i64 0, .slice none 0 0, .int .i64 0, .slice none 0 0, .int .i64 0] 28) := ⟨_, rfl⟩
  have hbel : Below w.heap.size w u := by rw [hu]; exact (by repeat (first | exact Below.refl _ _ | refine Below.setCell ?_ (by first | omega | (simp <;> omega)) _ | refine Below.alloc ?_ (by first | omega | (simp <;> omega)) _ | refine Below.drew ?_))
  have bm : Bx u g 28 #[.int .i64 m.b1, .slice A1 m.z1.length C1, .int .i64 m.b2, .slice A2 m.z2.length C2, .int .i64 m.b3, .slice A3 m.z3.length C3, .int .i64 m.p] := by rw [hu, hg]; exact (Bx.new _ _ _).alloc _
  have br : Bx u (g + 1) 28 #[.int .i64 0, .slice none 0 0, .int .i64 0, .slice none 0 0, .int .i64 0, .slice none 0 0, .int .i64 0] := by rw [hu, hg]; simpa using Bx.new (w.alloc (.cells #[.int .i64 m.b1, .slice A1 m.z1.length C1, .int .i64 m.b2, .slice A2 m.z2.length C2, .int .i64 m.b3, .slice A3 m.z3.length C3, .int .i64 m.p] 28)) #[.int .i64 0, .slice none 0 0, .int .i64 0, .slice none 0 0, .int .i64 0, .slice none 0 0, .int .i64 0] 28
  have hgu : g + 1 < u.heap.size := br.lt
  have HC1 := Lib.hid (fun (v : World) (hb : Below w.heap.size w v) => clone_any A1 C1 m.z1 v (h.x.below hb) n1)
  have HC2 := Lib.hid (fun (v : World) (hb : Below w.heap.size w v) => clone_any A2 C2 m.z2 v (h.y.below hb) n2)
  have HC3 := Lib.hid (fun (v : World) (hb : Below w.heap.size w v) => clone_any A3 C3 m.z3 v (h.z.below hb) n3)
  have HG := Lib.hid hg
  have HU := Lib.hid hu
  clear hu h n1 n2 n3
  go_enter Tryd.func140, Tryd.ntmps140
  go_wp2_with fail
  rw [← HU.out, ← hg]
  clear hg
  refine (HC1.out u hbel).mono ?_
  rintro e w1 ⟨D1, E1, rfl, own1, hb1⟩
  replace br := br.below hb1
  replace bm := bm.below hb1
  have hz1 := hb1.size
  replace hbel := hbel.trans (hb1.mono hbel.size)
  clear hb1
  have c1 := bm.at_ 1 rfl
  have f1 := bm.thaw 1
  have c2 := bm.at_ 3 rfl
  go_wp2_with fail
  obtain ⟨V1, hV⟩ : ∃ V, V = w1.setCell ⟨g, 1, none⟩ (.slice D1 m.z1.length E1) := ⟨_, rfl⟩
  try rw [← hV]
  replace own1 : Own 2 V1 u.heap.size w1.heap.size (.slice D1 m.z1.length E1) m.z1 := by rw [hV]; exact own1.setCell (.inl (by simp; omega)) _
  replace br : Bx V1 (g + 1) 28 #[.int .i64 0, .slice none 0 0, .int .i64 0, .slice none 0 0, .int .i64 0, .slice none 0 0, .int .i64 0] := by rw [hV]; exact br.far (by simp) _
  replace bm : Bx V1 g 28 #[.int .i64 m.b1, .slice D1 m.z1.length E1, .int .i64 m.b2, .slice A2 m.z2.length C2, .int .i64 m.b3, .slice A3 m.z3.length C3, .int .i64 m.p] := by rw [hV]; exact bm.set_ 1 _
  replace hbel : Below w.heap.size w V1 := by rw [hV]; have := HG.out; exact (by repeat (first | with_reducible exact hbel | with_reducible refine Below.setCell ?_ (by first | omega | (simp <;> omega)) _ | with_reducible refine Below.alloc ?_ (by first | omega | (simp <;> omega)) _ | with_reducible refine Below.drew ?_))
  have hy1 : V1.heap.size = w1.heap.size := by rw [hV]; simp
  clear hV c1 f1 c2
  refine (HC2.out V1 hbel).mono ?_
  rintro e w2 ⟨D2, E2, rfl, own2, hb2⟩
  replace own1 := own1.below hb2
  replace br := br.below hb2
  replace bm := bm.below hb2
  have hz2 := hb2.size
  replace hbel := hbel.trans (hb2.mono hbel.size)
  clear hb2
  have c1 := bm.at_ 3 rfl
  have f1 := bm.thaw 3
  have c2 := bm.at_ 5 rfl
  go_wp2_with fail
  obtain ⟨V2, hV⟩ : ∃ V, V = w2.setCell ⟨g, 3, none⟩ (.slice D2 m.z2.length E2) := ⟨_, rfl⟩
  try rw [← hV]
  replace own1 : Own 2 V2 u.heap.size w1.heap.size (.slice D1 m.z1.length E1) m.z1 := by rw [hV]; exact own1.setCell (.inl (by simp; omega)) _
  replace own2 : Own 2 V2 V1.heap.size w2.heap.size (.slice D2 m.z2.length E2) m.z2 := by rw [hV]; exact own2.setCell (.inl (by simp; omega)) _
  replace br : Bx V2 (g + 1) 28 #[.int .i64 0, .slice none 0 0, .int .i64 0, .slice none 0 0, .int .i64 0, .slice none 0 0, .int .i64 0] := by rw [hV]; exact br.far (by simp) _
  replace bm : Bx V2 g 28 #[.int .i64 m.b1, .slice D1 m.z1.length E1, .int .i64 m.b2, .slice D2 m.z2.length E2, .int .i64 m.b3, .slice A3 m.z3.length C3, .int .i64 m.p] := by rw [hV]; exact bm.set_ 3 _
  replace hbel : Below w.heap.size w V2 := by rw [hV]; have := HG.out; exact (by repeat (first | with_reducible exact hbel | with_reducible refine Below.setCell ?_ (by first | omega | (simp <;> omega)) _ | with_reducible refine Below.alloc ?_ (by first | omega | (simp <;> omega)) _ | with_reducible refine Below.drew ?_))
  have hy2 : V2.heap.size = w2.heap.size := by rw [hV]; simp
  clear hV c1 f1 c2
  refine (HC3.out V2 hbel).mono ?_
  rintro e w3 ⟨D3, E3, rfl, own3, hb3⟩
  replace own1 := own1.below hb3
  replace own2 := own2.below hb3
  replace br := br.below hb3
  replace bm := bm.below hb3
  have hz3 := hb3.size
  replace hbel := hbel.trans (hb3.mono hbel.size)
  clear hb3
  have c1 := bm.at_ 5 rfl
  have f1 := bm.thaw 5
  go_upto_region 4 with fail
  obtain ⟨V3, hV⟩ : ∃ V, V = w3.setCell ⟨g, 5, none⟩ (.slice D3 m.z3.length E3) := ⟨_, rfl⟩
  try rw [← hV]
  replace own1 : Own 2 V3 u.heap.size w1.heap.size (.slice D1 m.z1.length E1) m.z1 := by rw [hV]; exact own1.setCell (.inl (by simp; omega)) _
  replace own2 : Own 2 V3 V1.heap.size w2.heap.size (.slice D2 m.z2.length E2) m.z2 := by rw [hV]; exact own2.setCell (.inl (by simp; omega)) _
  replace own3 : Own 2 V3 V2.heap.size w3.heap.size (.slice D3 m.z3.length E3) m.z3 := by rw [hV]; exact own3.setCell (.inl (by simp; omega)) _
  replace br : Bx V3 (g + 1) 28 #[.int .i64 0, .slice none 0 0, .int .i64 0, .slice none 0 0, .int .i64 0, .slice none 0 0, .int .i64 0] := by rw [hV]; exact br.far (by simp) _
  replace bm : Bx V3 g 28 #[.int .i64 m.b1, .slice D1 m.z1.length E1, .int .i64 m.b2, .slice D2 m.z2.length E2, .int .i64 m.b3, .slice D3 m.z3.length E3, .int .i64 m.p] := by rw [hV]; exact bm.set_ 5 _
  replace hbel : Below w.heap.size w V3 := by rw [hV]; have := HG.out; exact (by repeat (first | with_reducible exact hbel | with_reducible refine Below.setCell ?_ (by first | omega | (simp <;> omega)) _ | with_reducible refine Below.alloc ?_ (by first | omega | (simp <;> omega)) _ | with_reducible refine Below.drew ?_))
  have hy3 : V3.heap.size = w3.heap.size := by rw [hV]; simp
  clear hV c1 f1
  have HO : Hid (Own3 2 V3 u.heap.size w3.heap.size (.slice D1 m.z1.length E1) m.z1 (.slice D2 m.z2.length E2) m.z2 (.slice D3 m.z3.length E3) m.z3) := Lib.hid ⟨_, _, _, _, _, _, own1, own2, own3, by omega⟩
  have HS := Lib.hid (show w.heap.size ≤ u.heap.size ∧ w3.heap.size ≤ V3.heap.size ∧ g + 1 < u.heap.size by have := HG.out; omega)
  clear own1 own2 own3 hz1 hz2 hz3 hy1 hy2 hy3 HC1 HC2 HC3
  have c0 := bm.at_ 0 rfl
  have c1 := bm.at_ 1 rfl
  have c2 := bm.at_ 2 rfl
  have c3 := bm.at_ 3 rfl
  have c4 := bm.at_ 4 rfl
  have c5 := bm.at_ 5 rfl
  have c6 := bm.at_ 6 rfl
  have j0 := br.at_ 0 rfl
  have j1 := br.at_ 1 rfl
  have j2 := br.at_ 2 rfl
  have j3 := br.at_ 3 rfl
  have j4 := br.at_ 4 rfl
  have j5 := br.at_ 5 rfl
  have j6 := br.at_ 6 rfl
  have f0 := br.thaw 0
  have f1 := br.thaw 1
  have f2 := br.thaw 2
  have f3 := br.thaw 3
  have f4 := br.thaw 4
  have f5 := br.thaw 5
  have f6 := br.thaw 6
  have hl := br.lt
  have bz : Bx (((((((V3.setCell ⟨g + 1, 0, none⟩ (.int .i64 m.b1)).setCell ⟨g + 1, 1, none⟩ (.slice D1 m.z1.length E1)).setCell ⟨g + 1, 2, none⟩ (.int .i64 m.b2)).setCell ⟨g + 1, 3, none⟩ (.slice D2 m.z2.length E2)).setCell ⟨g + 1, 4, none⟩ (.int .i64 m.b3)).setCell ⟨g + 1, 5, none⟩ (.slice D3 m.z3.length E3)).setCell ⟨g + 1, 6, none⟩ (.int .i64 m.p)) (g + 1) 28 #[.int .i64 m.b1, .slice D1 m.z1.length E1, .int .i64 m.b2, .slice D2 m.z2.length E2, .int .i64 m.b3, .slice D3 m.z3.length E3, .int .i64 m.p] := bx_put7 br
  have r0 := bz.at_ 0 rfl
  have r1 := bz.at_ 1 rfl
  have r2 := bz.at_ 2 rfl
  have r3 := bz.at_ 3 rfl
  have r4 := bz.at_ 4 rfl
  have r5 := bz.at_ 5 rfl
  have r6 := bz.at_ 6 rfl
  clear bz
  go_wp2
  exact bodyPost_ret (v := .agg #[.int .i64 m.b1, .slice D1 m.z1.length E1, .int .i64 m.b2, .slice D2 m.z2.length E2, .int .i64 m.b3, .slice D3 m.z3.length E3, .int .i64 m.p]) (by simp [results, go_sem, r0, r1, r2, r3, r4, r5, r6]) rfl
    ⟨D1, E1, D2, E2, D3, E3, rfl, (show Own3 2 _ u.heap.size w3.heap.size (.slice D1 m.z1.length E1) m.z1 (.slice D2 m.z2.length E2) m.z2 (.slice D3 m.z3.length E3) m.z3 from (((((((HO.out.setCell (p := ⟨g + 1, 0, none⟩) (.inl HS.out.2.2) _).setCell (p := ⟨g + 1, 1, none⟩) (.inl HS.out.2.2) _).setCell (p := ⟨g + 1, 2, none⟩) (.inl HS.out.2.2) _).setCell (p := ⟨g + 1, 3, none⟩) (.inl HS.out.2.2) _).setCell (p := ⟨g + 1, 4, none⟩) (.inl HS.out.2.2) _).setCell (p := ⟨g + 1, 5, none⟩) (.inl HS.out.2.2) _).setCell (p := ⟨g + 1, 6, none⟩) (.inl HS.out.2.2) _)).wide HS.out.1 (by have := HS.out; simp; omega), by have := HG.out; exact (by repeat (first | with_reducible exact hbel | with_reducible refine Below.setCell ?_ (by first | omega | (simp <;> omega)) _ | with_reducible refine Below.alloc ?_ (by first | omega | (simp <;> omega)) _ | with_reducible refine Below.drew ?_))⟩
end Go.Proofs.YtlahobdopmdfmaaDoor

/- McpS -/
namespace Go.Proofs.YtlahobdopmdfmaaDoor
open Go.RowKit

set_option maxRecDepth 100000 in
set_option maxHeartbeats 4000000 in
theorem l02OwnO_any (p o : Nat) (B : Int) (A : Option Addr) (C : Nat) (zs : List Int) (w : World) (ha : Rd w A zs) (hne : 0 < zs.length) (h0 : w.cell? ⟨p, o, none⟩ = some (.int .i64 B)) (h1 : w.cell? ⟨p, o + 1, none⟩ = some (.slice A zs.length C)) :
    Calls Tryd.prog 126 #[.pointer (some ⟨p, o, none⟩)] w fun e w' => ∃ D E, e = .returned (.agg #[.int .i64 B, .slice D zs.length E]) ∧ Own 2 w' w.heap.size w'.heap.size (.slice D zs.length E) zs ∧ Below w.heap.size w w' := by
  obtain ⟨r, hr⟩ : ∃ r, r = w.heap.size := ⟨_, rfl⟩
  obtain ⟨u, hu⟩ : ∃ u, u = w.alloc (.cells #[.int .i64 0, .slice none 0 0] 26) := ⟨_, rfl⟩
  have b0 : Bx u r 26 #[.int .i64 0, .slice none 0 0] := by rw [hu, hr]; exact Bx.new _ _ _
  have hbel : Below w.heap.size w u := by rw [hu]; exact (by repeat (first | exact Below.refl _ _ | refine Below.setCell ?_ (by first | omega | (simp <;> omega)) _ | refine Below.alloc ?_ (by first | omega | (simp <;> omega)) _ | refine Below.drew ?_))
  have hlr := b0.lt
  replace ha := ha.below hbel
  have k0 : ∀ w', Below u.heap.size u w' → w'.cell? ⟨p, o, none⟩ = some (.int .i64 B) := kept_all (kept hbel h0)
  have k1 : ∀ w', Below u.heap.size u w' → w'.cell? ⟨p, o + 1, none⟩ = some (.slice A zs.length C) := kept_all (kept hbel h1)
  rw [← hr] at hbel
  have HU := Lib.hid hu
  have HR := Lib.hid hr
  clear hu hr h0 h1
  go_enter Tryd.func126, Tryd.ntmps126
  go_upto_region 1 with fail
  rw [← HU.out, ← HR.out]
  refine wp_region_marked (fun w' => Below u.heap.size u w') 10 (by kernel_rfl) ?_
  have hS : Below u.heap.size u u.drew := (Below.refl _ _).drew
  refine wpAnyM_take (i := 0) (v := ?_) rfl (by kernel_rfl) (by kernel_rfl) (by kernel_rfl) (by kernel_rfl) (by kernel_rfl) (fun _ _ _ h => h) hS (.inl ⟨by rfl, ?_⟩) ?_
  rotate_left 1
  · intro w' hS'; go_simp; try with_reducible rfl
  simp only [Act.put, List.setIfInBounds_toArray]
  refine wpAnyM_take (i := 1) (v := ?_) rfl (by kernel_rfl) (by kernel_rfl) (by kernel_rfl) (by kernel_rfl) (by kernel_rfl) (fun _ _ _ h => h) hS (.inl ⟨by rfl, ?_⟩) ?_
  rotate_left 1
  · intro w' hS'; go_simp; try with_reducible rfl
  simp only [Act.put]
  refine wpAnyM_take (i := 2) (v := ?_) rfl (by kernel_rfl) (by kernel_rfl) (by kernel_rfl) (by kernel_rfl) (by kernel_rfl) (fun _ _ _ h => h) hS (.inl ⟨by rfl, ?_⟩) ?_
  rotate_left 1
  · intro w' hS'; go_simp; try with_reducible rfl
  simp only [Act.put]
  refine wpAnyM_take (i := 3) (v := ?_) rfl (by kernel_rfl) (by kernel_rfl) (by kernel_rfl) (by kernel_rfl) (by kernel_rfl) (fun _ _ _ h => h) hS (.inl ⟨by rfl, ?_⟩) ?_
  rotate_left 1
  · intro w' hS'; go_simp; try with_reducible rfl
  simp only [Act.put]
  refine wpAnyM_take (i := 4) (v := ?_) rfl (by kernel_rfl) (by kernel_rfl) (by kernel_rfl) (by kernel_rfl) (by kernel_rfl) (fun _ _ _ h => h) hS (.inl ⟨by rfl, ?_⟩) ?_
  rotate_left 1
  · intro w' hS'; go_simp; try with_reducible rfl
  simp only [Act.put]
  refine wpAnyM_take (i := 5) (v := ?_) rfl (by kernel_rfl) (by kernel_rfl) (by kernel_rfl) (by kernel_rfl) (by kernel_rfl) (fun _ _ _ h => h) hS (.inl ⟨by rfl, ?_⟩) ?_
  rotate_left 1
  · intro w' hS'; go_simp; try with_reducible rfl
  simp only [Act.put]
  refine wpAnyM_take (i := 6) (v := ?_) rfl (by kernel_rfl) (by kernel_rfl) (by kernel_rfl) (by kernel_rfl) (by kernel_rfl) (fun _ _ _ h => h) hS (.inl ⟨by rfl, ?_⟩) ?_
  rotate_left 1
  · intro w' hS'; go_simp; try with_reducible rfl
  simp only [Act.put]
  refine wpAnyM_take (i := 7) (v := ?_) rfl (by kernel_rfl) (by kernel_rfl) (by kernel_rfl) (by kernel_rfl) (by kernel_rfl) (fun _ _ _ h => h) hS (.inl ⟨by rfl, ?_⟩) ?_
  rotate_left 1
  · intro w' hS'; go_simp; try with_reducible rfl
  simp only [Act.put]
  clear k0 k1
  refine wpAnyM_one (i := 8) (by kernel_rfl) rfl (by rfl) (fun K hK => ?_)
  go_simp
  refine (l00Own_any A C zs u.drew ⟨ha.len, ha.cells⟩ hne).mono ?_
  rintro e w1 ⟨D, E, rfl, ow, hb⟩
  have hS1 : Below u.heap.size u w1 := hS.trans hb
  have hs1 := hS1.size
  replace ow : Own 2 w1 u.heap.size w1.heap.size (.slice D zs.length E) zs := ow
  replace b0 := b0.below hS1
  refine hK _ _ (.inr hS1) ?_
  try simp only [Act.put, List.setIfInBounds_toArray]
  clear hK K
  refine wpAnyM_one (i := 9) (by kernel_rfl) rfl (by rfl) (fun K hK => ?_)
  go_simp
  refine hK _ _ (.inr hS1) ?_
  try simp only [Act.put, List.setIfInBounds_toArray]
  clear hK K
  have c0 := b0.at_ 0 rfl
  have c1 := b0.at_ 1 rfl
  have f0 := b0.thaw 0
  have f1 := b0.thaw 1
  refine wpAnyM_one (i := 10) (by kernel_rfl) rfl (by rfl) (fun K hK => ?_)
  go_simp
  obtain ⟨w8, hw8⟩ : ∃ v, v = (w1.setCell ⟨r, 0, none⟩ (.int .i64 B)).setCell ⟨r, 1, none⟩ (.slice D zs.length E) := ⟨_, rfl⟩
  rw [← hw8]
  have b9 : Bx w8 r 26 #[.int .i64 B, .slice D zs.length E] := by rw [hw8]; exact (b0.set_ 0 _).set_ 1 _
  have t9 : Touch r (r + 1) w1 w8 := by rw [hw8]; exact ((Touch.refl _ _ _).setCell (by simp) (by simp) _).setCell (by simp) (by simp) _
  have hs9 := t9.size
  have ow9 := ow.touch t9 (.inr (by omega))
  have hb9 : Below r w w8 := (hbel.trans (hS1.mono (by omega))).trans (t9.below (by omega) (by omega))
  clear hw8 c0 c1 f0 f1
  refine hK _ _ (.inl rfl) ?_
  try simp only [Act.put, List.setIfInBounds_toArray]
  clear hK K
  refine wpAnyM_done (by kernel_rfl) ?_ _
  have c0 := b9.at_ 0 rfl
  have c1 := b9.at_ 1 rfl
  go_wp2_with fail
  refine bodyPost_ret (v := .agg #[.int .i64 B, .slice D zs.length E]) (by simp [results, Tryd.results126, go_sem, c0, c1]) rfl ?_
  have hr := HR.out
  exact ⟨D, E, rfl, ow9.wide (by omega) (by omega), by rw [← hr]; exact hb9⟩


set_option maxRecDepth 100000 in
set_option maxHeartbeats 4000000 in
theorem l10Own_any (p : Nat) (m : Mac) (A1 : Option Addr) (C1 : Nat) (A2 : Option Addr) (C2 : Nat) (A3 : Option Addr) (C3 : Nat) (w : World) (h : Rd3 w A1 m.z1 A2 m.z2 A3 m.z3) (n1 : 0 < m.z1.length) (n2 : 0 < m.z2.length) (n3 : 0 < m.z3.length) (bp : Bx w p 28 #[.int .i64 m.b1, .slice A1 m.z1.length C1, .int .i64 m.b2, .slice A2 m.z2.length C2, .int .i64 m.b3, .slice A3 m.z3.length C3, .int .i64 m.p]) :
    Calls Tryd.prog 90 #[.pointer (some ⟨p, 0, none⟩)] w (MacV m w) := by
  have R := Tryd.results90
  obtain ⟨r, hr⟩ : ∃ r, r = w.heap.size := ⟨_, rfl⟩
  obtain ⟨u, hu⟩ : ∃ u, u = w.alloc (.cells #[.int .i64 0, .slice none 0 0, .int .i64 0, .slice none 0 0, .int .i64 0, .slice none 0 0, .int .i64 0] 28) := ⟨_, rfl⟩
  have b0 : Bx u r 28 #[.int .i64 0, .slice none 0 0, .int .i64 0, .slice none 0 0, .int .i64 0, .slice none 0 0, .int .i64 0] := by rw [hu, hr]; exact Bx.new _ _ _
  have hbel : Below w.heap.size w u := by rw [hu]; exact (by repeat (first | exact Below.refl _ _ | refine Below.setCell ?_ (by first | omega | (simp <;> omega)) _ | refine Below.alloc ?_ (by first | omega | (simp <;> omega)) _ | refine Below.drew ?_))
  have hlr := b0.lt
  have hb0 := hbel.size
  replace h := h.below hbel
  replace bp := bp.below hbel
  have H1 : Hid (∀ v, Below u.heap.size u v → Calls Tryd.prog 126 #[.pointer (some ⟨p, 0, none⟩)] v fun e w' => ∃ D E, e = .returned (.agg #[.int .i64 m.b1, .slice D m.z1.length E]) ∧ Own 2 w' v.heap.size w'.heap.size (.slice D m.z1.length E) m.z1 ∧ Below v.heap.size v w') :=
    Lib.hid fun v hb => l02OwnO_any p 0 m.b1 A1 C1 m.z1 v (h.x.below hb) n1 ((bp.below hb).at_ 0 rfl) ((bp.below hb).at_ 1 rfl)
  have H2 : Hid (∀ v, Below u.heap.size u v → Calls Tryd.prog 126 #[.pointer (some ⟨p, 2, none⟩)] v fun e w' => ∃ D E, e = .returned (.agg #[.int .i64 m.b2, .slice D m.z2.length E]) ∧ Own 2 w' v.heap.size w'.heap.size (.slice D m.z2.length E) m.z2 ∧ Below v.heap.size v w') :=
    Lib.hid fun v hb => l02OwnO_any p 2 m.b2 A2 C2 m.z2 v (h.y.below hb) n2 ((bp.below hb).at_ 2 rfl) ((bp.below hb).at_ 3 rfl)
  have H3 : Hid (∀ v, Below u.heap.size u v → Calls Tryd.prog 126 #[.pointer (some ⟨p, 4, none⟩)] v fun e w' => ∃ D E, e = .returned (.agg #[.int .i64 m.b3, .slice D m.z3.length E]) ∧ Own 2 w' v.heap.size w'.heap.size (.slice D m.z3.length E) m.z3 ∧ Below v.heap.size v w') :=
    Lib.hid fun v hb => l02OwnO_any p 4 m.b3 A3 C3 m.z3 v (h.z.below hb) n3 ((bp.below hb).at_ 4 rfl) ((bp.below hb).at_ 5 rfl)
  have k6 := kept_all (bp.at_ 6 rfl)
  rw [← hr] at hbel
  have HU := Lib.hid hu
  have HR := Lib.hid hr
  clear hu hr h bp n1 n2 n3
  go_enter Tryd.func90, Tryd.ntmps90
  go_upto_region 1 with fail
  rw [← HU.out, ← HR.out]
  refine wp_region_marked (fun w' => Below u.heap.size u w') 17 (by kernel_rfl) ?_
  have hS : Below u.heap.size u u.drew := (Below.refl _ _).drew
  refine wpAnyM_take (i := 0) (v := ?_) rfl (by kernel_rfl) (by kernel_rfl) (by kernel_rfl) (by kernel_rfl) (by kernel_rfl) (fun _ _ _ h => h) hS (.inl ⟨by rfl, ?_⟩) ?_
  rotate_left 1
  · intro w' hS'; go_simp; try with_reducible rfl
  simp only [Act.put, List.setIfInBounds_toArray]
  refine wpAnyM_take (i := 1) (v := ?_) rfl (by kernel_rfl) (by kernel_rfl) (by kernel_rfl) (by kernel_rfl) (by kernel_rfl) (fun _ _ _ h => h) hS (.inl ⟨by rfl, ?_⟩) ?_
  rotate_left 1
  · intro w' hS'; go_simp; try with_reducible rfl
  simp only [Act.put]
  refine wpAnyM_take (i := 2) (v := ?_) rfl (by kernel_rfl) (by kernel_rfl) (by kernel_rfl) (by kernel_rfl) (by kernel_rfl) (fun _ _ _ h => h) hS (.inl ⟨by rfl, ?_⟩) ?_
  rotate_left 1
  · intro w' hS'; go_simp; try with_reducible rfl
  simp only [Act.put]
  refine wpAnyM_take (i := 4) (v := ?_) rfl (by kernel_rfl) (by kernel_rfl) (by kernel_rfl) (by kernel_rfl) (by kernel_rfl) (fun _ _ _ h => h) hS (.inl ⟨by rfl, ?_⟩) ?_
  rotate_left 1
  · intro w' hS'; go_simp; try with_reducible rfl
  simp only [Act.put]
  refine wpAnyM_take (i := 5) (v := ?_) rfl (by kernel_rfl) (by kernel_rfl) (by kernel_rfl) (by kernel_rfl) (by kernel_rfl) (fun _ _ _ h => h) hS (.inl ⟨by rfl, ?_⟩) ?_
  rotate_left 1
  · intro w' hS'; go_simp; try with_reducible rfl
  simp only [Act.put]
  refine wpAnyM_take (i := 6) (v := ?_) rfl (by kernel_rfl) (by kernel_rfl) (by kernel_rfl) (by kernel_rfl) (by kernel_rfl) (fun _ _ _ h => h) hS (.inl ⟨by rfl, ?_⟩) ?_
  rotate_left 1
  · intro w' hS'; go_simp; try with_reducible rfl
  simp only [Act.put]
  refine wpAnyM_take (i := 8) (v := ?_) rfl (by kernel_rfl) (by kernel_rfl) (by kernel_rfl) (by kernel_rfl) (by kernel_rfl) (fun _ _ _ h => h) hS (.inl ⟨by rfl, ?_⟩) ?_
  rotate_left 1
  · intro w' hS'; go_simp; try with_reducible rfl
  simp only [Act.put]
  refine wpAnyM_take (i := 9) (v := ?_) rfl (by kernel_rfl) (by kernel_rfl) (by kernel_rfl) (by kernel_rfl) (by kernel_rfl) (fun _ _ _ h => h) hS (.inl ⟨by rfl, ?_⟩) ?_
  rotate_left 1
  · intro w' hS'; go_simp; try with_reducible rfl
  simp only [Act.put]
  refine wpAnyM_take (i := 10) (v := ?_) rfl (by kernel_rfl) (by kernel_rfl) (by kernel_rfl) (by kernel_rfl) (by kernel_rfl) (fun _ _ _ h => h) hS (.inl ⟨by rfl, ?_⟩) ?_
  rotate_left 1
  · intro w' hS'; go_simp; try with_reducible rfl
  simp only [Act.put]
  refine wpAnyM_take (i := 12) (v := ?_) rfl (by kernel_rfl) (by kernel_rfl) (by kernel_rfl) (by kernel_rfl) (by kernel_rfl) (fun _ _ _ h => h) hS (.inl ⟨by rfl, ?_⟩) ?_
  rotate_left 1
  · intro w' hS'; go_simp; try with_reducible rfl
  simp only [Act.put]
  refine wpAnyM_take (i := 13) (v := ?_) rfl (by kernel_rfl) (by kernel_rfl) (by kernel_rfl) (by kernel_rfl) (by kernel_rfl) (fun _ _ _ h => h) hS (.inl ⟨by rfl, ?_⟩) ?_
  rotate_left 1
  · intro w' hS'; go_simp; try with_reducible rfl
  simp only [Act.put]
  refine wpAnyM_take (i := 14) (v := ?_) rfl (by kernel_rfl) (by kernel_rfl) (by kernel_rfl) (by kernel_rfl) (by kernel_rfl) (fun _ _ _ h => h) hS (.inl ⟨by rfl, ?_⟩) ?_
  rotate_left 1
  · intro w' hS'; go_simp; try with_reducible rfl
  simp only [Act.put]
  refine wpAnyM_take (i := 15) (v := ?_) rfl (by kernel_rfl) (by kernel_rfl) (by kernel_rfl) (by kernel_rfl) (by kernel_rfl) (fun _ _ _ h => h) hS (.inl ⟨by rfl, ?_⟩) ?_
  rotate_left 1
  · intro w' hS'; go_simp; try with_reducible rfl
  simp only [Act.put]
  clear k6
  refine wpAnyM_one (i := 3) (by kernel_rfl) rfl (by rfl) (fun K hK => ?_)
  go_simp
  refine (H1.out u.drew hS).mono ?_
  rintro e w1 ⟨D1, E1, rfl, o1, hb⟩
  replace o1 : Own 2 w1 u.heap.size w1.heap.size (.slice D1 m.z1.length E1) m.z1 := o1
  have hS1 : Below u.heap.size u w1 := hS.trans (hb.mono hS.size)
  have hq1 : u.heap.size ≤ w1.heap.size := hb.size
  clear hb
  refine hK _ _ (.inr hS1) ?_
  try simp only [Act.put, List.setIfInBounds_toArray]
  clear hK K
  refine wpAnyM_one (i := 7) (by kernel_rfl) rfl (by rfl) (fun K hK => ?_)
  go_simp
  refine (H2.out w1 hS1).mono ?_
  rintro e w2 ⟨D2, E2, rfl, o2, hb⟩
  replace o1 := o1.below hb
  have hS2 : Below u.heap.size u w2 := hS1.trans (hb.mono hS1.size)
  have hq2 : w1.heap.size ≤ w2.heap.size := hb.size
  clear hb
  refine hK _ _ (.inr hS2) ?_
  try simp only [Act.put, List.setIfInBounds_toArray]
  clear hK K
  refine wpAnyM_one (i := 11) (by kernel_rfl) rfl (by rfl) (fun K hK => ?_)
  go_simp
  refine (H3.out w2 hS2).mono ?_
  rintro e w3 ⟨D3, E3, rfl, o3, hb⟩
  replace o1 := o1.below hb
  replace o2 := o2.below hb
  have hS3 : Below u.heap.size u w3 := hS2.trans (hb.mono hS2.size)
  have hq3 : w2.heap.size ≤ w3.heap.size := hb.size
  clear hb
  refine hK _ _ (.inr hS3) ?_
  try simp only [Act.put, List.setIfInBounds_toArray]
  clear hK K
  replace b0 := b0.below hS3
  refine wpAnyM_one (i := 16) (by kernel_rfl) rfl (by rfl) (fun K hK => ?_)
  go_simp
  refine hK _ _ (.inr hS3) ?_
  try simp only [Act.put, List.setIfInBounds_toArray]
  clear hK K
  have j0 := b0.at_ 0 rfl
  have j1 := b0.at_ 1 rfl
  have j2 := b0.at_ 2 rfl
  have j3 := b0.at_ 3 rfl
  have j4 := b0.at_ 4 rfl
  have j5 := b0.at_ 5 rfl
  have j6 := b0.at_ 6 rfl
  have f0 := b0.thaw 0
  have f1 := b0.thaw 1
  have f2 := b0.thaw 2
  have f3 := b0.thaw 3
  have f4 := b0.thaw 4
  have f5 := b0.thaw 5
  have f6 := b0.thaw 6
  have hl := b0.lt
  refine wpAnyM_one (i := 17) (by kernel_rfl) rfl (by rfl) (fun K hK => ?_)
  go_simp
  obtain ⟨w8, hw8⟩ : ∃ v, v = (((((((w3.setCell ⟨r, 0, none⟩ (.int .i64 m.b1)).setCell ⟨r, 1, none⟩ (.slice D1 m.z1.length E1)).setCell ⟨r, 2, none⟩ (.int .i64 m.b2)).setCell ⟨r, 3, none⟩ (.slice D2 m.z2.length E2)).setCell ⟨r, 4, none⟩ (.int .i64 m.b3)).setCell ⟨r, 5, none⟩ (.slice D3 m.z3.length E3)).setCell ⟨r, 6, none⟩ (.int .i64 m.p)) := ⟨_, rfl⟩
  rw [← hw8]
  have b9 : Bx w8 r 28 #[.int .i64 m.b1, .slice D1 m.z1.length E1, .int .i64 m.b2, .slice D2 m.z2.length E2, .int .i64 m.b3, .slice D3 m.z3.length E3, .int .i64 m.p] := by rw [hw8]; exact bx_put7 b0
  have t9 : Touch r (r + 1) w3 w8 := by rw [hw8]; exact touch_put7 _ _
  have hs9 := t9.size
  have o19 := o1.touch t9 (.inr (by omega))
  have o29 := o2.touch t9 (.inr (by omega))
  have o39 := o3.touch t9 (.inr (by omega))
  have hb9 : Below r w w8 := (hbel.trans (hS3.mono (by omega))).trans (t9.below (by omega) (by omega))
  clear hw8 j0 j1 j2 j3 j4 j5 j6 f0 f1 f2 f3 f4 f5 f6 hl
  refine hK _ _ (.inl rfl) ?_
  try simp only [Act.put, List.setIfInBounds_toArray]
  clear hK K
  refine wpAnyM_done (by kernel_rfl) ?_ _
  have c0 := b9.at_ 0 rfl
  have c1 := b9.at_ 1 rfl
  have c2 := b9.at_ 2 rfl
  have c3 := b9.at_ 3 rfl
  have c4 := b9.at_ 4 rfl
  have c5 := b9.at_ 5 rfl
  have c6 := b9.at_ 6 rfl
  go_wp2_with fail
  refine bodyPost_ret (v := .agg #[.int .i64 m.b1, .slice D1 m.z1.length E1, .int .i64 m.b2, .slice D2 m.z2.length E2, .int .i64 m.b3, .slice D3 m.z3.length E3, .int .i64 m.p]) (by simp [results, go_sem, c0, c1, c2, c3, c4, c5, c6]) rfl ?_
  have hr := HR.out
  exact ⟨D1, E1, D2, E2, D3, E3, rfl, ⟨_, _, _, _, _, _, o19, o29, o39, by omega⟩, by rw [← hr]; exact hb9⟩
end Go.Proofs.YtlahobdopmdfmaaDoor

/- MsvI -/
namespace Go.Proofs.YtlahobdopmdfmaaDoor
open Go.RowKit

/-- A setting that has the value. -/
theorem nrR_in {b v : Int} {n : Nat} (b0 : 2 ≤ b) (b1 : b ≤ 16) (n0 : 1 ≤ n) (n1 : n ≤ 16) (hf : b ^ n - 1 ≤ 1000000000000) (h : 0 ≤ v ∧ v ≤ b ^ n - 1) : nrR b n v = (b, digsR b n v, 0) :=
  nrR_ok ⟨b0, b1, n0, n1, h.1, by omega⟩ (by rw [leftR_none (by omega) h.1 (by omega)]; omega)
theorem nrR_out {b v : Int} {n : Nat} (b0 : 2 ≤ b) (b1 : b ≤ 16) (n0 : 1 ≤ n) (n1 : n ≤ 16) (h : ¬ (0 ≤ v ∧ v ≤ b ^ n - 1)) : ∃ k, nrR b n v = (0, [], k) ∧ k ≠ 0 := by
  by_cases hv : 0 ≤ v ∧ v ≤ 1000000000000
  · refine ⟨5, nrR_full ⟨b0, b1, n0, n1, hv.1, hv.2⟩ ?_, by omega⟩
    have hp := pow_pos' (show 1 ≤ b by omega) n
    rw [leftR_div (by omega)]
    have := (Int.le_ediv_iff_mul_le (a := 1) (b := v) (show 0 < b ^ n by omega)).2 (by omega)
    omega
  · exact ⟨2, nrR_bad (by omega), by omega⟩

/-- The machine with another setting. -/
def svM (m : Mac) (v : Int) : Mac := ⟨m.b1, digsR m.b1 m.z1.length v, m.b2, m.z2, m.b3, m.z3, m.p⟩

set_option maxRecDepth 100000 in
set_option maxHeartbeats 8000000 in
theorem implSetValue (m : Mac) (A1 : Option Addr) (C1 : Nat) (A2 : Option Addr) (C2 : Nat) (A3 : Option Addr) (C3 : Nat) (x : Int) (w : World) (h : Rd3 w A1 m.z1 A2 m.z2 A3 m.z3) (z : All64 m.z1 ∧ All64 m.z2 ∧ All64 m.z3) (y : I64 m.b1 ∧ I64 m.b2 ∧ I64 m.b3 ∧ I64 m.p) (bx : I64 x) (hD : BellD w) :
    Calls Tryd.prog 67 #[.agg #[.int .i64 m.b1, .slice A1 m.z1.length C1, .int .i64 m.b2, .slice A2 m.z2.length C2, .int .i64 m.b3, .slice A3 m.z3.length C3, .int .i64 m.p], .int .i64 x] w (MacC (svR m x) w) := by
  have R := Tryd.results67
  have hlen := h.len
  obtain ⟨g, hg⟩ : ∃ g, g = w.heap.size := ⟨_, rfl⟩
  obtain ⟨u, hu⟩ : ∃ u, u = (w.alloc (.cells #[.int .i64 m.b1, .slice A1 m.z1.length C1, .int .i64 m.b2, .slice A2 m.z2.length C2, .int .i64 m.b3, .slice A3 m.z3.length C3, .int .i64 m.p] 28)).alloc (.cells #[.int .i64 0, .slice none 0 0, .int .i64 0, .slice none 0 0, .int .i64 0, .slice none 0 0, .int .i64 0] 28) := ⟨_, rfl⟩
  have hbel : Below w.heap.size w u := by rw [hu]; exact (by repeat (first | exact Below.refl _ _ | refine Below.setCell ?_ (by first | omega | (simp <;> omega)) _ | refine Below.alloc ?_ (by first | omega | (simp <;> omega)) _ | refine Below.drew ?_))
  have bm : Bx u g 28 #[.int .i64 m.b1, .slice A1 m.z1.length C1, .int .i64 m.b2, .slice A2 m.z2.length C2, .int .i64 m.b3, .slice A3 m.z3.length C3, .int .i64 m.p] := by rw [hu, hg]; exact (Bx.new _ _ _).alloc _
  have br : Bx u (g + 1) 28 #[.int .i64 0, .slice none 0 0, .int .i64 0, .slice none 0 0, .int .i64 0, .slice none 0 0, .int .i64 0] := by rw [hu, hg]; simpa using Bx.new (w.alloc (.cells #[.int .i64 m.b1, .slice A1 m.z1.length C1, .int .i64 m.b2, .slice A2 m.z2.length C2, .int .i64 m.b3, .slice A3 m.z3.length C3, .int .i64 m.p] 28)) #[.int .i64 0, .slice none 0 0, .int .i64 0, .slice none 0 0, .int .i64 0, .slice none 0 0, .int .i64 0] 28
  have hgu : g + 1 < u.heap.size := br.lt
  have HV := Lib.hid (implValidMachine m A1 C1 A2 C2 A3 C3 u (h.below hbel) z y (hD.below hbel))
  have HB := Lib.hid (fun v => mBase_any m A1 C1 A2 C2 A3 C3 v)
  have HG := Lib.hid hg
  have HU := Lib.hid hu
  clear hu z hD
  cases hm : macB m with
  | false =>
    have HR := Lib.hid (show svR m x = (mac0, 1) by simp [svR, hm])
    rw [hm] at HV
    clear hm h
    go_enter Tryd.func67, Tryd.ntmps67
    go_wp2_with fail
    rw [← HU.out, ← hg]
    clear hg
    refine HV.out.mono ?_
    rintro e w1 ⟨rfl, hb⟩
    replace br := br.below hb
    replace hbel := hbel.trans (hb.mono hbel.size)
    clear hb bm
    have r0 := br.at_ 0 rfl
    have r1 := br.at_ 1 rfl
    have r2 := br.at_ 2 rfl
    have r3 := br.at_ 3 rfl
    have r4 := br.at_ 4 rfl
    have r5 := br.at_ 5 rfl
    have r6 := br.at_ 6 rfl
    have f0 := br.thaw 0
    have f1 := br.thaw 1
    have f2 := br.thaw 2
    have f3 := br.thaw 3
    have f4 := br.thaw 4
    have f5 := br.thaw 5
    have f6 := br.thaw 6
    have hl := br.lt
    go_wp2
    exact bodyPost_ret (v := .tuple #[.agg #[.int .i64 0, .slice none 0 0, .int .i64 0, .slice none 0 0, .int .i64 0, .slice none 0 0, .int .i64 0], .int .i64 1]) (by simp [results, go_sem, r0, r1, r2, r3, r4, r5, r6]) rfl (macC_err HR.out rfl (by have := HG.out; exact (by repeat (first | with_reducible exact hbel | with_reducible refine Below.setCell ?_ (by first | omega | (simp <;> omega)) _ | with_reducible refine Below.alloc ?_ (by first | omega | (simp <;> omega)) _ | with_reducible refine Below.drew ?_))))
  | true =>
    have hF := macB_spec hm
    obtain ⟨e2, e3, b0, b1, n0, n12, n2, n3, n4, p0, p1, p2, d1, d2, d3⟩ := macB_facts hm
    have hpw : m.b1 ^ m.z1.length - 1 ≤ 1000000000000 := by
      have := pow_mono' b0 n12
      have := hF.2.2.2.2.2.1
      omega
    have HC := Lib.hid (fun (v : World) (hb : Below w.heap.size w v) => copied_any m A1 C1 A2 C2 A3 C3 v (h.below hb) (by omega) (by omega) (by omega))
    have HN := Lib.hid (fun v => implNewReg_at m.b1 m.z1.length x v y.1 (i64_of (by omega) (by omega)) bx)
    have HX : Hid ((nrR m.b1 m.z1.length x = (m.b1, digsR m.b1 m.z1.length x, 0) ∧ svR m x = (svM m x, 0)) ∨ ∃ k, nrR m.b1 m.z1.length x = (0, [], k) ∧ k ≠ 0 ∧ svR m x = (mac0, 2)) := Lib.hid (by
      by_cases hr : 0 ≤ x ∧ x ≤ m.b1 ^ m.z1.length - 1
      · exact .inl ⟨nrR_in b0 b1 n0 (by omega) hpw hr, by rw [svR, if_pos hm, if_pos hr]; rfl⟩
      · obtain ⟨k, h1, h2⟩ := nrR_out b0 b1 n0 (by omega) hr
        exact .inr ⟨k, h1, h2, by rw [svR, if_pos hm, if_neg hr]⟩)
    rw [hm] at HV
    clear hm hF e2 e3 b0 b1 n0 n12 n2 n3 n4 p0 p1 p2 d1 d2 d3 hpw h bx y
    obtain ⟨N, hN⟩ : ∃ N, nrR m.b1 m.z1.length x = N := ⟨_, rfl⟩
    rw [hN] at HN HX
    clear hN
    go_enter Tryd.func67, Tryd.ntmps67
    go_wp2_with fail
    rw [← HU.out, ← hg]
    clear hg
    refine HV.out.mono ?_
    rintro e w1 ⟨rfl, hb⟩
    have hz1 := hb.size
    replace bm := bm.below hb
    replace br := br.below hb
    replace hbel := hbel.trans (hb.mono hbel.size)
    clear hb
    go_upto_region 3 with fail
    go_cut [6, 7] from 8 (fun sl6 sl7 wx => BoxReg w1 N.1 N.2.1 sl6 wx ∧ sl7 = .int .i64 N.2.2)
    case first =>
      have k0 := kept_all (bm.at_ 0 rfl)
      have k1 := kept_all (bm.at_ 1 rfl)
      have k2 := kept_all (bm.at_ 2 rfl)
      have k3 := kept_all (bm.at_ 3 rfl)
      have k4 := kept_all (bm.at_ 4 rfl)
      have k5 := kept_all (bm.at_ 5 rfl)
      have k6 := kept_all (bm.at_ 6 rfl)
      clear bm br
      go_region_held3 (fun w' => Below w1.heap.size w1 w') (first | exact hk | exact (Below.refl _ _).drew | exact hk.alloc hk.size _ | exact (Below.refl _ _).drew.alloc (Nat.le_refl _) _ | exact (hk.alloc hk.size _).setCell hk.size _ | exact (hk.setCell bg.out _).setCell bg.out _)
        (first
        | (go_at_call 138; have qB := ‹Below w1.heap.size w1 _›; ((with_reducible refine (HB.out ((w1.alloc (.cells #[.int .i64 0, .slice none 0 0] 26)).drew)).mono ?_)); rintro e w2 ⟨rfl, hb⟩; have bz := ((Bx.new w1 #[.int .i64 0, .slice none 0 0] 26).drew).below hb; have bg : Hid (w1.heap.size ≤ w1.drew.heap.size) := Lib.hid (Nat.le_refl _); have hk := qB.trans (hb.mono qB.size))
        | (go_at_call 138; have qB := ‹Below w1.heap.size w1 _›; ((with_reducible refine (HB.out w1.drew).mono ?_)); rintro e w2 ⟨rfl, hb⟩; have hk := qB.trans (hb.mono qB.size))
        | (go_at_call 136; have qB := ‹Below w1.heap.size w1 _›; ((with_reducible refine (HN.out (w2.alloc (.cells #[.int .i64 0, .slice none 0 0] 26))).mono ?_)); rintro e w3 ⟨A, C, rfl, own, hb⟩; have bz := (Bx.new w2 #[.int .i64 0, .slice none 0 0] 26); have bg : Hid (w1.heap.size ≤ w2.heap.size) := Lib.hid (‹Below w1.heap.size w1 w2›).size; have bh := Lib.hid bz.lt; replace bz := bz.below hb; have bz0 := bz.at_ 0 rfl; have bf0 := bz.thaw 0; have bz1 := bz.at_ 1 rfl; have bf1 := bz.thaw 1; have hkU := qB; have hbU := hb; have hk := qB.trans (hb.mono qB.size))
        | (go_at_call 136; have qB := ‹Below w1.heap.size w1 _›; ((with_reducible refine (HN.out w2).mono ?_)); rintro e w3 ⟨A, C, rfl, own, hb⟩; (try (have bh := Lib.hid bz.lt; replace bz := bz.below hb; have bz0 := bz.at_ 0 rfl; have bf0 := bz.thaw 0; have bz1 := bz.at_ 1 rfl; have bf1 := bz.thaw 1)); have hkU := qB; have hbU := hb; have hk := qB.trans (hb.mono qB.size)))
      all_goals (go_wp2_with fail; go_meet; case rel => first | with_reducible exact ⟨boxReg_after hkU hbU own, rfl⟩ | with_reducible exact ⟨boxReg_before hkU hbU own bz bg bh, rfl⟩ | exact ⟨boxReg_after hkU hbU own, rfl⟩ | exact ⟨boxReg_before hkU hbU own bz bg bh, rfl⟩)
    case rest =>
    obtain ⟨⟨q, A, C, lo, hi, rfl, cq0, cq1, own, s1, s2, s3, s4, s5, hb⟩, rfl⟩ := hcut
    obtain ⟨w2, rfl⟩ : ∃ u, u = wc := ⟨_, rfl⟩
    have hz2 := hb.size
    replace bm := bm.below hb
    replace br := br.below hb
    replace hbel := hbel.trans (hb.mono hbel.size)
    clear hb
    rcases HX.out with ⟨hN, HR⟩ | ⟨k, hN, hk, HR⟩
    · rw [hN] at cq0 cq1 own ⊢
      dsimp only at cq0 cq1 own ⊢
      clear hN HX HN HV
      obtain ⟨Z, hZ⟩ : ∃ Z, Z = digsR m.b1 m.z1.length x := ⟨_, rfl⟩
      have HM := Lib.hid (show svM m x = ⟨m.b1, Z, m.b2, m.z2, m.b3, m.z3, m.p⟩ by rw [hZ]; rfl)
      rw [← hZ] at cq1 own
      clear hZ
      have c0 := bm.at_ 0 rfl
      have c1 := bm.at_ 1 rfl
      have c2 := bm.at_ 2 rfl
      have c3 := bm.at_ 3 rfl
      have c4 := bm.at_ 4 rfl
      have c5 := bm.at_ 5 rfl
      have c6 := bm.at_ 6 rfl
      go_wp2_with fail
      refine (HC.out w2 hbel).mono ?_
      rintro e w3 ⟨D1, E1, D2, E2, D3, E3, rfl, own3, hb⟩
      have hz3 := hb.size
      replace br := br.below hb
      replace own := own.below hb
      replace cq0 := kept hb cq0
      replace cq1 := kept hb cq1
      replace hbel := hbel.trans (hb.mono hbel.size)
      have hqz : q < w2.heap.size := s4.out
      clear hb c0 c1 c2 c3 c4 c5 c6 bm HC
      go_upto_region 7 with fail
      obtain ⟨c, hc⟩ : ∃ c, c = w3.heap.size := ⟨_, rfl⟩
      obtain ⟨V, hV⟩ : ∃ V, V = w3.alloc (.cells #[.int .i64 m.b1, .slice D1 m.z1.length E1, .int .i64 m.b2, .slice D2 m.z2.length E2, .int .i64 m.b3, .slice D3 m.z3.length E3, .int .i64 m.p] 28) := ⟨_, rfl⟩
      try rw [← hc, ← hV]
      have bc : Bx V c 28 #[.int .i64 m.b1, .slice D1 m.z1.length E1, .int .i64 m.b2, .slice D2 m.z2.length E2, .int .i64 m.b3, .slice D3 m.z3.length E3, .int .i64 m.p] := by rw [hV, hc]; exact Bx.new _ _ _
      have hb : Below w3.heap.size w3 V := by rw [hV]; exact (Below.refl _ _).alloc (Nat.le_refl _) _
      have hz4 := hb.size
      have hcl := bc.lt
      have hc3 : w3.heap.size ≤ c := by omega
      replace br := br.below hb
      replace own := own.below hb
      replace own3 := own3.below hb
      replace cq0 := kept hb cq0
      replace cq1 := kept hb cq1
      replace hbel := hbel.trans (hb.mono hbel.size)
      clear hb hV hc
      obtain ⟨l1, h1, l2, h2, l3, h3, o1, o2, o3, s⟩ := own3.ex
      have x0 := bc.at_ 0 rfl
      have x1 := bc.at_ 1 rfl
      have y0 := bc.thaw 0
      have y1 := bc.thaw 1
      go_upto_region 8 with fail
      obtain ⟨V2, hV⟩ : ∃ V2, V2 = (V.setCell ⟨c, 0, none⟩ (.int .i64 m.b1)).setCell ⟨c, 1, none⟩ (.slice A Z.length C) := ⟨_, rfl⟩
      try rw [← hV]
      have hg0 := HG.out
      have s1o := s1.out
      have s2o := s2.out
      have s3o := s3.out
      have s5o := s5.out
      have a1 : hi ≤ c := by omega
      have a2 : h2 ≤ c := by omega
      have a3 : h3 ≤ c := by omega
      have o1v : Own 2 V2 lo hi (.slice A Z.length C) Z := by rw [hV]; exact (own.setCell (.inr (by simp; omega)) _).setCell (.inr (by simp; omega)) _
      have o2v : Own 2 V2 l2 h2 (.slice D2 m.z2.length E2) m.z2 := by rw [hV]; exact (o2.setCell (.inr (by simp; omega)) _).setCell (.inr (by simp; omega)) _
      have o3v : Own 2 V2 l3 h3 (.slice D3 m.z3.length E3) m.z3 := by rw [hV]; exact (o3.setCell (.inr (by simp; omega)) _).setCell (.inr (by simp; omega)) _
      have bcv : Bx V2 c 28 #[.int .i64 m.b1, .slice A Z.length C, .int .i64 m.b2, .slice D2 m.z2.length E2, .int .i64 m.b3, .slice D3 m.z3.length E3, .int .i64 m.p] := by rw [hV]; exact (bc.set_ 0 _).set_ 1 _
      have brv : Bx V2 (g + 1) 28 #[.int .i64 0, .slice none 0 0, .int .i64 0, .slice none 0 0, .int .i64 0, .slice none 0 0, .int .i64 0] := by rw [hV]; exact (br.far (by simp; omega) _).far (by simp; omega) _
      have hbv : Below w.heap.size w V2 := by rw [hV]; exact (by repeat (first | with_reducible exact hbel | with_reducible refine Below.setCell ?_ (by first | omega | (simp <;> omega)) _ | with_reducible refine Below.alloc ?_ (by first | omega | (simp <;> omega)) _ | with_reducible refine Below.drew ?_))
      have hzv : V2.heap.size = V.heap.size := by rw [hV]; simp
      have HO : Hid (Own3 2 V2 (g + 2) V2.heap.size (.slice A Z.length C) Z (.slice D2 m.z2.length E2) m.z2 (.slice D3 m.z3.length E3) m.z3) := Lib.hid ⟨_, _, _, _, _, _, o1v, o2v, o3v, by omega⟩
      have HS := Lib.hid (show w.heap.size ≤ g + 2 by omega)
      clear hV own own3 o1 o2 o3 o1v o2v o3v bc br hbel x0 x1 y0 y1 cq0 cq1 s a1 a2 a3 s1o s2o s3o s5o hz1 hz2 hz3 hz4 hzv hg0 hcl hc3 hqz hgu
      have c0 := bcv.at_ 0 rfl
      have c1 := bcv.at_ 1 rfl
      have c2 := bcv.at_ 2 rfl
      have c3 := bcv.at_ 3 rfl
      have c4 := bcv.at_ 4 rfl
      have c5 := bcv.at_ 5 rfl
      have c6 := bcv.at_ 6 rfl
      have j0 := brv.at_ 0 rfl
      have j1 := brv.at_ 1 rfl
      have j2 := brv.at_ 2 rfl
      have j3 := brv.at_ 3 rfl
      have j4 := brv.at_ 4 rfl
      have j5 := brv.at_ 5 rfl
      have j6 := brv.at_ 6 rfl
      have f0 := brv.thaw 0
      have f1 := brv.thaw 1
      have f2 := brv.thaw 2
      have f3 := brv.thaw 3
      have f4 := brv.thaw 4
      have f5 := brv.thaw 5
      have f6 := brv.thaw 6
      have hl := brv.lt
      have bz : Bx (((((((V2.setCell ⟨g + 1, 0, none⟩ (.int .i64 m.b1)).setCell ⟨g + 1, 1, none⟩ (.slice A Z.length C)).setCell ⟨g + 1, 2, none⟩ (.int .i64 m.b2)).setCell ⟨g + 1, 3, none⟩ (.slice D2 m.z2.length E2)).setCell ⟨g + 1, 4, none⟩ (.int .i64 m.b3)).setCell ⟨g + 1, 5, none⟩ (.slice D3 m.z3.length E3)).setCell ⟨g + 1, 6, none⟩ (.int .i64 m.p)) (g + 1) 28 #[.int .i64 m.b1, .slice A Z.length C, .int .i64 m.b2, .slice D2 m.z2.length E2, .int .i64 m.b3, .slice D3 m.z3.length E3, .int .i64 m.p] := bx_put7 brv
      have r0 := bz.at_ 0 rfl
      have r1 := bz.at_ 1 rfl
      have r2 := bz.at_ 2 rfl
      have r3 := bz.at_ 3 rfl
      have r4 := bz.at_ 4 rfl
      have r5 := bz.at_ 5 rfl
      have r6 := bz.at_ 6 rfl
      clear bz
      go_wp2
      exact bodyPost_ret (v := .tuple #[.agg #[.int .i64 m.b1, .slice A Z.length C, .int .i64 m.b2, .slice D2 m.z2.length E2, .int .i64 m.b3, .slice D3 m.z3.length E3, .int .i64 m.p], .int .i64 0]) (by simp [results, go_sem, r0, r1, r2, r3, r4, r5, r6]) rfl
        (macC_ok (A1 := A) (C1 := C) (A2 := D2) (C2 := E2) (A3 := D3) (C3 := E3) (lo := g + 2) (hi := V2.heap.size) (HR.trans (by rw [HM.out])) rfl (((((((HO.out.setCell (p := ⟨g + 1, 0, none⟩) (.inl (by simp)) _).setCell (p := ⟨g + 1, 1, none⟩) (.inl (by simp)) _).setCell (p := ⟨g + 1, 2, none⟩) (.inl (by simp)) _).setCell (p := ⟨g + 1, 3, none⟩) (.inl (by simp)) _).setCell (p := ⟨g + 1, 4, none⟩) (.inl (by simp)) _).setCell (p := ⟨g + 1, 5, none⟩) (.inl (by simp)) _).setCell (p := ⟨g + 1, 6, none⟩) (.inl (by simp)) _) HS.out (by simp) (by have := HG.out; exact (by repeat (first | with_reducible exact hbv | with_reducible refine Below.setCell ?_ (by first | omega | (simp <;> omega)) _ | with_reducible refine Below.alloc ?_ (by first | omega | (simp <;> omega)) _ | with_reducible refine Below.drew ?_))))
    · have hkb : (k != 0) = true := by simp [hk]
      rw [hN] at cq0 cq1 own ⊢
      dsimp only at cq0 cq1 own ⊢
      clear hN HX HN HV HC own hk bm
      have r0 := br.at_ 0 rfl
      have r1 := br.at_ 1 rfl
      have r2 := br.at_ 2 rfl
      have r3 := br.at_ 3 rfl
      have r4 := br.at_ 4 rfl
      have r5 := br.at_ 5 rfl
      have r6 := br.at_ 6 rfl
      have f0 := br.thaw 0
      have f1 := br.thaw 1
      have f2 := br.thaw 2
      have f3 := br.thaw 3
      have f4 := br.thaw 4
      have f5 := br.thaw 5
      have f6 := br.thaw 6
      have hl := br.lt
      go_wp2
      exact bodyPost_ret (v := .tuple #[.agg #[.int .i64 0, .slice none 0 0, .int .i64 0, .slice none 0 0, .int .i64 0, .slice none 0 0, .int .i64 0], .int .i64 2]) (by simp [results, go_sem, r0, r1, r2, r3, r4, r5, r6]) rfl (macC_err HR rfl (by have := HG.out; exact (by repeat (first | with_reducible exact hbel | with_reducible refine Below.setCell ?_ (by first | omega | (simp <;> omega)) _ | with_reducible refine Below.alloc ?_ (by first | omega | (simp <;> omega)) _ | with_reducible refine Below.drew ?_))))
end Go.Proofs.YtlahobdopmdfmaaDoor

/- MsdI -/
namespace Go.Proofs.YtlahobdopmdfmaaDoor
open Go.RowKit

theorem own_first {t : TypeId} {w : World} {lo hi n c : Nat} {A : Option Addr} {zs : List Int} (h : Own t w lo hi (.slice A n c) zs) (hn : 0 < zs.length) : ∃ p, A = some ⟨p, 0, none⟩ ∧ lo ≤ p ∧ p < hi := by
  rcases h.row.2 with ⟨_, h0⟩ | ⟨g, cap, cur, hv, _⟩
  · omega
  · injection hv with hA
    subst hA
    have := h.lo_le (k := g) rfl
    exact ⟨g, rfl, this.1, this.2.1⟩

/-- The machine with another digit of the setting. -/
def sdM (m : Mac) (k d : Int) : Mac := ⟨m.b1, m.z1.set k.toNat d, m.b2, m.z2, m.b3, m.z3, m.p⟩

set_option maxRecDepth 100000 in
set_option maxHeartbeats 8000000 in
theorem implSetDigit (m : Mac) (A1 : Option Addr) (C1 : Nat) (A2 : Option Addr) (C2 : Nat) (A3 : Option Addr) (C3 : Nat) (k d : Int) (w : World) (h : Rd3 w A1 m.z1 A2 m.z2 A3 m.z3) (z : All64 m.z1 ∧ All64 m.z2 ∧ All64 m.z3) (y : I64 m.b1 ∧ I64 m.b2 ∧ I64 m.b3 ∧ I64 m.p) (_ : I64 k) (_ : I64 d) (hD : BellD w) :
    Calls Tryd.prog 69 #[.agg #[.int .i64 m.b1, .slice A1 m.z1.length C1, .int .i64 m.b2, .slice A2 m.z2.length C2, .int .i64 m.b3, .slice A3 m.z3.length C3, .int .i64 m.p], .int .i64 k, .int .i64 d] w (MacC (sdR m k d) w) := by
  have R := Tryd.results69
  have hlen := h.len
  obtain ⟨g, hg⟩ : ∃ g, g = w.heap.size := ⟨_, rfl⟩
  obtain ⟨u, hu⟩ : ∃ u, u = (w.alloc (.cells #[.int .i64 m.b1, .slice A1 m.z1.length C1, .int .i64 m.b2, .slice A2 m.z2.length C2, .int .i64 m.b3, .slice A3 m.z3.length C3, .int .i64 m.p] 28)).alloc (.cells #[.int .i64 0, .slice none 0 0, .int .i64 0, .slice none 0 0, .int .i64 0, .slice none 0 0, .int .i64 0] 28) := ⟨_, rfl⟩
  have hbel : Below w.heap.size w u := by rw [hu]; exact (by repeat (first | exact Below.refl _ _ | refine Below.setCell ?_ (by first | omega | (simp <;> omega)) _ | refine Below.alloc ?_ (by first | omega | (simp <;> omega)) _ | refine Below.drew ?_))
  have bm : Bx u g 28 #[.int .i64 m.b1, .slice A1 m.z1.length C1, .int .i64 m.b2, .slice A2 m.z2.length C2, .int .i64 m.b3, .slice A3 m.z3.length C3, .int .i64 m.p] := by rw [hu, hg]; exact (Bx.new _ _ _).alloc _
  have br : Bx u (g + 1) 28 #[.int .i64 0, .slice none 0 0, .int .i64 0, .slice none 0 0, .int .i64 0, .slice none 0 0, .int .i64 0] := by rw [hu, hg]; simpa using Bx.new (w.alloc (.cells #[.int .i64 m.b1, .slice A1 m.z1.length C1, .int .i64 m.b2, .slice A2 m.z2.length C2, .int .i64 m.b3, .slice A3 m.z3.length C3, .int .i64 m.p] 28)) #[.int .i64 0, .slice none 0 0, .int .i64 0, .slice none 0 0, .int .i64 0, .slice none 0 0, .int .i64 0] 28
  have hgu : g + 1 < u.heap.size := br.lt
  have HV := Lib.hid (implValidMachine m A1 C1 A2 C2 A3 C3 u (h.below hbel) z y (hD.below hbel))
  have HB := Lib.hid (fun v => mBase_any m A1 C1 A2 C2 A3 C3 v)
  have HG := Lib.hid hg
  have HU := Lib.hid hu
  clear hu z hD y
  cases hm : macB m with
  | false =>
    have HR := Lib.hid (show sdR m k d = (mac0, 1) by simp [sdR, hm])
    rw [hm] at HV
    clear hm h
    go_enter Tryd.func69, Tryd.ntmps69
    go_wp2_with fail
    rw [← HU.out, ← hg]
    clear hg
    refine HV.out.mono ?_
    rintro e w1 ⟨rfl, hb⟩
    replace br := br.below hb
    replace hbel := hbel.trans (hb.mono hbel.size)
    clear hb bm
    have r0 := br.at_ 0 rfl
    have r1 := br.at_ 1 rfl
    have r2 := br.at_ 2 rfl
    have r3 := br.at_ 3 rfl
    have r4 := br.at_ 4 rfl
    have r5 := br.at_ 5 rfl
    have r6 := br.at_ 6 rfl
    have f0 := br.thaw 0
    have f1 := br.thaw 1
    have f2 := br.thaw 2
    have f3 := br.thaw 3
    have f4 := br.thaw 4
    have f5 := br.thaw 5
    have f6 := br.thaw 6
    have hl := br.lt
    go_wp2
    exact bodyPost_ret (v := .tuple #[.agg #[.int .i64 0, .slice none 0 0, .int .i64 0, .slice none 0 0, .int .i64 0, .slice none 0 0, .int .i64 0], .int .i64 1]) (by simp [results, go_sem, r0, r1, r2, r3, r4, r5, r6]) rfl (macC_err HR.out rfl (by have := HG.out; exact (by repeat (first | with_reducible exact hbel | with_reducible refine Below.setCell ?_ (by first | omega | (simp <;> omega)) _ | with_reducible refine Below.alloc ?_ (by first | omega | (simp <;> omega)) _ | with_reducible refine Below.drew ?_))))
  | true =>
    obtain ⟨e2, e3, b0, b1, n0, n12, n2, n3, n4, p0, p1, p2, d1, d2, d3⟩ := macB_facts hm
    have HC := Lib.hid (fun (v : World) (hb : Below w.heap.size w v) => copied_any m A1 C1 A2 C2 A3 C3 v (h.below hb) (by omega) (by omega) (by omega))
    have w1 : IntKind.i64.wrap ((m.z1.length : Int) - 1) = (m.z1.length : Int) - 1 := IntWalk.i64_in _ (by omega)
    have w2 : IntKind.i64.wrap (m.b1 - 1) = m.b1 - 1 := IntWalk.i64_in _ (by omega)
    obtain ⟨q1, hq1⟩ : ∃ q, inB k 0 ((m.z1.length : Int) - 1) = q := ⟨_, rfl⟩
    obtain ⟨q2, hq2⟩ : ∃ q, inB d 0 (m.b1 - 1) = q := ⟨_, rfl⟩
    have HR : Hid (sdR m k d = if (q1 && q2) = true then (sdM m k d, 0) else (mac0, 2)) := Lib.hid (by
      rw [sdR, if_pos hm, ← hq1, ← hq2, inB_eq, inB_eq]
      simp only [Bool.and_eq_true, decide_eq_true_eq]
      rfl)
    rw [hm] at HV
    clear hm e2 e3 n12 n2 n3 n4 p0 p1 p2 d1 d2 d3 h
    cases q1 with
    | false =>
      replace HR := Lib.hid (HR.out.trans (if_neg (by simp)))
      go_enter Tryd.func69, Tryd.ntmps69
      go_wp2_with fail
      rw [← HU.out, ← hg]
      clear hg
      refine HV.out.mono ?_
      rintro e w3 ⟨rfl, hb⟩
      replace bm := bm.below hb
      replace br := br.below hb
      replace hbel := hbel.trans (hb.mono hbel.size)
      have hz := hbel.size
      clear hb
      have c1 := bm.at_ 1 rfl
      go_wp2_with fail
      refine (within1_at 0 ((m.z1.length : Int) - 1) k _ w3.heap.size 1 (cell_new1 _ _ _)).mono ?_
      rintro e w4 ⟨rfl, hw⟩
      subst w4
      rw [hq1]
      replace br := br.alloc (.cells #[.int .i64 k] 2)
      replace hbel := hbel.alloc hz (.cells #[.int .i64 k] 2)
      obtain ⟨w5, hw5⟩ : ∃ v, v = w3.alloc (.cells #[.int .i64 k] 2) := ⟨_, rfl⟩
      rw [← hw5] at br hbel ⊢
      clear hw5 hq1 hq2 bm c1
      have r0 := br.at_ 0 rfl
      have r1 := br.at_ 1 rfl
      have r2 := br.at_ 2 rfl
      have r3 := br.at_ 3 rfl
      have r4 := br.at_ 4 rfl
      have r5 := br.at_ 5 rfl
      have r6 := br.at_ 6 rfl
      have f0 := br.thaw 0
      have f1 := br.thaw 1
      have f2 := br.thaw 2
      have f3 := br.thaw 3
      have f4 := br.thaw 4
      have f5 := br.thaw 5
      have f6 := br.thaw 6
      have hl := br.lt
      go_wp2
      exact bodyPost_ret (v := .tuple #[.agg #[.int .i64 0, .slice none 0 0, .int .i64 0, .slice none 0 0, .int .i64 0, .slice none 0 0, .int .i64 0], .int .i64 2]) (by simp [results, go_sem, r0, r1, r2, r3, r4, r5, r6]) rfl (macC_err HR.out rfl (by have := HG.out; exact (by repeat (first | with_reducible exact hbel | with_reducible refine Below.setCell ?_ (by first | omega | (simp <;> omega)) _ | with_reducible refine Below.alloc ?_ (by first | omega | (simp <;> omega)) _ | with_reducible refine Below.drew ?_))))
    | true =>
      cases q2 with
      | false =>
        replace HR := Lib.hid (HR.out.trans (if_neg (by simp)))
        go_enter Tryd.func69, Tryd.ntmps69
        go_wp2_with fail
        rw [← HU.out, ← hg]
        clear hg
        refine HV.out.mono ?_
        rintro e w3 ⟨rfl, hb⟩
        have hbb := Lib.hid (show g + 1 < w3.heap.size by have := hb.size; omega)
        replace bm := bm.below hb
        replace br := br.below hb
        replace hbel := hbel.trans (hb.mono hbel.size)
        have hz := hbel.size
        clear hb
        have c1 := bm.at_ 1 rfl
        go_wp2_with fail
        refine (within1_at 0 ((m.z1.length : Int) - 1) _ _ w3.heap.size 1 (cell_new1 _ _ _)).mono ?_
        rintro e w4 ⟨rfl, hw⟩
        subst w4
        rw [hq1]
        clear c1
        obtain ⟨w5, hw5⟩ : ∃ v, v = w3.alloc (.cells #[.int .i64 k] 2) := ⟨_, rfl⟩
        have hb : Below w3.heap.size w3 w5 := by rw [hw5]; exact (Below.refl _ _).alloc (Nat.le_refl _) _
        replace hbb := Lib.hid (show g + 1 < w5.heap.size by have := hb.size; have := hbb.out; omega)
        rw [← hw5]
        replace bm := bm.below hb
        replace br := br.below hb
        replace hbel := hbel.trans (hb.mono hbel.size)
        clear hw5 hb hq1
        have c0 := bm.at_ 0 rfl
        have c1 := bm.at_ 1 rfl
        have c2 := bm.at_ 2 rfl
        have c3 := bm.at_ 3 rfl
        have c4 := bm.at_ 4 rfl
        have c5 := bm.at_ 5 rfl
        have c6 := bm.at_ 6 rfl
        go_wp2_with fail
        refine (HB.out w5).mono ?_
        rintro e w6 ⟨rfl, hb⟩
        replace hbb := Lib.hid (show g + 1 < w6.heap.size by have := hb.size; have := hbb.out; omega)
        replace bm := bm.below hb
        replace br := br.below hb
        replace hbel := hbel.trans (hb.mono hbel.size)
        have hz2 := hbel.size
        clear hb c0 c1 c2 c3 c4 c5 c6
        go_wp2_with fail
        refine (within1_at 0 (m.b1 - 1) d _ w6.heap.size 1 (cell_new1 _ _ _)).mono ?_
        rintro e w7 ⟨rfl, hw⟩
        subst w7
        rw [hq2]
        obtain ⟨w8, hw8⟩ : ∃ v, v = w6.alloc (.cells #[.int .i64 d] 2) := ⟨_, rfl⟩
        have hb : Below w6.heap.size w6 w8 := by rw [hw8]; exact (Below.refl _ _).alloc (Nat.le_refl _) _
        replace hbb := Lib.hid (show g + 1 < w8.heap.size by have := hb.size; have := hbb.out; omega)
        rw [← hw8]
        replace bm := bm.below hb
        replace br := br.below hb
        replace hbel := hbel.trans (hb.mono hbel.size)
        clear hw8 hb hq2
        have r0 := br.at_ 0 rfl
        have r1 := br.at_ 1 rfl
        have r2 := br.at_ 2 rfl
        have r3 := br.at_ 3 rfl
        have r4 := br.at_ 4 rfl
        have r5 := br.at_ 5 rfl
        have r6 := br.at_ 6 rfl
        have f0 := br.thaw 0
        have f1 := br.thaw 1
        have f2 := br.thaw 2
        have f3 := br.thaw 3
        have f4 := br.thaw 4
        have f5 := br.thaw 5
        have f6 := br.thaw 6
        have hl := br.lt
        go_wp2
        exact bodyPost_ret (v := .tuple #[.agg #[.int .i64 0, .slice none 0 0, .int .i64 0, .slice none 0 0, .int .i64 0, .slice none 0 0, .int .i64 0], .int .i64 2]) (by simp [results, go_sem, r0, r1, r2, r3, r4, r5, r6]) rfl (macC_err HR.out rfl (by have := HG.out; exact (by repeat (first | with_reducible exact hbel | with_reducible refine Below.setCell ?_ (by first | omega | (simp <;> omega)) _ | with_reducible refine Below.alloc ?_ (by first | omega | (simp <;> omega)) _ | with_reducible refine Below.drew ?_))))
      | true =>
        replace HR := Lib.hid (HR.out.trans (if_pos rfl))
        obtain ⟨k0, k1⟩ := inB_true hq1
        obtain ⟨j, rfl⟩ := Int.eq_ofNat_of_zero_le k0
        have hj : j < m.z1.length := by omega
        go_enter Tryd.func69, Tryd.ntmps69
        go_wp2_with fail
        rw [← HU.out, ← hg]
        clear hg
        refine HV.out.mono ?_
        rintro e w3 ⟨rfl, hb⟩
        have hbb := Lib.hid (show g + 1 < w3.heap.size by have := hb.size; omega)
        replace bm := bm.below hb
        replace br := br.below hb
        replace hbel := hbel.trans (hb.mono hbel.size)
        have hz := hbel.size
        clear hb
        have c1 := bm.at_ 1 rfl
        go_wp2_with fail
        refine (within1_at 0 ((m.z1.length : Int) - 1) _ _ w3.heap.size 1 (cell_new1 _ _ _)).mono ?_
        rintro e w4 ⟨rfl, hw⟩
        subst w4
        rw [hq1]
        clear c1
        obtain ⟨w5, hw5⟩ : ∃ v, v = w3.alloc (.cells #[.int .i64 j] 2) := ⟨_, rfl⟩
        have hb : Below w3.heap.size w3 w5 := by rw [hw5]; exact (Below.refl _ _).alloc (Nat.le_refl _) _
        replace hbb := Lib.hid (show g + 1 < w5.heap.size by have := hb.size; have := hbb.out; omega)
        rw [← hw5]
        replace bm := bm.below hb
        replace br := br.below hb
        replace hbel := hbel.trans (hb.mono hbel.size)
        clear hw5 hb hq1
        have c0 := bm.at_ 0 rfl
        have c1 := bm.at_ 1 rfl
        have c2 := bm.at_ 2 rfl
        have c3 := bm.at_ 3 rfl
        have c4 := bm.at_ 4 rfl
        have c5 := bm.at_ 5 rfl
        have c6 := bm.at_ 6 rfl
        go_wp2_with fail
        refine (HB.out w5).mono ?_
        rintro e w6 ⟨rfl, hb⟩
        replace hbb := Lib.hid (show g + 1 < w6.heap.size by have := hb.size; have := hbb.out; omega)
        replace bm := bm.below hb
        replace br := br.below hb
        replace hbel := hbel.trans (hb.mono hbel.size)
        have hz2 := hbel.size
        clear hb c0 c1 c2 c3 c4 c5 c6
        go_wp2_with fail
        refine (within1_at 0 (m.b1 - 1) d _ w6.heap.size 1 (cell_new1 _ _ _)).mono ?_
        rintro e w7 ⟨rfl, hw⟩
        subst w7
        rw [hq2]
        obtain ⟨w8, hw8⟩ : ∃ v, v = w6.alloc (.cells #[.int .i64 d] 2) := ⟨_, rfl⟩
        have hb : Below w6.heap.size w6 w8 := by rw [hw8]; exact (Below.refl _ _).alloc (Nat.le_refl _) _
        replace hbb := Lib.hid (show g + 1 < w8.heap.size by have := hb.size; have := hbb.out; omega)
        rw [← hw8]
        replace bm := bm.below hb
        replace br := br.below hb
        replace hbel := hbel.trans (hb.mono hbel.size)
        clear hw8 hb hq2
        have c0 := bm.at_ 0 rfl
        have c1 := bm.at_ 1 rfl
        have c2 := bm.at_ 2 rfl
        have c3 := bm.at_ 3 rfl
        have c4 := bm.at_ 4 rfl
        have c5 := bm.at_ 5 rfl
        have c6 := bm.at_ 6 rfl
        have hz5 := hbel.size
        go_wp2_with fail
        refine (HC.out w8 hbel).mono ?_
        rintro e w9 ⟨D1, E1, D2, E2, D3, E3, rfl, own3, hb⟩
        have hz6 := hb.size
        replace br := br.below hb
        have hg8 : g + 1 < w8.heap.size := by have := hbb.out; omega
        replace hbel := hbel.trans (hb.mono hbel.size)
        clear hb c0 c1 c2 c3 c4 c5 c6 bm HC
        go_upto_region 6 with fail
        obtain ⟨c, hc⟩ : ∃ c, c = w9.heap.size := ⟨_, rfl⟩
        obtain ⟨V, hV⟩ : ∃ V, V = w9.alloc (.cells #[.int .i64 m.b1, .slice D1 m.z1.length E1, .int .i64 m.b2, .slice D2 m.z2.length E2, .int .i64 m.b3, .slice D3 m.z3.length E3, .int .i64 m.p] 28) := ⟨_, rfl⟩
        try rw [← hc, ← hV]
        have bc : Bx V c 28 #[.int .i64 m.b1, .slice D1 m.z1.length E1, .int .i64 m.b2, .slice D2 m.z2.length E2, .int .i64 m.b3, .slice D3 m.z3.length E3, .int .i64 m.p] := by rw [hV, hc]; exact Bx.new _ _ _
        have hb : Below w9.heap.size w9 V := by rw [hV]; exact (Below.refl _ _).alloc (Nat.le_refl _) _
        have hz7 := hb.size
        have hc3 : w9.heap.size ≤ c := by omega
        replace br := br.below hb
        replace own3 := own3.below hb
        replace hbel := hbel.trans (hb.mono hbel.size)
        clear hb hV hc
        obtain ⟨l1, h1, l2, h2, l3, h3, o1, o2, o3, s⟩ := own3.ex
        obtain ⟨P, rfl, hP1, hP2⟩ := own_first o1 (by omega)
        have x1 := bc.at_ 1 rfl
        have t1 := o1.thaw j
        have t2 := o1.get hj
        go_upto_region 7 with fail
        obtain ⟨V2, hV⟩ : ∃ V2, V2 = V.setCell ⟨P, j, none⟩ (.int .i64 d) := ⟨_, rfl⟩
        try rw [← hV]
        have o1v : Own 2 V2 l1 h1 (.slice (some ⟨P, 0, none⟩) m.z1.length E1) (m.z1.set j d) := by rw [hV]; exact o1.put j d
        have o2v : Own 2 V2 l2 h2 (.slice D2 m.z2.length E2) m.z2 := by rw [hV]; exact o2.setCell (by simp; omega) _
        have o3v : Own 2 V2 l3 h3 (.slice D3 m.z3.length E3) m.z3 := by rw [hV]; exact o3.setCell (by simp; omega) _
        have bcv : Bx V2 c 28 #[.int .i64 m.b1, .slice (some ⟨P, 0, none⟩) m.z1.length E1, .int .i64 m.b2, .slice D2 m.z2.length E2, .int .i64 m.b3, .slice D3 m.z3.length E3, .int .i64 m.p] := by rw [hV]; exact bc.far (by simp; omega) _
        have brv : Bx V2 (g + 1) 28 #[.int .i64 0, .slice none 0 0, .int .i64 0, .slice none 0 0, .int .i64 0, .slice none 0 0, .int .i64 0] := by rw [hV]; exact br.far (by simp; omega) _
        have hg0 := HG.out
        have hbv : Below w.heap.size w V2 := by rw [hV]; exact hbel.setCell (by simp; omega) _
        have hzv : V2.heap.size = V.heap.size := by rw [hV]; simp
        have HO : Hid (Own3 2 V2 (g + 2) V2.heap.size (.slice (some ⟨P, 0, none⟩) m.z1.length E1) (m.z1.set j d) (.slice D2 m.z2.length E2) m.z2 (.slice D3 m.z3.length E3) m.z3) := Lib.hid ⟨_, _, _, _, _, _, o1v, o2v, o3v, by omega⟩
        have HS := Lib.hid (show w.heap.size ≤ g + 2 by omega)
        have HM := Lib.hid (show sdM m j d = ⟨m.b1, m.z1.set j d, m.b2, m.z2, m.b3, m.z3, m.p⟩ from rfl)
        have HL := Lib.hid (show (m.z1.set j d).length = m.z1.length by simp)
        clear hV own3 o1 o2 o3 o1v o2v o3v bc br hbel x1 t1 t2 s hz hz2 hz5 hz6 hz7 hzv hg0 hc3 hgu hP1 hP2 hg8 hj k0 k1 n0 b0 b1
        have c0 := bcv.at_ 0 rfl
        have c1 := bcv.at_ 1 rfl
        have c2 := bcv.at_ 2 rfl
        have c3 := bcv.at_ 3 rfl
        have c4 := bcv.at_ 4 rfl
        have c5 := bcv.at_ 5 rfl
        have c6 := bcv.at_ 6 rfl
        have j0 := brv.at_ 0 rfl
        have j1 := brv.at_ 1 rfl
        have j2 := brv.at_ 2 rfl
        have j3 := brv.at_ 3 rfl
        have j4 := brv.at_ 4 rfl
        have j5 := brv.at_ 5 rfl
        have j6 := brv.at_ 6 rfl
        have f0 := brv.thaw 0
        have f1 := brv.thaw 1
        have f2 := brv.thaw 2
        have f3 := brv.thaw 3
        have f4 := brv.thaw 4
        have f5 := brv.thaw 5
        have f6 := brv.thaw 6
        have hl := brv.lt
        have bz : Bx (((((((V2.setCell ⟨g + 1, 0, none⟩ (.int .i64 m.b1)).setCell ⟨g + 1, 1, none⟩ (.slice (some ⟨P, 0, none⟩) m.z1.length E1)).setCell ⟨g + 1, 2, none⟩ (.int .i64 m.b2)).setCell ⟨g + 1, 3, none⟩ (.slice D2 m.z2.length E2)).setCell ⟨g + 1, 4, none⟩ (.int .i64 m.b3)).setCell ⟨g + 1, 5, none⟩ (.slice D3 m.z3.length E3)).setCell ⟨g + 1, 6, none⟩ (.int .i64 m.p)) (g + 1) 28 #[.int .i64 m.b1, .slice (some ⟨P, 0, none⟩) m.z1.length E1, .int .i64 m.b2, .slice D2 m.z2.length E2, .int .i64 m.b3, .slice D3 m.z3.length E3, .int .i64 m.p] := bx_put7 brv
        have r0 := bz.at_ 0 rfl
        have r1 := bz.at_ 1 rfl
        have r2 := bz.at_ 2 rfl
        have r3 := bz.at_ 3 rfl
        have r4 := bz.at_ 4 rfl
        have r5 := bz.at_ 5 rfl
        have r6 := bz.at_ 6 rfl
        clear bz
        go_wp2
        exact bodyPost_ret (v := .tuple #[.agg #[.int .i64 m.b1, .slice (some ⟨P, 0, none⟩) m.z1.length E1, .int .i64 m.b2, .slice D2 m.z2.length E2, .int .i64 m.b3, .slice D3 m.z3.length E3, .int .i64 m.p], .int .i64 0]) (by simp [results, go_sem, r0, r1, r2, r3, r4, r5, r6]) rfl
          (macC_ok (A1 := some ⟨P, 0, none⟩) (C1 := E1) (A2 := D2) (C2 := E2) (A3 := D3) (C3 := E3) (lo := g + 2) (hi := V2.heap.size) (HR.out.trans (by rw [HM.out])) (by rw [HL.out]) (by rw [HL.out]; exact (((((((HO.out.setCell (p := ⟨g + 1, 0, none⟩) (.inl (by simp)) _).setCell (p := ⟨g + 1, 1, none⟩) (.inl (by simp)) _).setCell (p := ⟨g + 1, 2, none⟩) (.inl (by simp)) _).setCell (p := ⟨g + 1, 3, none⟩) (.inl (by simp)) _).setCell (p := ⟨g + 1, 4, none⟩) (.inl (by simp)) _).setCell (p := ⟨g + 1, 5, none⟩) (.inl (by simp)) _).setCell (p := ⟨g + 1, 6, none⟩) (.inl (by simp)) _)) HS.out (by simp) (by have := HG.out; exact (by repeat (first | with_reducible exact hbv | with_reducible refine Below.setCell ?_ (by first | omega | (simp <;> omega)) _ | with_reducible refine Below.alloc ?_ (by first | omega | (simp <;> omega)) _ | with_reducible refine Below.drew ?_))))
end Go.Proofs.YtlahobdopmdfmaaDoor

/- MsvS -/
namespace Go.Proofs.YtlahobdopmdfmaaDoor
open Go.RowKit

theorem own_firstS {t : TypeId} {w : World} {lo hi n c : Nat} {A : Option Addr} {zs : List Int} (h : Own t w lo hi (.slice A n c) zs) (hn : 0 < zs.length) : ∃ p, A = some ⟨p, 0, none⟩ ∧ lo ≤ p ∧ p < hi := by
  rcases h.row.2 with ⟨_, h0⟩ | ⟨g, cap, cur, hv, _⟩
  · omega
  · injection hv with hA
    subst hA
    have := h.lo_le (k := g) rfl
    exact ⟨g, rfl, this.1, this.2.1⟩

set_option maxRecDepth 100000 in
set_option maxHeartbeats 8000000 in
theorem specSetValue (m : Mac) (A1 : Option Addr) (C1 : Nat) (A2 : Option Addr) (C2 : Nat) (A3 : Option Addr) (C3 : Nat) (x : Int) (w : World) (h : Rd3 w A1 m.z1 A2 m.z2 A3 m.z3) (_ : All64 m.z1 ∧ All64 m.z2 ∧ All64 m.z3) (_ : I64 m.b1 ∧ I64 m.b2 ∧ I64 m.b3 ∧ I64 m.p) (_ : I64 x) :
    Calls Tryd.prog 66 #[.agg #[.int .i64 m.b1, .slice A1 m.z1.length C1, .int .i64 m.b2, .slice A2 m.z2.length C2, .int .i64 m.b3, .slice A3 m.z3.length C3, .int .i64 m.p], .int .i64 x] w (MacC (svR m x) w) := by
  have R := Tryd.results66
  have hlen := h.len
  obtain ⟨g, hg⟩ : ∃ g, g = w.heap.size := ⟨_, rfl⟩
  obtain ⟨u, hu⟩ : ∃ u, u = (w.alloc (.cells #[.int .i64 m.b1, .slice A1 m.z1.length C1, .int .i64 m.b2, .slice A2 m.z2.length C2, .int .i64 m.b3, .slice A3 m.z3.length C3, .int .i64 m.p] 28)).alloc (.cells #[.int .i64 0, .slice none 0 0, .int .i64 0, .slice none 0 0, .int .i64 0, .slice none 0 0, .int .i64 0] 28) := ⟨_, rfl⟩
  have hbel : Below w.heap.size w u := by rw [hu]; exact (by repeat (first | exact Below.refl _ _ | refine Below.setCell ?_ (by first | omega | (simp <;> omega)) _ | refine Below.alloc ?_ (by first | omega | (simp <;> omega)) _ | refine Below.drew ?_))
  have bm : Bx u g 28 #[.int .i64 m.b1, .slice A1 m.z1.length C1, .int .i64 m.b2, .slice A2 m.z2.length C2, .int .i64 m.b3, .slice A3 m.z3.length C3, .int .i64 m.p] := by rw [hu, hg]; exact (Bx.new _ _ _).alloc _
  have br : Bx u (g + 1) 28 #[.int .i64 0, .slice none 0 0, .int .i64 0, .slice none 0 0, .int .i64 0, .slice none 0 0, .int .i64 0] := by rw [hu, hg]; simpa using Bx.new (w.alloc (.cells #[.int .i64 m.b1, .slice A1 m.z1.length C1, .int .i64 m.b2, .slice A2 m.z2.length C2, .int .i64 m.b3, .slice A3 m.z3.length C3, .int .i64 m.p] 28)) #[.int .i64 0, .slice none 0 0, .int .i64 0, .slice none 0 0, .int .i64 0, .slice none 0 0, .int .i64 0] 28
  have hgu : g + 1 < u.heap.size := br.lt
  have HV := Lib.hid (l10Ok_any g m A1 C1 A2 C2 A3 C3 u (h.below hbel) bm)
  have HG := Lib.hid hg
  have HU := Lib.hid hu
  clear hu
  cases hm : macB m with
  | false =>
    have HR := Lib.hid (show svR m x = (mac0, 1) by simp [svR, hm])
    rw [hm] at HV
    clear hm h
    go_enter Tryd.func66, Tryd.ntmps66
    go_wp2_with fail
    rw [← HU.out, ← hg]
    clear hg
    refine HV.out.mono ?_
    rintro e w1 ⟨rfl, hb⟩
    replace br := br.below hb
    replace hbel := hbel.trans (hb.mono hbel.size)
    clear hb bm
    have r0 := br.at_ 0 rfl
    have r1 := br.at_ 1 rfl
    have r2 := br.at_ 2 rfl
    have r3 := br.at_ 3 rfl
    have r4 := br.at_ 4 rfl
    have r5 := br.at_ 5 rfl
    have r6 := br.at_ 6 rfl
    have f0 := br.thaw 0
    have f1 := br.thaw 1
    have f2 := br.thaw 2
    have f3 := br.thaw 3
    have f4 := br.thaw 4
    have f5 := br.thaw 5
    have f6 := br.thaw 6
    have hl := br.lt
    go_wp2
    exact bodyPost_ret (v := .tuple #[.agg #[.int .i64 0, .slice none 0 0, .int .i64 0, .slice none 0 0, .int .i64 0, .slice none 0 0, .int .i64 0], .int .i64 1]) (by simp [results, go_sem, r0, r1, r2, r3, r4, r5, r6]) rfl (macC_err HR.out rfl (by have := HG.out; exact (by repeat (first | with_reducible exact hbel | with_reducible refine Below.setCell ?_ (by first | omega | (simp <;> omega)) _ | with_reducible refine Below.alloc ?_ (by first | omega | (simp <;> omega)) _ | with_reducible refine Below.drew ?_))))
  | true =>
    have hF := macB_spec hm
    obtain ⟨e2, e3, b0, b1, n0, n12, n2, n3, n4, p0, p1, p2, d1, d2, d3⟩ := macB_facts hm
    have hpw : m.b1 ^ m.z1.length - 1 ≤ 1000000000000 := by
      have := pow_mono' b0 n12
      have := hF.2.2.2.2.2.1
      omega
    have hpp := pow_pos' (show 1 ≤ m.b1 by omega) m.z1.length
    have HC := Lib.hid (fun (v : World) (hb : Below w.heap.size w v) (bp : Bx v g 28 #[.int .i64 m.b1, .slice A1 m.z1.length C1, .int .i64 m.b2, .slice A2 m.z2.length C2, .int .i64 m.b3, .slice A3 m.z3.length C3, .int .i64 m.p]) => l10Own_any g m A1 C1 A2 C2 A3 C3 v (h.below hb) (by omega) (by omega) (by omega) bp)
    have HP := Lib.hid (fun v => l10Power_any m.b1 m.z1.length v (by omega) b1 (by omega))
    rw [capW_full hpw] at HP
    have HR : Hid (svR m x = if inB x 0 (m.b1 ^ m.z1.length - 1) = true then (⟨m.b1, digsR m.b1 m.z1.length x, m.b2, m.z2, m.b3, m.z3, m.p⟩, 0) else (mac0, 2)) := Lib.hid (by
      rw [svR, if_pos hm, inB_dec]
      simp only [decide_eq_true_eq])
    have HN : Hid (inB x 0 (m.b1 ^ m.z1.length - 1) = true → ∀ v, Calls Tryd.prog 129 #[.int .i64 m.b1, .int .i64 m.z1.length, .int .i64 x] v fun e w' => ∃ A C,
        e = .returned (.tuple #[.agg #[.int .i64 m.b1, .slice A m.z1.length C], .int .i64 (leftR m.b1 m.z1.length x)]) ∧ Own 2 w' v.heap.size w'.heap.size (.slice A m.z1.length C) (digsR m.b1 m.z1.length x) ∧ Below v.heap.size v w') :=
      Lib.hid fun hi v => by
        have := inB_true hi
        exact specl02New_any m.b1 x m.z1.length v b0 b1 (by omega) this.1 (by omega)
    have HL := Lib.hid (digsR_len m.b1 m.z1.length x)
    obtain ⟨Z, hZ⟩ : ∃ Z, Z = digsR m.b1 m.z1.length x := ⟨_, rfl⟩
    rw [← hZ] at HR HN HL
    rw [hm] at HV
    clear hm hF e2 e3 n0 n12 n2 n3 n4 p0 p1 p2 d1 d2 d3 h hZ b0 b1
    obtain ⟨q, hq⟩ : ∃ q, q = m.b1 ^ m.z1.length := ⟨_, rfl⟩
    rw [← hq] at HP HR HN hpw hpp
    have w1 : IntKind.i64.wrap (q - 1) = q - 1 := IntWalk.i64_in _ (by omega)
    clear hq
    have HI := Lib.hid (fun v => l00In_any x 0 (q - 1) v)
    cases hx : inB x 0 (q - 1)
    all_goals
      rw [hx] at HI HR HN
      go_enter Tryd.func66, Tryd.ntmps66
      go_wp2_with fail
      rw [← HU.out, ← hg]
      clear hg
      refine HV.out.mono ?_
      rintro e w1 ⟨rfl, hb⟩
      have hz1 := hb.size
      replace bm := bm.below hb
      replace br := br.below hb
      replace hbel := hbel.trans (hb.mono hbel.size)
      clear hb
      have c0 := bm.at_ 0 rfl
      have c1 := bm.at_ 1 rfl
      go_wp2_with fail
      refine (HP.out w1).mono ?_
      rintro e w2 ⟨rfl, hw⟩
      subst w2
      go_wp2_with fail
      refine (HI.out w1).mono ?_
      rintro e w2 ⟨rfl, hw⟩
      subst w2
    · replace HR := Lib.hid (HR.out.trans (if_neg (by simp)))
      clear HN HI HP HV HC c0 c1 hx bm
      have r0 := br.at_ 0 rfl
      have r1 := br.at_ 1 rfl
      have r2 := br.at_ 2 rfl
      have r3 := br.at_ 3 rfl
      have r4 := br.at_ 4 rfl
      have r5 := br.at_ 5 rfl
      have r6 := br.at_ 6 rfl
      have f0 := br.thaw 0
      have f1 := br.thaw 1
      have f2 := br.thaw 2
      have f3 := br.thaw 3
      have f4 := br.thaw 4
      have f5 := br.thaw 5
      have f6 := br.thaw 6
      have hl := br.lt
      go_wp2
      exact bodyPost_ret (v := .tuple #[.agg #[.int .i64 0, .slice none 0 0, .int .i64 0, .slice none 0 0, .int .i64 0, .slice none 0 0, .int .i64 0], .int .i64 2]) (by simp [results, go_sem, r0, r1, r2, r3, r4, r5, r6]) rfl (macC_err HR.out rfl (by have := HG.out; exact (by repeat (first | with_reducible exact hbel | with_reducible refine Below.setCell ?_ (by first | omega | (simp <;> omega)) _ | with_reducible refine Below.alloc ?_ (by first | omega | (simp <;> omega)) _ | with_reducible refine Below.drew ?_))))
    · replace HR := Lib.hid (HR.out.trans (if_pos (by simp)))
      replace HN := Lib.hid (HN.out (by simp))
      clear HI HP HV hx
      go_wp2_with fail
      refine (HC.out w1 hbel bm).mono ?_
      rintro e w3 ⟨D1, E1, D2, E2, D3, E3, rfl, own3, hb⟩
      have hz3 := hb.size
      replace br := br.below hb
      replace bm := bm.below hb
      replace hbel := hbel.trans (hb.mono hbel.size)
      clear hb HC c0 c1
      have c0 := bm.at_ 0 rfl
      have c1 := bm.at_ 1 rfl
      go_upto_region 7 with fail
      obtain ⟨c, hc⟩ : ∃ c, c = w3.heap.size := ⟨_, rfl⟩
      obtain ⟨V, hV⟩ : ∃ V, V = w3.alloc (.cells #[.int .i64 m.b1, .slice D1 m.z1.length E1, .int .i64 m.b2, .slice D2 m.z2.length E2, .int .i64 m.b3, .slice D3 m.z3.length E3, .int .i64 m.p] 28) := ⟨_, rfl⟩
      try rw [← hc, ← hV]
      have bc : Bx V c 28 #[.int .i64 m.b1, .slice D1 m.z1.length E1, .int .i64 m.b2, .slice D2 m.z2.length E2, .int .i64 m.b3, .slice D3 m.z3.length E3, .int .i64 m.p] := by rw [hV, hc]; exact Bx.new _ _ _
      have hb : Below w3.heap.size w3 V := by rw [hV]; exact (Below.refl _ _).alloc (Nat.le_refl _) _
      have hz4 := hb.size
      have hcl := bc.lt
      have hc3 : w3.heap.size ≤ c := by omega
      replace br := br.below hb
      replace own3 := own3.below hb
      replace c0 := kept hb c0
      replace c1 := kept hb c1
      replace hbel := hbel.trans (hb.mono hbel.size)
      clear hb hV hc bm
      go_wp2_with fail
      refine (HN.out V).mono ?_
      rintro e w4 ⟨A, C, rfl, own, hb⟩
      have hz5 := hb.size
      replace br := br.below hb
      replace bc := bc.below hb
      replace own3 := own3.below hb
      replace hbel := hbel.trans (hb.mono hbel.size)
      clear hb c0 c1
      go_upto_region 8 with fail
      obtain ⟨d, hd⟩ : ∃ d, d = w4.heap.size := ⟨_, rfl⟩
      obtain ⟨V4, hV⟩ : ∃ V4, V4 = w4.alloc (.cells #[.int .i64 m.b1, .slice A m.z1.length C] 26) := ⟨_, rfl⟩
      try rw [← hd, ← hV]
      have bd : Bx V4 d 26 #[.int .i64 m.b1, .slice A m.z1.length C] := by rw [hV, hd]; exact Bx.new _ _ _
      have hb : Below w4.heap.size w4 V4 := by rw [hV]; exact (Below.refl _ _).alloc (Nat.le_refl _) _
      have hz6 := hb.size
      replace br := br.below hb
      replace bc := bc.below hb
      replace own3 := own3.below hb
      replace own := own.below hb
      replace hbel := hbel.trans (hb.mono hbel.size)
      clear hb hV hd
      obtain ⟨l1, h1, l2, h2, l3, h3, o1, o2, o3, s⟩ := own3.ex
      have x0 := bc.at_ 0 rfl
      have x1 := bc.at_ 1 rfl
      have y0 := bc.thaw 0
      have y1 := bc.thaw 1
      have c0 := bd.at_ 0 rfl
      have c1 := bd.at_ 1 rfl
      go_upto_region 9 with fail
      obtain ⟨V2, hV⟩ : ∃ V2, V2 = (V4.setCell ⟨c, 0, none⟩ (.int .i64 m.b1)).setCell ⟨c, 1, none⟩ (.slice A m.z1.length C) := ⟨_, rfl⟩
      try rw [← hV]
      have hg0 := HG.out
      have a2 : h2 ≤ c := by omega
      have a3 : h3 ≤ c := by omega
      have o1v : Own 2 V2 V.heap.size w4.heap.size (.slice A m.z1.length C) Z := by rw [hV]; exact (own.setCell (.inl (by simp; omega)) _).setCell (.inl (by simp; omega)) _
      have o2v : Own 2 V2 l2 h2 (.slice D2 m.z2.length E2) m.z2 := by rw [hV]; exact (o2.setCell (.inr (by simp; omega)) _).setCell (.inr (by simp; omega)) _
      have o3v : Own 2 V2 l3 h3 (.slice D3 m.z3.length E3) m.z3 := by rw [hV]; exact (o3.setCell (.inr (by simp; omega)) _).setCell (.inr (by simp; omega)) _
      have bcv : Bx V2 c 28 #[.int .i64 m.b1, .slice A m.z1.length C, .int .i64 m.b2, .slice D2 m.z2.length E2, .int .i64 m.b3, .slice D3 m.z3.length E3, .int .i64 m.p] := by rw [hV]; exact (bc.set_ 0 _).set_ 1 _
      have brv : Bx V2 (g + 1) 28 #[.int .i64 0, .slice none 0 0, .int .i64 0, .slice none 0 0, .int .i64 0, .slice none 0 0, .int .i64 0] := by rw [hV]; exact (br.far (by simp; omega) _).far (by simp; omega) _
      have hbv : Below w.heap.size w V2 := by rw [hV]; exact (by repeat (first | with_reducible exact hbel | with_reducible refine Below.setCell ?_ (by first | omega | (simp <;> omega)) _ | with_reducible refine Below.alloc ?_ (by first | omega | (simp <;> omega)) _ | with_reducible refine Below.drew ?_))
      have hzv : V2.heap.size = V4.heap.size := by rw [hV]; simp
      have HO : Hid (Own3 2 V2 (g + 2) V2.heap.size (.slice A m.z1.length C) Z (.slice D2 m.z2.length E2) m.z2 (.slice D3 m.z3.length E3) m.z3) := Lib.hid ⟨_, _, _, _, _, _, o1v, o2v, o3v, by omega⟩
      have HS := Lib.hid (show w.heap.size ≤ g + 2 by omega)
      clear hV own own3 o1 o2 o3 o1v o2v o3v bc br bd hbel x0 x1 y0 y1 c0 c1 s a2 a3 hz1 hz3 hz4 hz5 hz6 hzv hg0 hcl hc3 hgu
      have c0 := bcv.at_ 0 rfl
      have c1 := bcv.at_ 1 rfl
      have c2 := bcv.at_ 2 rfl
      have c3 := bcv.at_ 3 rfl
      have c4 := bcv.at_ 4 rfl
      have c5 := bcv.at_ 5 rfl
      have c6 := bcv.at_ 6 rfl
      have j0 := brv.at_ 0 rfl
      have j1 := brv.at_ 1 rfl
      have j2 := brv.at_ 2 rfl
      have j3 := brv.at_ 3 rfl
      have j4 := brv.at_ 4 rfl
      have j5 := brv.at_ 5 rfl
      have j6 := brv.at_ 6 rfl
      have f0 := brv.thaw 0
      have f1 := brv.thaw 1
      have f2 := brv.thaw 2
      have f3 := brv.thaw 3
      have f4 := brv.thaw 4
      have f5 := brv.thaw 5
      have f6 := brv.thaw 6
      have hl := brv.lt
      have bz : Bx (((((((V2.setCell ⟨g + 1, 0, none⟩ (.int .i64 m.b1)).setCell ⟨g + 1, 1, none⟩ (.slice A m.z1.length C)).setCell ⟨g + 1, 2, none⟩ (.int .i64 m.b2)).setCell ⟨g + 1, 3, none⟩ (.slice D2 m.z2.length E2)).setCell ⟨g + 1, 4, none⟩ (.int .i64 m.b3)).setCell ⟨g + 1, 5, none⟩ (.slice D3 m.z3.length E3)).setCell ⟨g + 1, 6, none⟩ (.int .i64 m.p)) (g + 1) 28 #[.int .i64 m.b1, .slice A m.z1.length C, .int .i64 m.b2, .slice D2 m.z2.length E2, .int .i64 m.b3, .slice D3 m.z3.length E3, .int .i64 m.p] := bx_put7 brv
      have r0 := bz.at_ 0 rfl
      have r1 := bz.at_ 1 rfl
      have r2 := bz.at_ 2 rfl
      have r3 := bz.at_ 3 rfl
      have r4 := bz.at_ 4 rfl
      have r5 := bz.at_ 5 rfl
      have r6 := bz.at_ 6 rfl
      clear bz
      go_wp2
      exact bodyPost_ret (v := .tuple #[.agg #[.int .i64 m.b1, .slice A m.z1.length C, .int .i64 m.b2, .slice D2 m.z2.length E2, .int .i64 m.b3, .slice D3 m.z3.length E3, .int .i64 m.p], .int .i64 0]) (by simp [results, go_sem, r0, r1, r2, r3, r4, r5, r6]) rfl
        (macC_ok (A1 := A) (C1 := C) (A2 := D2) (C2 := E2) (A3 := D3) (C3 := E3) (lo := g + 2) (hi := V2.heap.size) HR.out (by rw [HL.out]) (by rw [HL.out]; exact (((((((HO.out.setCell (p := ⟨g + 1, 0, none⟩) (.inl (by simp)) _).setCell (p := ⟨g + 1, 1, none⟩) (.inl (by simp)) _).setCell (p := ⟨g + 1, 2, none⟩) (.inl (by simp)) _).setCell (p := ⟨g + 1, 3, none⟩) (.inl (by simp)) _).setCell (p := ⟨g + 1, 4, none⟩) (.inl (by simp)) _).setCell (p := ⟨g + 1, 5, none⟩) (.inl (by simp)) _).setCell (p := ⟨g + 1, 6, none⟩) (.inl (by simp)) _)) HS.out (by simp) (by have := HG.out; exact (by repeat (first | with_reducible exact hbv | with_reducible refine Below.setCell ?_ (by first | omega | (simp <;> omega)) _ | with_reducible refine Below.alloc ?_ (by first | omega | (simp <;> omega)) _ | with_reducible refine Below.drew ?_))))

set_option maxRecDepth 100000 in
set_option maxHeartbeats 8000000 in
theorem specSetDigit (m : Mac) (A1 : Option Addr) (C1 : Nat) (A2 : Option Addr) (C2 : Nat) (A3 : Option Addr) (C3 : Nat) (k d : Int) (w : World) (h : Rd3 w A1 m.z1 A2 m.z2 A3 m.z3) (_ : All64 m.z1 ∧ All64 m.z2 ∧ All64 m.z3) (_ : I64 m.b1 ∧ I64 m.b2 ∧ I64 m.b3 ∧ I64 m.p) (_ : I64 k) (_ : I64 d) :
    Calls Tryd.prog 68 #[.agg #[.int .i64 m.b1, .slice A1 m.z1.length C1, .int .i64 m.b2, .slice A2 m.z2.length C2, .int .i64 m.b3, .slice A3 m.z3.length C3, .int .i64 m.p], .int .i64 k, .int .i64 d] w (MacC (sdR m k d) w) := by
  have R := Tryd.results68
  have hlen := h.len
  obtain ⟨g, hg⟩ : ∃ g, g = w.heap.size := ⟨_, rfl⟩
  obtain ⟨u, hu⟩ : ∃ u, u = (w.alloc (.cells #[.int .i64 m.b1, .slice A1 m.z1.length C1, .int .i64 m.b2, .slice A2 m.z2.length C2, .int .i64 m.b3, .slice A3 m.z3.length C3, .int .i64 m.p] 28)).alloc (.cells #[.int .i64 0, .slice none 0 0, .int .i64 0, .slice none 0 0, .int .i64 0, .slice none 0 0, .int .i64 0] 28) := ⟨_, rfl⟩
  have hbel : Below w.heap.size w u := by rw [hu]; exact (by repeat (first | exact Below.refl _ _ | refine Below.setCell ?_ (by first | omega | (simp <;> omega)) _ | refine Below.alloc ?_ (by first | omega | (simp <;> omega)) _ | refine Below.drew ?_))
  have bm : Bx u g 28 #[.int .i64 m.b1, .slice A1 m.z1.length C1, .int .i64 m.b2, .slice A2 m.z2.length C2, .int .i64 m.b3, .slice A3 m.z3.length C3, .int .i64 m.p] := by rw [hu, hg]; exact (Bx.new _ _ _).alloc _
  have br : Bx u (g + 1) 28 #[.int .i64 0, .slice none 0 0, .int .i64 0, .slice none 0 0, .int .i64 0, .slice none 0 0, .int .i64 0] := by rw [hu, hg]; simpa using Bx.new (w.alloc (.cells #[.int .i64 m.b1, .slice A1 m.z1.length C1, .int .i64 m.b2, .slice A2 m.z2.length C2, .int .i64 m.b3, .slice A3 m.z3.length C3, .int .i64 m.p] 28)) #[.int .i64 0, .slice none 0 0, .int .i64 0, .slice none 0 0, .int .i64 0, .slice none 0 0, .int .i64 0] 28
  have hgu : g + 1 < u.heap.size := br.lt
  have HV := Lib.hid (l10Ok_any g m A1 C1 A2 C2 A3 C3 u (h.below hbel) bm)
  have HG := Lib.hid hg
  have HU := Lib.hid hu
  clear hu
  cases hm : macB m with
  | false =>
    have HR := Lib.hid (show sdR m k d = (mac0, 1) by simp [sdR, hm])
    rw [hm] at HV
    clear hm h
    go_enter Tryd.func68, Tryd.ntmps68
    go_wp2_with fail
    rw [← HU.out, ← hg]
    clear hg
    refine HV.out.mono ?_
    rintro e w1 ⟨rfl, hb⟩
    replace br := br.below hb
    replace hbel := hbel.trans (hb.mono hbel.size)
    clear hb bm
    have r0 := br.at_ 0 rfl
    have r1 := br.at_ 1 rfl
    have r2 := br.at_ 2 rfl
    have r3 := br.at_ 3 rfl
    have r4 := br.at_ 4 rfl
    have r5 := br.at_ 5 rfl
    have r6 := br.at_ 6 rfl
    have f0 := br.thaw 0
    have f1 := br.thaw 1
    have f2 := br.thaw 2
    have f3 := br.thaw 3
    have f4 := br.thaw 4
    have f5 := br.thaw 5
    have f6 := br.thaw 6
    have hl := br.lt
    go_wp2
    exact bodyPost_ret (v := .tuple #[.agg #[.int .i64 0, .slice none 0 0, .int .i64 0, .slice none 0 0, .int .i64 0, .slice none 0 0, .int .i64 0], .int .i64 1]) (by simp [results, go_sem, r0, r1, r2, r3, r4, r5, r6]) rfl (macC_err HR.out rfl (by have := HG.out; exact (by repeat (first | with_reducible exact hbel | with_reducible refine Below.setCell ?_ (by first | omega | (simp <;> omega)) _ | with_reducible refine Below.alloc ?_ (by first | omega | (simp <;> omega)) _ | with_reducible refine Below.drew ?_))))
  | true =>
    obtain ⟨e2, e3, b0, b1, n0, n12, n2, n3, n4, p0, p1, p2, d1, d2, d3⟩ := macB_facts hm
    have HC := Lib.hid (fun (v : World) (hb : Below w.heap.size w v) (bp : Bx v g 28 #[.int .i64 m.b1, .slice A1 m.z1.length C1, .int .i64 m.b2, .slice A2 m.z2.length C2, .int .i64 m.b3, .slice A3 m.z3.length C3, .int .i64 m.p]) => l10Own_any g m A1 C1 A2 C2 A3 C3 v (h.below hb) (by omega) (by omega) (by omega) bp)
    have w1 : IntKind.i64.wrap ((m.z1.length : Int) - 1) = (m.z1.length : Int) - 1 := IntWalk.i64_in _ (by omega)
    have w2 : IntKind.i64.wrap (m.b1 - 1) = m.b1 - 1 := IntWalk.i64_in _ (by omega)
    obtain ⟨q1, hq1⟩ : ∃ q, inB k 0 ((m.z1.length : Int) - 1) = q := ⟨_, rfl⟩
    obtain ⟨q2, hq2⟩ : ∃ q, inB d 0 (m.b1 - 1) = q := ⟨_, rfl⟩
    have HR : Hid (sdR m k d = if (q1 && q2) = true then (⟨m.b1, m.z1.set k.toNat d, m.b2, m.z2, m.b3, m.z3, m.p⟩, 0) else (mac0, 2)) := Lib.hid (by
      rw [sdR, if_pos hm, ← hq1, ← hq2, inB_dec, inB_dec]
      simp only [Bool.and_eq_true, decide_eq_true_eq])
    have H1 := Lib.hid (fun v => l00In_any k 0 ((m.z1.length : Int) - 1) v)
    have H2 := Lib.hid (fun v => l00In_any d 0 (m.b1 - 1) v)
    rw [hm] at HV
    rw [hq1] at H1
    rw [hq2] at H2
    clear hm e2 e3 n12 n2 n3 n4 p0 p1 p2 d1 d2 d3 h
    cases hq : (q1 && q2) with
    | false =>
      rw [hq] at HR
      replace HR := Lib.hid (HR.out.trans (if_neg (by simp)))
      clear hq1 hq2 HC n0 b0 b1
      cases q1
      rotate_left
      cases q2
      rotate_left
      · cases hq
      all_goals
        clear hq
        go_enter Tryd.func68, Tryd.ntmps68
        go_wp2_with fail
        rw [← HU.out, ← hg]
        clear hg
        refine HV.out.mono ?_
        rintro e w3 ⟨rfl, hb⟩
        replace bm := bm.below hb
        replace br := br.below hb
        replace hbel := hbel.trans (hb.mono hbel.size)
        clear hb
        have c0 := bm.at_ 0 rfl
        have c1 := bm.at_ 1 rfl
        have r0 := br.at_ 0 rfl
        have r1 := br.at_ 1 rfl
        have r2 := br.at_ 2 rfl
        have r3 := br.at_ 3 rfl
        have r4 := br.at_ 4 rfl
        have r5 := br.at_ 5 rfl
        have r6 := br.at_ 6 rfl
        have f0 := br.thaw 0
        have f1 := br.thaw 1
        have f2 := br.thaw 2
        have f3 := br.thaw 3
        have f4 := br.thaw 4
        have f5 := br.thaw 5
        have f6 := br.thaw 6
        have hl := br.lt
        go_wp2_with (go_at_call 118; first | (with_reducible refine (H1.out _).mono ?_; rintro e w4 ⟨rfl, hw⟩; subst w4) | (with_reducible refine (H2.out _).mono ?_; rintro e w4 ⟨rfl, hw⟩; subst w4))
        exact bodyPost_ret (v := .tuple #[.agg #[.int .i64 0, .slice none 0 0, .int .i64 0, .slice none 0 0, .int .i64 0, .slice none 0 0, .int .i64 0], .int .i64 2]) (by simp [results, go_sem, r0, r1, r2, r3, r4, r5, r6]) rfl (macC_err HR.out rfl (by have := HG.out; exact (by repeat (first | with_reducible exact hbel | with_reducible refine Below.setCell ?_ (by first | omega | (simp <;> omega)) _ | with_reducible refine Below.alloc ?_ (by first | omega | (simp <;> omega)) _ | with_reducible refine Below.drew ?_))))
    | true =>
      rw [hq] at HR
      replace HR := Lib.hid (HR.out.trans (if_pos (by simp)))
      obtain ⟨rfl, rfl⟩ : q1 = true ∧ q2 = true := by revert hq; cases q1 <;> cases q2 <;> simp
      obtain ⟨k0, k1⟩ := inB_true hq1
      obtain ⟨j, rfl⟩ := Int.eq_ofNat_of_zero_le k0
      have hj : j < m.z1.length := by omega
      clear hq hq1 hq2 k0 k1
      rw [Int.toNat_natCast] at HR
      go_enter Tryd.func68, Tryd.ntmps68
      go_wp2_with fail
      rw [← HU.out, ← hg]
      clear hg
      refine HV.out.mono ?_
      rintro e w3 ⟨rfl, hb⟩
      have hz1 := hb.size
      replace bm := bm.below hb
      replace br := br.below hb
      replace hbel := hbel.trans (hb.mono hbel.size)
      clear hb
      have c0 := bm.at_ 0 rfl
      have c1 := bm.at_ 1 rfl
      go_wp2_with (go_at_call 118; first | (with_reducible refine (H1.out _).mono ?_; rintro e w4 ⟨rfl, hw⟩; subst w4) | (with_reducible refine (H2.out _).mono ?_; rintro e w4 ⟨rfl, hw⟩; subst w4))
      refine (HC.out w3 hbel bm).mono ?_
      rintro e w9 ⟨D1, E1, D2, E2, D3, E3, rfl, own3, hb⟩
      have hz6 := hb.size
      replace br := br.below hb
      replace hbel := hbel.trans (hb.mono hbel.size)
      clear hb c0 c1 bm HC
      go_upto_region 6 with fail
      obtain ⟨c, hc⟩ : ∃ c, c = w9.heap.size := ⟨_, rfl⟩
      obtain ⟨V, hV⟩ : ∃ V, V = w9.alloc (.cells #[.int .i64 m.b1, .slice D1 m.z1.length E1, .int .i64 m.b2, .slice D2 m.z2.length E2, .int .i64 m.b3, .slice D3 m.z3.length E3, .int .i64 m.p] 28) := ⟨_, rfl⟩
      try rw [← hc, ← hV]
      have bc : Bx V c 28 #[.int .i64 m.b1, .slice D1 m.z1.length E1, .int .i64 m.b2, .slice D2 m.z2.length E2, .int .i64 m.b3, .slice D3 m.z3.length E3, .int .i64 m.p] := by rw [hV, hc]; exact Bx.new _ _ _
      have hb : Below w9.heap.size w9 V := by rw [hV]; exact (Below.refl _ _).alloc (Nat.le_refl _) _
      have hz7 := hb.size
      have hc3 : w9.heap.size ≤ c := by omega
      replace br := br.below hb
      replace own3 := own3.below hb
      replace hbel := hbel.trans (hb.mono hbel.size)
      clear hb hV hc
      obtain ⟨l1, h1, l2, h2, l3, h3, o1, o2, o3, s⟩ := own3.ex
      obtain ⟨P, rfl, hP1, hP2⟩ := own_firstS o1 (by omega)
      have x1 := bc.at_ 1 rfl
      have t1 := o1.thaw j
      have t2 := o1.get hj
      go_upto_region 7 with fail
      obtain ⟨V2, hV⟩ : ∃ V2, V2 = V.setCell ⟨P, j, none⟩ (.int .i64 d) := ⟨_, rfl⟩
      try rw [← hV]
      have o1v : Own 2 V2 l1 h1 (.slice (some ⟨P, 0, none⟩) m.z1.length E1) (m.z1.set j d) := by rw [hV]; exact o1.put j d
      have o2v : Own 2 V2 l2 h2 (.slice D2 m.z2.length E2) m.z2 := by rw [hV]; exact o2.setCell (by simp; omega) _
      have o3v : Own 2 V2 l3 h3 (.slice D3 m.z3.length E3) m.z3 := by rw [hV]; exact o3.setCell (by simp; omega) _
      have bcv : Bx V2 c 28 #[.int .i64 m.b1, .slice (some ⟨P, 0, none⟩) m.z1.length E1, .int .i64 m.b2, .slice D2 m.z2.length E2, .int .i64 m.b3, .slice D3 m.z3.length E3, .int .i64 m.p] := by rw [hV]; exact bc.far (by simp; omega) _
      have brv : Bx V2 (g + 1) 28 #[.int .i64 0, .slice none 0 0, .int .i64 0, .slice none 0 0, .int .i64 0, .slice none 0 0, .int .i64 0] := by rw [hV]; exact br.far (by simp; omega) _
      have hg0 := HG.out
      have hbv : Below w.heap.size w V2 := by rw [hV]; exact hbel.setCell (by simp; omega) _
      have hzv : V2.heap.size = V.heap.size := by rw [hV]; simp
      have HO : Hid (Own3 2 V2 (g + 2) V2.heap.size (.slice (some ⟨P, 0, none⟩) m.z1.length E1) (m.z1.set j d) (.slice D2 m.z2.length E2) m.z2 (.slice D3 m.z3.length E3) m.z3) := Lib.hid ⟨_, _, _, _, _, _, o1v, o2v, o3v, by omega⟩
      have HS := Lib.hid (show w.heap.size ≤ g + 2 by omega)
      have HL := Lib.hid (show (m.z1.set j d).length = m.z1.length by simp)
      clear hV own3 o1 o2 o3 o1v o2v o3v bc br hbel x1 t1 t2 s hz1 hz6 hz7 hzv hg0 hc3 hgu hP1 hP2 hj n0 b0 b1 H1 H2 HV w1 w2
      have c0 := bcv.at_ 0 rfl
      have c1 := bcv.at_ 1 rfl
      have c2 := bcv.at_ 2 rfl
      have c3 := bcv.at_ 3 rfl
      have c4 := bcv.at_ 4 rfl
      have c5 := bcv.at_ 5 rfl
      have c6 := bcv.at_ 6 rfl
      have j0 := brv.at_ 0 rfl
      have j1 := brv.at_ 1 rfl
      have j2 := brv.at_ 2 rfl
      have j3 := brv.at_ 3 rfl
      have j4 := brv.at_ 4 rfl
      have j5 := brv.at_ 5 rfl
      have j6 := brv.at_ 6 rfl
      have f0 := brv.thaw 0
      have f1 := brv.thaw 1
      have f2 := brv.thaw 2
      have f3 := brv.thaw 3
      have f4 := brv.thaw 4
      have f5 := brv.thaw 5
      have f6 := brv.thaw 6
      have hl := brv.lt
      have bz : Bx (((((((V2.setCell ⟨g + 1, 0, none⟩ (.int .i64 m.b1)).setCell ⟨g + 1, 1, none⟩ (.slice (some ⟨P, 0, none⟩) m.z1.length E1)).setCell ⟨g + 1, 2, none⟩ (.int .i64 m.b2)).setCell ⟨g + 1, 3, none⟩ (.slice D2 m.z2.length E2)).setCell ⟨g + 1, 4, none⟩ (.int .i64 m.b3)).setCell ⟨g + 1, 5, none⟩ (.slice D3 m.z3.length E3)).setCell ⟨g + 1, 6, none⟩ (.int .i64 m.p)) (g + 1) 28 #[.int .i64 m.b1, .slice (some ⟨P, 0, none⟩) m.z1.length E1, .int .i64 m.b2, .slice D2 m.z2.length E2, .int .i64 m.b3, .slice D3 m.z3.length E3, .int .i64 m.p] := bx_put7 brv
      have r0 := bz.at_ 0 rfl
      have r1 := bz.at_ 1 rfl
      have r2 := bz.at_ 2 rfl
      have r3 := bz.at_ 3 rfl
      have r4 := bz.at_ 4 rfl
      have r5 := bz.at_ 5 rfl
      have r6 := bz.at_ 6 rfl
      clear bz
      go_wp2
      exact bodyPost_ret (v := .tuple #[.agg #[.int .i64 m.b1, .slice (some ⟨P, 0, none⟩) m.z1.length E1, .int .i64 m.b2, .slice D2 m.z2.length E2, .int .i64 m.b3, .slice D3 m.z3.length E3, .int .i64 m.p], .int .i64 0]) (by simp [results, go_sem, r0, r1, r2, r3, r4, r5, r6]) rfl
        (macC_ok (A1 := some ⟨P, 0, none⟩) (C1 := E1) (A2 := D2) (C2 := E2) (A3 := D3) (C3 := E3) (lo := g + 2) (hi := V2.heap.size) HR.out (by rw [HL.out]) (by rw [HL.out]; exact (((((((HO.out.setCell (p := ⟨g + 1, 0, none⟩) (.inl (by simp)) _).setCell (p := ⟨g + 1, 1, none⟩) (.inl (by simp)) _).setCell (p := ⟨g + 1, 2, none⟩) (.inl (by simp)) _).setCell (p := ⟨g + 1, 3, none⟩) (.inl (by simp)) _).setCell (p := ⟨g + 1, 4, none⟩) (.inl (by simp)) _).setCell (p := ⟨g + 1, 5, none⟩) (.inl (by simp)) _).setCell (p := ⟨g + 1, 6, none⟩) (.inl (by simp)) _)) HS.out (by simp) (by have := HG.out; exact (by repeat (first | with_reducible exact hbv | with_reducible refine Below.setCell ?_ (by first | omega | (simp <;> omega)) _ | with_reducible refine Below.alloc ?_ (by first | omega | (simp <;> omega)) _ | with_reducible refine Below.drew ?_))))
end Go.Proofs.YtlahobdopmdfmaaDoor
