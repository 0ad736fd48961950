/-
  impl: the number that is shown, and whether the bell rings; the number of an accumulator; NumberOf.
-/
import Derived.Test.YtlahobdopmdfmaaDoorCirI
import Derived.Test.YtlahobdopmdfmaaDoorFin
import Derived.Test.YtlahobdopmdfmaaDoorNewReg
import Derived.Test.YtlahobdopmdfmaaDoorOrd
import Derived.Deep.Cut
namespace Go.Proofs.YtlahobdopmdfmaaDoor
open Go.RowKit

/-- The error of the bell, as a value. -/
def bellV (a : Addr) : Value := .iface 220 (.pointer (some a))
/-- errBell holds it. -/
def BellAt (w : World) (a : Addr) : Prop := w.cell? ⟨0, 0, none⟩ = some (bellV a)
/-- Whichever it is. -/
def BellD (w : World) : Prop := ∃ a, BellAt w a
theorem BellAt.below {w w' : World} {a : Addr} (h : BellAt w a) (hb : Below w.heap.size w w') : BellAt w' a := kept hb h
theorem BellD.below {w w' : World} (h : BellD w) (hb : Below w.heap.size w w') : BellD w' := h.elim fun a ha => ⟨a, ha.below hb⟩

set_option maxHeartbeats 4000000 in
theorem shown_in (B n N x : Int) (w : World) (h1 : 1 ≤ N) (h2 : N ≤ 1000000000001) (bx : I64 x) (hi : inA N x = true) :
    Calls Tryd.prog 106 #[.agg #[.int .i64 B, .int .i64 n, .int .i64 N], .int .i64 x] w fun e w' => e = .returned (.tuple #[.int .i64 x, .nilIface]) ∧ Below w.heap.size w w' := by
  have hs : shn N x = x := (shn_eq h1 x).2 hi
  obtain ⟨u, hu⟩ : ∃ u, u = w.alloc (.cells #[.int .i64 B, .int .i64 n, .int .i64 N] 113) := ⟨_, rfl⟩
  have bc : Bx u w.heap.size 113 #[.int .i64 B, .int .i64 n, .int .i64 N] := by rw [hu]; exact Bx.new _ _ _
  have hbel : Below w.heap.size w u := by rw [hu]; exact (by repeat (first | exact Below.refl _ _ | refine Below.setCell ?_ (by first | omega | (simp <;> omega)) _ | refine Below.alloc ?_ (by first | omega | (simp <;> omega)) _ | refine Below.drew ?_))
  have HU := Lib.hid hu
  have HM := Lib.hid (fun w => modulo_any x N w h1 h2)
  have HG := Lib.hid (fun w => greatest_any B n N w h1 h2)
  have q1 := Int.emod_nonneg x (show N ≠ 0 by omega)
  have q2 := Int.emod_lt_of_pos x (show 0 < N by omega)
  unfold shn at hs
  obtain ⟨q, hq⟩ : ∃ q, q = x % N := ⟨_, rfl⟩
  obtain ⟨g, hg⟩ : ∃ g, g = N - 1 + -(N / 2) := ⟨_, rfl⟩
  rw [← hq] at HM q1 q2
  rw [← hq, ← hg] at hs
  rw [← hg] at HG
  have HU := Lib.hid hu
  have c0 := bc.at_ 0 rfl
  have c1 := bc.at_ 1 rfl
  have c2 := bc.at_ 2 rfl
  clear hu hq hg hi
  by_cases hc : g < q
  · rw [if_pos hc] at hs
    have hne : (q - N == x) = true := by simp [hs]
    go_enter Tryd.func106, Tryd.ntmps106
    go_wp2_with fail
    rw [← HU.out]
    refine (HM.out _).mono ?_
    rintro e w1 ⟨rfl, hw⟩
    subst w1
    go_wp2_with fail
    refine (HG.out _).mono ?_
    rintro e w2 ⟨rfl, hb⟩
    have d2 := kept hb c2
    clear c0 c1 c2
    go_wp2
    exact bodyPost_ret (v := .tuple #[.int .i64 x, .nilIface]) (by simp [results, Tryd.results106, go_sem]) rfl ⟨rfl, hbel.trans (hb.mono hbel.size)⟩
  · rw [if_neg hc] at hs
    subst x
    go_enter Tryd.func106, Tryd.ntmps106
    go_wp2_with fail
    rw [← HU.out]
    refine (HM.out _).mono ?_
    rintro e w1 ⟨rfl, hw⟩
    subst w1
    go_wp2_with fail
    refine (HG.out _).mono ?_
    rintro e w2 ⟨rfl, hb⟩
    have d2 := kept hb c2
    clear c0 c1 c2
    go_wp2
    exact bodyPost_ret (v := .tuple #[.int .i64 q, .nilIface]) (by simp [results, Tryd.results106, go_sem]) rfl ⟨rfl, hbel.trans (hb.mono hbel.size)⟩

set_option maxHeartbeats 4000000 in
theorem shown_out (B n N x : Int) (a : Addr) (w : World) (h1 : 1 ≤ N) (h2 : N ≤ 1000000000001) (_ : I64 x) (hi : inA N x = false) (hl : BellAt w a) :
    Calls Tryd.prog 106 #[.agg #[.int .i64 B, .int .i64 n, .int .i64 N], .int .i64 x] w fun e w' => e = .returned (.tuple #[.int .i64 (shn N x), bellV a]) ∧ Below w.heap.size w w' := by
  have hs : ¬ shn N x = x := by rw [shn_eq h1 x, hi]; simp
  obtain ⟨u, hu⟩ : ∃ u, u = w.alloc (.cells #[.int .i64 B, .int .i64 n, .int .i64 N] 113) := ⟨_, rfl⟩
  have bc : Bx u w.heap.size 113 #[.int .i64 B, .int .i64 n, .int .i64 N] := by rw [hu]; exact Bx.new _ _ _
  have hbel : Below w.heap.size w u := by rw [hu]; exact (by repeat (first | exact Below.refl _ _ | refine Below.setCell ?_ (by first | omega | (simp <;> omega)) _ | refine Below.alloc ?_ (by first | omega | (simp <;> omega)) _ | refine Below.drew ?_))
  have HU := Lib.hid hu
  have HM := Lib.hid (fun w => modulo_any x N w h1 h2)
  have HG := Lib.hid (fun w => greatest_any B n N w h1 h2)
  have q1 := Int.emod_nonneg x (show N ≠ 0 by omega)
  have q2 := Int.emod_lt_of_pos x (show 0 < N by omega)
  obtain ⟨y, hy⟩ : ∃ y, y = shn N x := ⟨_, rfl⟩
  rw [← hy] at hs ⊢
  unfold shn at hy
  obtain ⟨q, hq⟩ : ∃ q, q = x % N := ⟨_, rfl⟩
  obtain ⟨g, hg⟩ : ∃ g, g = N - 1 + -(N / 2) := ⟨_, rfl⟩
  rw [← hq] at HM q1 q2
  rw [← hq, ← hg] at hy
  rw [← hg] at HG
  have c0 := bc.at_ 0 rfl
  have c1 := bc.at_ 1 rfl
  have c2 := bc.at_ 2 rfl
  replace hl := hl.below hbel
  clear hu hq hg hi
  by_cases hc : g < q
  · rw [if_pos hc] at hy
    subst y
    go_enter Tryd.func106, Tryd.ntmps106
    go_wp2_with fail
    rw [← HU.out]
    refine (HM.out _).mono ?_
    rintro e w1 ⟨rfl, hw⟩
    subst w1
    go_wp2_with fail
    refine (HG.out _).mono ?_
    rintro e w2 ⟨rfl, hb⟩
    have d2 := kept hb c2
    have d3 : ∀ u : After w2, u.now.cell? ⟨0, 0, none⟩ = some (bellV a) := kept_after (hl.below hb)
    clear c0 c1 c2
    go_wp2
    refine wp_region_after (by kernel_rfl) (by kernel_rfl) ?_
    repeat (go_big_quiet_step (fail))
    refine wpQuiet_nil ?_
    intro u2
    go_wp2
    exact bodyPost_ret (v := .tuple #[.int .i64 (q - N), bellV a]) (by simp [results, Tryd.results106, go_sem]) rfl ⟨rfl, (hbel.trans (hb.mono hbel.size)).trans (u2.ok.mono (hbel.trans (hb.mono hbel.size)).size)⟩
  · rw [if_neg hc] at hy
    subst y
    go_enter Tryd.func106, Tryd.ntmps106
    go_wp2_with fail
    rw [← HU.out]
    refine (HM.out _).mono ?_
    rintro e w1 ⟨rfl, hw⟩
    subst w1
    go_wp2_with fail
    refine (HG.out _).mono ?_
    rintro e w2 ⟨rfl, hb⟩
    have d2 := kept hb c2
    have d3 : ∀ u : After w2, u.now.cell? ⟨0, 0, none⟩ = some (bellV a) := kept_after (hl.below hb)
    clear c0 c1 c2
    go_wp2
    refine wp_region_after (by kernel_rfl) (by kernel_rfl) ?_
    repeat (go_big_quiet_step (fail))
    refine wpQuiet_nil ?_
    intro u2
    go_wp2
    exact bodyPost_ret (v := .tuple #[.int .i64 q, bellV a]) (by simp [results, Tryd.results106, go_sem]) rfl ⟨rfl, (hbel.trans (hb.mono hbel.size)).trans (u2.ok.mono (hbel.trans (hb.mono hbel.size)).size)⟩

/-- Whatever is shown. -/
theorem shown_any (B n N x : Int) (a : Addr) (w : World) (h1 : 1 ≤ N) (h2 : N ≤ 1000000000001) (bx : I64 x) (hl : BellAt w a) :
    Calls Tryd.prog 106 #[.agg #[.int .i64 B, .int .i64 n, .int .i64 N], .int .i64 x] w fun e w' => ∃ v, e = .returned (.tuple #[.int .i64 (shn N x), v]) ∧ Below w.heap.size w w' := by
  cases hi : inA N x with
  | true => exact (shown_in B n N x w h1 h2 bx hi).mono fun e w' h => ⟨.nilIface, by rw [(shn_eq h1 x).2 hi]; exact h.1, h.2⟩
  | false => exact (shown_out B n N x a w h1 h2 bx hi hl).mono fun e w' h => ⟨_, h.1, h.2⟩

set_option maxHeartbeats 4000000 in
set_option maxRecDepth 100000 in
theorem accOf_no (xB : Int) (xA : Option Addr) (xC : Nat) (xZ : List Int) (w : World) (ha : Rd w xA xZ) (z : All64 xZ) (b : I64 xB) (h : accB xB xZ = false) :
    Calls Tryd.prog 123 #[.agg #[.int .i64 xB, .slice xA xZ.length xC]] w fun e w' => e = .returned (.tuple #[.agg #[.int .i64 0, .int .i64 0, .int .i64 0], .int .i64 0, .bool false]) ∧ Below w.heap.size w w' := by
  have R := Tryd.results123
  have hbel : Below w.heap.size w w := Below.refl _ _
  cases ho : okB xB xZ with
  | false =>
    have HV := Lib.hid (show vofR xB xZ = (0, 1) by simp [vofR, ho])
    go_enter Tryd.func123, Tryd.ntmps123
    go_wp2_with fail
    obtain ⟨p, hp⟩ : ∃ g, g = w.heap.size := ⟨_, rfl⟩
    have hk_p : w.heap.size ≤ p := Nat.le_of_eq hp.symm
    obtain ⟨u, hu⟩ : ∃ V, V = (w.alloc (.cells #[.int .i64 xB, .slice xA xZ.length xC] 26)).alloc (.cells #[.int .i64 0, .int .i64 0, .int .i64 0] 113) := ⟨_, rfl⟩
    have b_p : Bx u p 26 #[.int .i64 xB, .slice xA xZ.length xC] := by rw [hu, hp]; exact (Bx.new _ _ _).alloc _
    have b_p1 : Bx u (p + 1) 113 #[.int .i64 0, .int .i64 0, .int .i64 0] := by rw [hu, hp]; simpa using Bx.new (w.alloc (.cells #[.int .i64 xB, .slice xA xZ.length xC] 26)) #[.int .i64 0, .int .i64 0, .int .i64 0] 113
    have hb : Below w.heap.size w u := by rw [hu]; exact ((Below.refl _ _).alloc (Nat.le_refl _) _).alloc (by simp) _
    rw [← hp, ← hu]
    clear hu hp
    replace ha := ha.below hb
    replace hbel := hbel.trans (hb.mono hbel.size)
    clear hb
    refine (implValueOf xB xA xC xZ u ha z b).mono ?_
    rintro e v ⟨rfl, hb⟩
    rw [HV.out]
    replace ha := ha.below hb
    replace b_p := b_p.below hb
    replace b_p1 := b_p1.below hb
    replace hbel := hbel.trans (hb.mono hbel.size)
    clear hb
    have r0 := b_p1.at_ 0 rfl
    have r1 := b_p1.at_ 1 rfl
    have r2 := b_p1.at_ 2 rfl
    have f0 := b_p1.thaw 0
    have f1 := b_p1.thaw 1
    have f2 := b_p1.thaw 2
    have hl := b_p1.lt
    go_wp2
    exact bodyPost_ret (v := .tuple #[.agg #[.int .i64 0, .int .i64 0, .int .i64 0], .int .i64 0, .bool false]) (by simp [results, go_sem, r0, r1, r2]) rfl ⟨rfl, (by repeat (first | with_reducible exact hbel | with_reducible refine Below.setCell ?_ (by first | omega | (simp <;> omega)) _ | with_reducible refine Below.alloc ?_ (by first | omega | (simp <;> omega)) _ | with_reducible refine Below.drew ?_))⟩
  | true =>
    have HV := Lib.hid (show vofR xB xZ = (valR xB xZ, 0) by simp [vofR, ho])
    have hf : fullB xB (xZ.length : Int) = false := by rw [← accB_of_full ho, h]
    go_enter Tryd.func123, Tryd.ntmps123
    go_wp2_with fail
    obtain ⟨p, hp⟩ : ∃ g, g = w.heap.size := ⟨_, rfl⟩
    have hk_p : w.heap.size ≤ p := Nat.le_of_eq hp.symm
    obtain ⟨u, hu⟩ : ∃ V, V = (w.alloc (.cells #[.int .i64 xB, .slice xA xZ.length xC] 26)).alloc (.cells #[.int .i64 0, .int .i64 0, .int .i64 0] 113) := ⟨_, rfl⟩
    have b_p : Bx u p 26 #[.int .i64 xB, .slice xA xZ.length xC] := by rw [hu, hp]; exact (Bx.new _ _ _).alloc _
    have b_p1 : Bx u (p + 1) 113 #[.int .i64 0, .int .i64 0, .int .i64 0] := by rw [hu, hp]; simpa using Bx.new (w.alloc (.cells #[.int .i64 xB, .slice xA xZ.length xC] 26)) #[.int .i64 0, .int .i64 0, .int .i64 0] 113
    have hb : Below w.heap.size w u := by rw [hu]; exact ((Below.refl _ _).alloc (Nat.le_refl _) _).alloc (by simp) _
    rw [← hp, ← hu]
    clear hu hp
    replace ha := ha.below hb
    replace hbel := hbel.trans (hb.mono hbel.size)
    clear hb
    refine (implValueOf xB xA xC xZ u ha z b).mono ?_
    rintro e v ⟨rfl, hb⟩
    rw [HV.out]
    replace ha := ha.below hb
    replace b_p := b_p.below hb
    replace b_p1 := b_p1.below hb
    replace hbel := hbel.trans (hb.mono hbel.size)
    clear hb
    have c0 := b_p.at_ 0 rfl
    have c1 := b_p.at_ 1 rfl
    go_wp2_with fail
    refine (circle_no xB xZ.length v hf).mono ?_
    rintro e v2 ⟨rfl, hb⟩
    replace ha := ha.below hb
    replace b_p := b_p.below hb
    replace b_p1 := b_p1.below hb
    replace hbel := hbel.trans (hb.mono hbel.size)
    clear hb
    have r0 := b_p1.at_ 0 rfl
    have r1 := b_p1.at_ 1 rfl
    have r2 := b_p1.at_ 2 rfl
    have f0 := b_p1.thaw 0
    have f1 := b_p1.thaw 1
    have f2 := b_p1.thaw 2
    have hl := b_p1.lt
    clear c0 c1 h ho hf
    go_upto_region 5 with fail
    obtain ⟨v3, hv3⟩ : ∃ v3, v3 = ((v2.setCell ⟨p + 1, 0, none⟩ (.int .i64 0)).setCell ⟨p + 1, 1, none⟩ (.int .i64 0)).setCell ⟨p + 1, 2, none⟩ (.int .i64 0) := ⟨_, rfl⟩
    have bq : Bx v3 (p + 1) 113 #[.int .i64 0, .int .i64 0, .int .i64 0] := by rw [hv3]; simpa using ((b_p1.set_ 0 (.int .i64 0)).set_ 1 (.int .i64 0)).set_ 2 (.int .i64 0)
    replace hbel : Below w.heap.size w v3 := by rw [hv3]; exact (by repeat (first | with_reducible exact hbel | with_reducible refine Below.setCell ?_ (by first | omega | (simp <;> omega)) _ | with_reducible refine Below.alloc ?_ (by first | omega | (simp <;> omega)) _ | with_reducible refine Below.drew ?_))
    first | rw [← hv3] | skip
    clear hv3 f0 f1 f2 hl r0 r1 r2
    have r0 := bq.at_ 0 rfl
    have r1 := bq.at_ 1 rfl
    have r2 := bq.at_ 2 rfl
    have f0 := bq.thaw 0
    have f1 := bq.thaw 1
    have f2 := bq.thaw 2
    have hl := bq.lt
    go_wp2
    exact bodyPost_ret (v := .tuple #[.agg #[.int .i64 0, .int .i64 0, .int .i64 0], .int .i64 0, .bool false]) (by simp [results, go_sem, r0, r1, r2]) rfl ⟨rfl, (by repeat (first | with_reducible exact hbel | with_reducible refine Below.setCell ?_ (by first | omega | (simp <;> omega)) _ | with_reducible refine Below.alloc ?_ (by first | omega | (simp <;> omega)) _ | with_reducible refine Below.drew ?_))⟩

set_option maxHeartbeats 4000000 in
set_option maxRecDepth 100000 in
theorem accOf_ok (a : Addr) (xB : Int) (xA : Option Addr) (xC : Nat) (xZ : List Int) (w : World) (ha : Rd w xA xZ) (z : All64 xZ) (b : I64 xB) (h : accB xB xZ = true) (hl : BellAt w a) :
    Calls Tryd.prog 123 #[.agg #[.int .i64 xB, .slice xA xZ.length xC]] w fun e w' => e = .returned (.tuple #[.agg #[.int .i64 xB, .int .i64 xZ.length, .int .i64 (cntA xB xZ.length)], .int .i64 (numA xB xZ), .bool true]) ∧ Below w.heap.size w w' := by
  have R := Tryd.results123
  have hbel : Below w.heap.size w w := Below.refl _ _
  have HV := Lib.hid (show vofR xB xZ = (valR xB xZ, 0) by simp [vofR, (accB_spec h).1])
  have HF := Lib.hid (accB_full h)
  have hc := cntA_bd HF.out
  have hv := valR_acc h
  have HE := Lib.hid (show numA xB xZ = shn (cntA xB xZ.length) (valR xB xZ) from rfl)
  have HO := Lib.hid (fun v => circle_ok xB xZ.length v HF.out)
  obtain ⟨N, hN⟩ : ∃ N, N = cntA xB xZ.length := ⟨_, rfl⟩
  rw [← hN] at HE HO hc ⊢
  obtain ⟨x, hx⟩ : ∃ x, x = valR xB xZ := ⟨_, rfl⟩
  rw [← hx] at HV HE hv
  rw [HE.out]
  have hx64 : I64 x := i64_of (by omega) (by omega)
  have hl1 := hl
  clear hN hx h
  go_enter Tryd.func123, Tryd.ntmps123
  go_wp2_with fail
  obtain ⟨p, hp⟩ : ∃ g, g = w.heap.size := ⟨_, rfl⟩
  have hk_p : w.heap.size ≤ p := Nat.le_of_eq hp.symm
  obtain ⟨u, hu⟩ : ∃ V, V = (w.alloc (.cells #[.int .i64 xB, .slice xA xZ.length xC] 26)).alloc (.cells #[.int .i64 0, .int .i64 0, .int .i64 0] 113) := ⟨_, rfl⟩
  have b_p : Bx u p 26 #[.int .i64 xB, .slice xA xZ.length xC] := by rw [hu, hp]; exact (Bx.new _ _ _).alloc _
  have b_p1 : Bx u (p + 1) 113 #[.int .i64 0, .int .i64 0, .int .i64 0] := by rw [hu, hp]; simpa using Bx.new (w.alloc (.cells #[.int .i64 xB, .slice xA xZ.length xC] 26)) #[.int .i64 0, .int .i64 0, .int .i64 0] 113
  have hb : Below w.heap.size w u := by rw [hu]; exact ((Below.refl _ _).alloc (Nat.le_refl _) _).alloc (by simp) _
  rw [← hp, ← hu]
  clear hu hp
  replace ha := ha.below hb
  replace hl := hl.below hb
  replace hbel := hbel.trans (hb.mono hbel.size)
  clear hb
  refine (implValueOf xB xA xC xZ u ha z b).mono ?_
  rintro e v ⟨rfl, hb⟩
  rw [HV.out]
  replace ha := ha.below hb
  replace hl := hl.below hb
  replace b_p := b_p.below hb
  replace b_p1 := b_p1.below hb
  replace hbel := hbel.trans (hb.mono hbel.size)
  clear hb
  have c0 := b_p.at_ 0 rfl
  have c1 := b_p.at_ 1 rfl
  have f0 := b_p1.thaw 0
  have f1 := b_p1.thaw 1
  have f2 := b_p1.thaw 2
  have hl0 := b_p1.lt
  go_wp2_with fail
  refine (HO.out v).mono ?_
  rintro e v2 ⟨rfl, hb⟩
  clear c0 c1 f0 f1 f2 hl0
  replace ha := ha.below hb
  replace hl := hl.below hb
  replace b_p := b_p.below hb
  replace b_p1 := b_p1.below hb
  replace hbel := hbel.trans (hb.mono hbel.size)
  clear hb
  have r0 := b_p1.at_ 0 rfl
  have r1 := b_p1.at_ 1 rfl
  have r2 := b_p1.at_ 2 rfl
  have f0 := b_p1.thaw 0
  have f1 := b_p1.thaw 1
  have f2 := b_p1.thaw 2
  have hl0 := b_p1.lt
  go_upto_region 5 with fail
  obtain ⟨v3, hv3⟩ : ∃ v3, v3 = ((v2.setCell ⟨p + 1, 0, none⟩ (.int .i64 xB)).setCell ⟨p + 1, 1, none⟩ (.int .i64 xZ.length)).setCell ⟨p + 1, 2, none⟩ (.int .i64 N) := ⟨_, rfl⟩
  have bq : Bx v3 (p + 1) 113 #[.int .i64 xB, .int .i64 xZ.length, .int .i64 N] := by rw [hv3]; simpa using ((b_p1.set_ 0 (.int .i64 xB)).set_ 1 (.int .i64 xZ.length)).set_ 2 (.int .i64 N)
  replace hbel : Below w.heap.size w v3 := by rw [hv3]; exact (by repeat (first | with_reducible exact hbel | with_reducible refine Below.setCell ?_ (by first | omega | (simp <;> omega)) _ | with_reducible refine Below.alloc ?_ (by first | omega | (simp <;> omega)) _ | with_reducible refine Below.drew ?_))
  replace hl : BellAt v3 a := hl1.below hbel
  first | rw [← hv3] | skip
  clear hv3 f0 f1 f2 hl0 b_p1 r0 r1 r2
  have r0 := bq.at_ 0 rfl
  have r1 := bq.at_ 1 rfl
  have r2 := bq.at_ 2 rfl
  have hl0 := bq.lt
  go_wp2_with fail
  refine (shown_any xB xZ.length N x a v3 (by omega) (by omega) hx64 hl).mono ?_
  rintro e v4 ⟨y, rfl, hb⟩
  replace bq := bq.below hb
  replace hbel := hbel.trans (hb.mono hbel.size)
  clear r0 r1 r2 hl0 hb
  have r0 := bq.at_ 0 rfl
  have r1 := bq.at_ 1 rfl
  have r2 := bq.at_ 2 rfl
  have f0 := bq.thaw 0
  have f1 := bq.thaw 1
  have f2 := bq.thaw 2
  have hl0 := bq.lt
  go_wp2
  exact bodyPost_ret (v := .tuple #[.agg #[.int .i64 xB, .int .i64 xZ.length, .int .i64 N], .int .i64 (shn N x), .bool true]) (by simp [results, go_sem, r0, r1, r2]) rfl ⟨rfl, (by repeat (first | with_reducible exact hbel | with_reducible refine Below.setCell ?_ (by first | omega | (simp <;> omega)) _ | with_reducible refine Below.alloc ?_ (by first | omega | (simp <;> omega)) _ | with_reducible refine Below.drew ?_))⟩

set_option maxHeartbeats 2000000 in
theorem numberOf_any (a : Addr) (xB : Int) (xA : Option Addr) (xC : Nat) (xZ : List Int) (w : World) (ha : Rd w xA xZ) (z : All64 xZ) (b : I64 xB) (hl : BellAt w a) :
    Calls Tryd.prog 42 #[.agg #[.int .i64 xB, .slice xA xZ.length xC]] w fun e w' => e = .returned (.tuple #[.int .i64 (numR xB xZ).1, .int .i64 (numR xB xZ).2]) ∧ Below w.heap.size w w' := by
  have R := Tryd.results42
  have hbel : Below w.heap.size w w := Below.refl _ _
  cases h : accB xB xZ with
  | false =>
    have HR := Lib.hid (show numR xB xZ = (0, 1) by simp [numR, h])
    go_enter Tryd.func42, Tryd.ntmps42
    go_wp2_with fail
    obtain ⟨p, hp⟩ : ∃ g, g = w.heap.size := ⟨_, rfl⟩
    have hk_p : w.heap.size ≤ p := Nat.le_of_eq hp.symm
    obtain ⟨u, hu⟩ : ∃ V, V = w.alloc (.cells #[.int .i64 xB, .slice xA xZ.length xC] 26) := ⟨_, rfl⟩
    have b_p : Bx u p 26 #[.int .i64 xB, .slice xA xZ.length xC] := by rw [hu, hp]; exact Bx.new _ _ _
    have hb : Below w.heap.size w u := by rw [hu]; exact (Below.refl _ _).alloc (Nat.le_refl _) _
    rw [← hp, ← hu]
    clear hu hp
    replace ha := ha.below hb
    replace hl := hl.below hb
    replace hbel := hbel.trans (hb.mono hbel.size)
    clear hb
    refine (accOf_no xB xA xC xZ u ha z b h).mono ?_
    rintro e v ⟨rfl, hb⟩
    replace hbel := hbel.trans (hb.mono hbel.size)
    have hs := hbel.size
    go_wp2
    exact bodyPost_ret (v := .tuple #[.int .i64 0, .int .i64 1]) (by simp [results, go_sem]) rfl ⟨by rw [HR.out], (by repeat (first | exact hbel | refine Below.setCell ?_ (by first | omega | (simp <;> omega)) _ | refine Below.alloc ?_ (by first | omega | (simp <;> omega)) _ | refine Below.drew ?_))⟩
  | true =>
    have HR := Lib.hid (show numR xB xZ = (numA xB xZ, 0) by simp [numR, h])
    go_enter Tryd.func42, Tryd.ntmps42
    go_wp2_with fail
    obtain ⟨p, hp⟩ : ∃ g, g = w.heap.size := ⟨_, rfl⟩
    have hk_p : w.heap.size ≤ p := Nat.le_of_eq hp.symm
    obtain ⟨u, hu⟩ : ∃ V, V = w.alloc (.cells #[.int .i64 xB, .slice xA xZ.length xC] 26) := ⟨_, rfl⟩
    have b_p : Bx u p 26 #[.int .i64 xB, .slice xA xZ.length xC] := by rw [hu, hp]; exact Bx.new _ _ _
    have hb : Below w.heap.size w u := by rw [hu]; exact (Below.refl _ _).alloc (Nat.le_refl _) _
    rw [← hp, ← hu]
    clear hu hp
    replace ha := ha.below hb
    replace hl := hl.below hb
    replace hbel := hbel.trans (hb.mono hbel.size)
    clear hb
    refine (accOf_ok a xB xA xC xZ u ha z b h hl).mono ?_
    rintro e v ⟨rfl, hb⟩
    replace hbel := hbel.trans (hb.mono hbel.size)
    have hs := hbel.size
    go_wp2
    exact bodyPost_ret (v := .tuple #[.int .i64 (numA xB xZ), .int .i64 0]) (by simp [results, go_sem]) rfl ⟨by rw [HR.out], (by repeat (first | exact hbel | refine Below.setCell ?_ (by first | omega | (simp <;> omega)) _ | refine Below.alloc ?_ (by first | omega | (simp <;> omega)) _ | refine Below.drew ?_))⟩
theorem implNumberOf (xB : Int) (xA : Option Addr) (xC : Nat) (xZ : List Int) (w : World) (ha : Rd w xA xZ) (z : All64 xZ) (b : I64 xB) (hD : BellD w) :
    Calls Tryd.prog 42 #[.agg #[.int .i64 xB, .slice xA xZ.length xC]] w fun e w' => e = .returned (.tuple #[.int .i64 (numR xB xZ).1, .int .i64 (numR xB xZ).2]) ∧ Below w.heap.size w w' :=
  hD.elim fun a hl => numberOf_any a xB xA xC xZ w ha z b hl
end Go.Proofs.YtlahobdopmdfmaaDoor
