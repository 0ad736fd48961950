/-
  impl.PlainAbacus.
-/
import Derived.Test.YtgfpjcckkbhdjaaAbaZ
namespace Go.Proofs.Ytgfpjcckkbhdjaa
open Go.RowKit

set_option maxRecDepth 100000 in
set_option maxHeartbeats 2000000 in
theorem implPlainAbacus (U L W : Int) (a : Option Addr) (c : Nat) (rs : List (Int × Int)) (w : World) (ha : RdF pairF w a rs) (bU : I64 U) (bL : I64 L) (bW : I64 W) (z : All2 rs) :
    Calls Try.prog 38 #[.agg #[.int .i64 U, .int .i64 L, .int .i64 W, .slice a rs.length c]] w (AbaC (plnR U L W rs) w) := by
  obtain ⟨u, hu⟩ : ∃ u, u = (w.alloc (.cells #[.int .i64 U, .int .i64 L, .int .i64 W, .slice a rs.length c] 56)).alloc (.cells #[.int .i64 0, .int .i64 0, .int .i64 0, .slice none 0 0] 56) := ⟨_, rfl⟩
  have hbel : Below w.heap.size w u := by rw [hu]; exact (by repeat (first | exact Below.refl _ _ | refine Below.setCell ?_ (by first | omega | (simp <;> omega)) _ | refine Below.alloc ?_ (by first | omega | (simp <;> omega)) _ | refine Below.drew ?_))
  have at0 : AbaAt u w.heap.size U L W a rs.length c := by rw [hu]; exact .of_box ((Bx.new _ _ _).alloc _)
  have bx : Bx u (w.heap.size + 1) 56 #[.int .i64 0, .int .i64 0, .int .i64 0, .slice none 0 0] := by rw [hu]; simpa using Bx.new (w.alloc (.cells #[.int .i64 U, .int .i64 L, .int .i64 W, .slice a rs.length c] 56)) #[.int .i64 0, .int .i64 0, .int .i64 0, .slice none 0 0] 56
  have HU := Lib.hid hu
  have HV := Lib.hid (implAbacusValue U L W a c rs u (ha.below hbel) bU bL bW z)
  have hus : w.heap.size + 1 < u.heap.size := by rw [hu]; simp
  clear hu
  cases h : abaB U L W rs with
  | false =>
    have HR := Lib.hid (show plnR U L W rs = (0, 0, 0, [], 1) from setR_bad h)
    rw [avR_bad h] at HV
    clear h
    go_enter Try.func38, Try.ntmps38
    go_wp2_with fail
    rw [← HU.out]
    refine HV.out.mono ?_
    rintro e w1 ⟨rfl, hb1⟩
    replace bx := bx.below hb1
    have r0 := bx.at_ 0 rfl
    have r1 := bx.at_ 1 rfl
    have r2 := bx.at_ 2 rfl
    have r3 := bx.at_ 3 rfl
    have f0 := bx.thaw 0
    have f1 := bx.thaw 1
    have f2 := bx.thaw 2
    have f3 := bx.thaw 3
    have hb := hbel.trans (hb1.mono hbel.size)
    go_wp2
    exact bodyPost_ret (v := .tuple #[.agg #[.int .i64 0, .int .i64 0, .int .i64 0, .slice none 0 0], .int .i64 1]) (by simp [results, Try.results38, go_sem, r0, r1, r2, r3]) rfl
      (abaC_err HR.out rfl (by repeat (first | exact hb | refine Below.setCell ?_ (by first | omega | (simp <;> omega)) _ | refine Below.alloc ?_ (by first | omega | (simp <;> omega)) _ | refine Below.drew ?_)))
  | true =>
    rw [avR_ok h] at HV
    have hv := (aba_of h).v
    have hv64 : I64 (abaV W rs) := i64_of (by omega) (by omega)
    obtain ⟨R, hR⟩ : ∃ R, R = plnR U L W rs := ⟨_, rfl⟩
    have HS := Lib.hid (fun (x : World) (hx : Below u.heap.size u x) => implSetAbacus U L W a c rs (abaV W rs) x ((ha.below hbel).below hx) bU bL bW z hv64)
    rw [← hR]
    have HR := Lib.hid hR
    clear hR h hv64
    go_enter Try.func38, Try.ntmps38
    go_wp2_with fail
    rw [← HU.out]
    refine HV.out.mono ?_
    rintro e w1 ⟨rfl, hb1⟩
    obtain ⟨e0, e1, e2, e3⟩ := at0.below hb1
    go_wp2_with fail
    refine (HS.out w1 hb1).mono ?_
    rintro e w2 ⟨A, C, rfl, ow, hb2⟩
    rw [show setR U L W rs (abaV W rs) = R from HR.out.symm] at ow ⊢
    have hb := hbel.trans ((hb1.trans (hb2.mono hb1.size)).mono hbel.size)
    replace bx := (bx.below hb1).below hb2
    have r0 := bx.at_ 0 rfl
    have r1 := bx.at_ 1 rfl
    have r2 := bx.at_ 2 rfl
    have r3 := bx.at_ 3 rfl
    have f0 := bx.thaw 0
    have f1 := bx.thaw 1
    have f2 := bx.thaw 2
    have f3 := bx.thaw 3
    have hz := bx.lt
    have hz1 := hb1.size
    clear e0 e1 e2 e3
    go_wp2
    exact bodyPost_ret (v := .tuple #[.agg #[.int .i64 R.1, .int .i64 R.2.1, .int .i64 R.2.2.1, .slice A R.2.2.2.1.length C], .int .i64 R.2.2.2.2]) (by simp [results, Try.results38, go_sem, r0, r1, r2, r3]) rfl
      ⟨A, C, rfl, OwnF.wide (lo := w1.heap.size) (hi := w2.heap.size) (by repeat (first | exact ow | refine OwnF.alloc ?_ _ | refine OwnF.setCell ?_ (.inl (by simp <;> omega)) _ | refine OwnF.drew ?_)) (by omega) (by simp), (by repeat (first | exact hb | refine Below.setCell ?_ (by first | omega | (simp <;> omega)) _ | refine Below.alloc ?_ (by first | omega | (simp <;> omega)) _ | refine Below.drew ?_))⟩
end Go.Proofs.Ytgfpjcckkbhdjaa
