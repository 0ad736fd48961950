/-
  impl.TableFault.
-/
import Derived.Test.YtmdngcoccekdgaaFwI
import Derived.Test.YtmdngcoccekdgaaTfS
namespace Go.Proofs.Ytmdngcoccekdgaa
open Go.RowKit

set_option maxHeartbeats 1000000 in
theorem implTableFault (b : Int) (a : Option Addr) (c : Nat) (rs : List Row5) (w : World) (_ : I64 b) (ha : RdF quinF w a rs) (_ : All5 rs) :
    Calls Try.prog 15 #[.int .i64 b, .slice a rs.length c] w fun e w' => e = .returned (.tuple #[.int .i64 (tfR b rs).1, .int .i64 (tfR b rs).2]) ∧ Below w.heap.size w w' := by
  cases h : baseB b with
  | false =>
    have HB := Lib.hid (isBase_any b w)
    rw [h] at HB
    have HR := Lib.hid (tf_base (rs := rs) h)
    clear h
    go_enter Try.func15, Try.ntmps15
    go_wp2_with (go_at_call 61; refine HB.out.mono ?_; rintro e w1 ⟨rfl, hq⟩; subst hq)
    exact bodyPost_ret (v := .tuple #[.int .i64 0, .int .i64 2]) (by simp [results, Try.results15, go_sem]) rfl ⟨by rw [HR.out], (by repeat (first | exact Below.refl _ _ | refine Below.setCell ?_ (by first | omega | (simp <;> omega)) _ | refine Below.alloc ?_ (by first | omega | (simp <;> omega)) _ | refine Below.drew ?_))⟩
  | true =>
    have hb := baseB_true h
    obtain ⟨m, rfl⟩ : ∃ m : Nat, b = m := ⟨b.toNat, by omega⟩
    have HB := Lib.hid (isBase_any (m : Int) w)
    rw [h] at HB
    have hm1 : 2 ≤ m := by omega
    have hm2 : m ≤ 16 := by omega
    cases h2 : formB m rs with
    | false =>
      have HF := Lib.hid (fwR_bad h2)
      have HR := Lib.hid (tf_form h h2)
      clear h h2 hb
      go_enter Try.func15, Try.ntmps15
      go_wp2_with (first | (go_at_call 61; refine HB.out.mono ?_; rintro e w1 ⟨rfl, hq⟩; subst hq) | (go_at_call 62; refine (firstWrong_any m a c rs _ (ha.below (by repeat (first | exact Below.refl _ _ | refine Below.setCell ?_ (by first | omega | (simp <;> omega)) _ | refine Below.alloc ?_ (by first | omega | (simp <;> omega)) _ | refine Below.drew ?_))) hm1 hm2).mono ?_; rintro e w2 ⟨rfl, hb2⟩; rw [HF.out]))
      exact bodyPost_ret (v := .tuple #[.int .i64 0, .int .i64 8]) (by simp [results, Try.results15, go_sem]) rfl ⟨by rw [HR.out], hb2⟩
    | true =>
      have HF := Lib.hid (fwR_ok h2)
      have HR := Lib.hid (tf_ok h h2)
      clear h h2 hb
      go_enter Try.func15, Try.ntmps15
      go_wp2_with (first | (go_at_call 61; refine HB.out.mono ?_; rintro e w1 ⟨rfl, hq⟩; subst hq) | (go_at_call 62; refine (firstWrong_any m a c rs _ (ha.below (by repeat (first | exact Below.refl _ _ | refine Below.setCell ?_ (by first | omega | (simp <;> omega)) _ | refine Below.alloc ?_ (by first | omega | (simp <;> omega)) _ | refine Below.drew ?_))) hm1 hm2).mono ?_; rintro e w2 ⟨rfl, hb2⟩; rw [HF.out]))
      exact bodyPost_ret (v := .tuple #[.int .i64 (wrongTo m rs rs.length), .int .i64 0]) (by simp [results, Try.results15, go_sem]) rfl ⟨by rw [HR.out], hb2⟩
end Go.Proofs.Ytmdngcoccekdgaa
