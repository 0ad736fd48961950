/-
  impl: the register that wheels show.
-/
import Derived.Test.YtgfpjcckkbhdjaaEvI
import Derived.Test.YtgfpjcckkbhdjaaCloneI
import Derived.Test.YtgfpjcckkbhdjaaFin
import Derived.Test.YtgfpjcckkbhdjaaFlat
namespace Go.Proofs.Ytgfpjcckkbhdjaa
open Go.RowKit

set_option maxHeartbeats 1000000 in
theorem wwReg_ok (B : Int) (A : Option Addr) (C : Nat) (F : Option Addr) (f G : Nat) (H : Option Addr) (m J : Nat) (zs : List Int) (w : World) (ha : Rd w A zs) (z : All64 zs) (hB : I64 B) (h : okB B zs = true) :
    Calls Try.prog 117 #[.agg #[.int .i64 B, .slice A zs.length C, .slice F f G, .slice H m J]] w fun e w' => e = .returned (.tuple #[.agg #[.int .i64 B, .slice A zs.length C], .int .i64 0]) ∧ Below w.heap.size w w' := by
  obtain ⟨r, hr⟩ : ∃ r, r = w.heap.size := ⟨_, rfl⟩
  obtain ⟨u, hu⟩ : ∃ u, u = (w.alloc (.cells #[.int .i64 B, .slice A zs.length C, .slice F f G, .slice H m J] 122)).alloc (.cells #[.int .i64 0, .slice none 0 0] 26) := ⟨_, rfl⟩
  have b0 : Bx u r 122 #[.int .i64 B, .slice A zs.length C, .slice F f G, .slice H m J] := by rw [hu, hr]; exact (Bx.new _ _ _).alloc _
  have b1 : Bx u (r + 1) 26 #[.int .i64 0, .slice none 0 0] := by rw [hu, hr]; simpa using Bx.new (w.alloc (.cells #[.int .i64 B, .slice A zs.length C, .slice F f G, .slice H m J] 122)) #[.int .i64 0, .slice none 0 0] 26
  have hbel : Below w.heap.size w u := by rw [hu]; exact (by repeat (first | exact Below.refl _ _ | refine Below.setCell ?_ (by first | omega | (simp <;> omega)) _ | refine Below.alloc ?_ (by first | omega | (simp <;> omega)) _ | refine Below.drew ?_))
  have hu1 := b1.lt
  replace ha := ha.below hbel
  rw [← hr] at hbel
  have HC := Lib.hid (finish_ok B A C zs u ha z hB h)
  have HU := Lib.hid hu
  have HR := Lib.hid hr
  clear hu hr h ha z hB
  have c0 := b0.at_ 0 rfl
  have c1 := b0.at_ 1 rfl
  go_enter Try.func117, Try.ntmps117
  go_upto_region 1 with fail
  rw [← HU.out, ← HR.out]
  go_wp2_with fail
  refine HC.out.mono ?_
  rintro e w1 ⟨rfl, hb⟩
  replace b1 := b1.below hb
  replace hbel := hbel.trans (hb.mono (by omega))
  have hb1l := b1.lt
  clear hb c0 c1 b0
  have c0 := b1.at_ 0 rfl
  have c1 := b1.at_ 1 rfl
  have f0 := b1.thaw 0
  have f1 := b1.thaw 1
  have b2 := (b1.set_ 0 (.int .i64 B)).set_ 1 (.slice A zs.length C)
  have r0 := b2.at_ 0 rfl
  have r1 := b2.at_ 1 rfl
  go_wp2
  exact bodyPost_ret (v := .tuple #[.agg #[.int .i64 B, .slice A zs.length C], .int .i64 0]) (by simp [results, Try.results117, go_sem, r0, r1]) rfl
    ⟨rfl, by rw [← HR.out]; exact (by repeat (first | exact hbel | refine Below.setCell ?_ (by first | omega | (simp <;> omega)) _ | refine Below.alloc ?_ (by first | omega | (simp <;> omega)) _ | refine Below.drew ?_))⟩
set_option maxHeartbeats 1000000 in
theorem wwReg_full (B : Int) (A : Option Addr) (C : Nat) (F : Option Addr) (f G : Nat) (H : Option Addr) (m J : Nat) (zs : List Int) (w : World) (ha : Rd w A zs) (z : All64 zs) (hB : I64 B) (h : okB B zs = false) :
    Calls Try.prog 117 #[.agg #[.int .i64 B, .slice A zs.length C, .slice F f G, .slice H m J]] w fun e w' => e = .returned (.tuple #[.agg #[.int .i64 0, .slice none 0 0], .int .i64 5]) ∧ Below w.heap.size w w' := by
  obtain ⟨r, hr⟩ : ∃ r, r = w.heap.size := ⟨_, rfl⟩
  obtain ⟨u, hu⟩ : ∃ u, u = (w.alloc (.cells #[.int .i64 B, .slice A zs.length C, .slice F f G, .slice H m J] 122)).alloc (.cells #[.int .i64 0, .slice none 0 0] 26) := ⟨_, rfl⟩
  have b0 : Bx u r 122 #[.int .i64 B, .slice A zs.length C, .slice F f G, .slice H m J] := by rw [hu, hr]; exact (Bx.new _ _ _).alloc _
  have b1 : Bx u (r + 1) 26 #[.int .i64 0, .slice none 0 0] := by rw [hu, hr]; simpa using Bx.new (w.alloc (.cells #[.int .i64 B, .slice A zs.length C, .slice F f G, .slice H m J] 122)) #[.int .i64 0, .slice none 0 0] 26
  have hbel : Below w.heap.size w u := by rw [hu]; exact (by repeat (first | exact Below.refl _ _ | refine Below.setCell ?_ (by first | omega | (simp <;> omega)) _ | refine Below.alloc ?_ (by first | omega | (simp <;> omega)) _ | refine Below.drew ?_))
  have hu1 := b1.lt
  replace ha := ha.below hbel
  rw [← hr] at hbel
  have HC := Lib.hid (finish_full B A C zs u ha z hB h)
  have HU := Lib.hid hu
  have HR := Lib.hid hr
  clear hu hr h ha z hB
  have c0 := b0.at_ 0 rfl
  have c1 := b0.at_ 1 rfl
  go_enter Try.func117, Try.ntmps117
  go_upto_region 1 with fail
  rw [← HU.out, ← HR.out]
  go_wp2_with fail
  refine HC.out.mono ?_
  rintro e w1 ⟨rfl, hb⟩
  replace b1 := b1.below hb
  replace hbel := hbel.trans (hb.mono (by omega))
  have hb1l := b1.lt
  clear hb c0 c1 b0
  have c0 := b1.at_ 0 rfl
  have c1 := b1.at_ 1 rfl
  have f0 := b1.thaw 0
  have f1 := b1.thaw 1
  have b2 := (b1.set_ 0 (.int .i64 0)).set_ 1 (.slice none 0 0)
  have r0 := b2.at_ 0 rfl
  have r1 := b2.at_ 1 rfl
  go_wp2
  exact bodyPost_ret (v := .tuple #[.agg #[.int .i64 0, .slice none 0 0], .int .i64 5]) (by simp [results, Try.results117, go_sem, r0, r1]) rfl
    ⟨rfl, by rw [← HR.out]; exact (by repeat (first | exact hbel | refine Below.setCell ?_ (by first | omega | (simp <;> omega)) _ | refine Below.alloc ?_ (by first | omega | (simp <;> omega)) _ | refine Below.drew ?_))⟩
end Go.Proofs.Ytgfpjcckkbhdjaa
