/-
  impl.areWithin over int64 and over int; isPlace.
-/
import Derived.Test.YtgfopieojpjddaaGear
import Derived.IntWalk
namespace Go.Proofs.Ytgfopieojpjddaa
open Go.RowKit

set_option maxHeartbeats 1000000 in
theorem within_any (lo hi : Int) (a : Option Addr) (c : Nat) (zs : List Int) (w : World) (ha : Rd w a zs) :
    Calls Try.prog 33 #[.int .i64 lo, .int .i64 hi, .slice a zs.length c] w fun e w' => e = .returned (.bool (rangeB lo hi zs)) ∧ w' = w := by
  have hx := ha.len
  go_enter Try.func33, Try.ntmps33
  go_wp2
  go_loop [8, 11] (fun _ i => ∃ k : Nat, k ≤ zs.length ∧ i = .int .i64 k ∧ Hid (∀ d ∈ zs.take k, inB d lo hi = true)) (fun _ i => zs.length - (intOf i).toNat)
  case atStart => exact ⟨0, Nat.zero_le _, rfl, Lib.hid (by simp)⟩
  case round =>
    obtain ⟨k, hk, rfl, HT⟩ := hrel
    by_cases hlt : k < zs.length
    · obtain ⟨p, off, rfl, hc⟩ := ha.at_ hlt
      cases hd : inB (nth zs k) lo hi with
      | true =>
        have HT' := Lib.hid (all_takeZ (p := fun d => inB d lo hi = true) hlt HT.out hd)
        obtain ⟨hd1, hd2⟩ := inB_true hd
        clear hd
        go_wp2
        go_round
        case rel => exact ⟨k + 1, by omega, by go_num, HT'⟩
        case measure => (simp [intOf]) <;> omega
      | false =>
        have HF := Lib.hid (rangeB_bad hlt hd)
        have hd' : nth zs k < lo ∨ (lo ≤ nth zs k ∧ hi < nth zs k) := by have := inB_false hd; omega
        clear hd
        rcases hd' with h1 | ⟨h1, h2⟩
        all_goals
          go_wp2
          go_ret
          exact ⟨ret_bool HF.out.symm, rfl⟩
    · obtain rfl : k = zs.length := by omega
      have HD := Lib.hid (rangeB_allT HT.out)
      go_wp2
      go_ret
      exact ⟨ret_bool HD.out.symm, rfl⟩

theorem within1 (lo hi z : Int) : rangeB lo hi [z] = inB z lo hi := by simp [rangeB]
theorem within2 (lo hi : Int) (x : Int × Int) : rangeB lo hi [x.1, x.2] = (inB x.1 lo hi && inB x.2 lo hi) := by simp [rangeB]
theorem rd_new1 (w : World) (z : Int) (t : TypeId) : Rd (w.alloc (.cells #[.int .i64 z] t)) (some ⟨w.heap.size, 0, none⟩) [z] :=
  ⟨by simp, fun _ => ⟨_, 0, rfl, fun i hi => by
    obtain rfl : i = 0 := by simp at hi; omega
    exact (Bx.new w #[.int .i64 z] t).at_ 0 rfl⟩⟩
theorem rd_new2 (w : World) (y z : Int) (t : TypeId) : Rd (w.alloc (.cells #[.int .i64 y, .int .i64 z] t)) (some ⟨w.heap.size, 0, none⟩) [y, z] :=
  ⟨by simp, fun _ => ⟨_, 0, rfl, fun i hi => by
    simp at hi
    obtain rfl | rfl : i = 0 ∨ i = 1 := by omega
    · exact (Bx.new w #[.int .i64 y, .int .i64 z] t).at_ 0 rfl
    · exact (Bx.new w #[.int .i64 y, .int .i64 z] t).at_ 1 rfl⟩⟩
theorem rd_at1 {w : World} {g : Nat} {z : Int} (h : w.cell? ⟨g, 0, none⟩ = some (.int .i64 z)) : Rd w (some ⟨g, 0, none⟩) [z] :=
  ⟨by simp, fun _ => ⟨_, 0, rfl, fun i hi => by
    obtain rfl : i = 0 := by simp at hi; omega
    exact h⟩⟩
theorem rd_at2 {w : World} {g : Nat} {y z : Int} (h0 : w.cell? ⟨g, 0, none⟩ = some (.int .i64 y)) (h1 : w.cell? ⟨g, 1, none⟩ = some (.int .i64 z)) : Rd w (some ⟨g, 0, none⟩) [y, z] :=
  ⟨by simp, fun _ => ⟨_, 0, rfl, fun i hi => by
    simp at hi
    obtain rfl | rfl : i = 0 ∨ i = 1 := by omega
    · exact h0
    · exact h1⟩⟩
/-- One number laid into a slice of its own, asked. -/
theorem within1_at (lo hi z : Int) (w : World) (g c : Nat) (h : w.cell? ⟨g, 0, none⟩ = some (.int .i64 z)) :
    Calls Try.prog 33 #[.int .i64 lo, .int .i64 hi, .slice (some ⟨g, 0, none⟩) 1 c] w fun e w' => e = .returned (.bool (inB z lo hi)) ∧ w' = w := by
  have := within_any lo hi _ c [z] _ (rd_at1 h)
  rwa [within1] at this
theorem within2_at (lo hi y z : Int) (w : World) (g c : Nat) (h0 : w.cell? ⟨g, 0, none⟩ = some (.int .i64 y)) (h1 : w.cell? ⟨g, 1, none⟩ = some (.int .i64 z)) :
    Calls Try.prog 33 #[.int .i64 lo, .int .i64 hi, .slice (some ⟨g, 0, none⟩) 2 c] w fun e w' => e = .returned (.bool (inB y lo hi && inB z lo hi)) ∧ w' = w := by
  have := within_any lo hi _ c [y, z] _ (rd_at2 h0 h1)
  rwa [show rangeB lo hi [y, z] = (inB y lo hi && inB z lo hi) by simp [rangeB]] at this
end Go.Proofs.Ytgfopieojpjddaa
