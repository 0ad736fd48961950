/-
  spec.LeastTurns.
-/
import Derived.Test.YtaefgkhbgljkoaaLeastI
namespace Go.Proofs.Ytaefgkhbgljkoaa
open Go.RowKit

theorem OwnF.cap {α : Type} {F : Flat α} {t : TypeId} {w : World} {lo hi : Nat} {a : Option Addr} {c : Nat} {xs : List α} (h : OwnF F t w lo hi (.slice a xs.length c) xs) : xs.length ≤ c := by
  rcases h.row.row.2 with ⟨_, hn⟩ | ⟨g, cap, cur, hv, _, _, hc, _⟩
  · omega
  · injection hv with _ _ hc2
    omega
theorem RdF.take {α : Type} {F : Flat α} {w : World} {a : Option Addr} {xs : List α} (h : RdF F w a xs) (k : Nat) : RdF F w a (xs.take k) := by
  refine ⟨by have := h.len; rw [List.length_take]; omega, fun hne => ?_⟩
  obtain ⟨b, off, rfl, hc⟩ := h.cells (by rintro rfl; simp at hne)
  refine ⟨b, off, rfl, fun i x hx j v hv => hc i x ?_ j v hv⟩
  rw [List.getElem?_take] at hx
  split at hx
  · exact hx
  · cases hx

theorem run_den (x y : Int) (w : World) : (Instr.field 27 (.agg #[.int .i64 x, .int .i64 y]) 1).run Try.prog w = .ok (.int .i64 y) w := by
  simp [Instr.field, go_sem, part, asAgg]
attribute [local go_sem] run_den

set_option maxHeartbeats 4000000 in
theorem specLeastTurns (a : Option Addr) (c : Nat) (xs : List (Int × Int)) (w : World) (ha : RdF pairF w a xs) (hcap : xs.length ≤ c) (_ : All2 xs) :
    Calls Try.prog 41 #[.slice a xs.length c] w fun e w' => e = .returned (.tuple #[.int .i64 (leastR xs).1, .int .i64 (leastR xs).2]) ∧ Below w.heap.size w w' := by
  have hx := ha.len
  cases ht : trainB xs with
  | false =>
    have HR := Lib.hid (leastR_bad ht)
    have HV := Lib.hid (l04Ok_at a c xs w ht ha)
    clear ht
    go_enter Try.func41, Try.ntmps41
    go_wp2_with (go_at_call 61; refine HV.out.mono ?_; rintro e w1 ⟨rfl, hb1⟩)
    exact bodyPost_ret (v := .tuple #[.int .i64 0, .int .i64 1]) (by simp [results, Try.results41, go_sem]) rfl ⟨ret_two HR.out, hb1⟩
  | true =>
    have HR := Lib.hid (leastR_ok ht)
    have HA := Lib.hid (train_of ht)
    have HV := Lib.hid (l04Ok_at a c xs w ht ha)
    clear ht
    have n0 := HA.out.n0
    have n1 := HA.out.n1
    obtain ⟨b0, off0, rfl, _⟩ := ha.cells (by rintro rfl; simp at n0)
    go_enter Try.func41, Try.ntmps41
    go_wp2_with (go_at_call 61; refine HV.out.mono ?_; rintro e w1 ⟨rfl, hb1⟩)
    go_loopw [4, 5] (fun l i wr => ∃ k : Nat, k ≤ xs.length ∧ i = .int .i64 ((k : Int) + 1) ∧ l = .int .i64 (lcmTo xs k : Int) ∧ Below w.heap.size w wr) (fun _ i _ => xs.length + 1 - (intOf i).toNat)
    case atStart => exact ⟨0, Nat.zero_le _, by go_num, rfl, hb1⟩
    case round =>
      obtain ⟨k, hk, rfl, rfl, hbel⟩ := hrel
      by_cases hlt : k < xs.length
      · have HT := Lib.hid (fun v hv => l04Ratio_any (some ⟨b0, off0, none⟩) c (xs.take (k + 1)) v ((ha.below hv).take (k + 1)) (fun x hx => HA.out.all x (List.mem_of_mem_take hx)) (by rw [List.length_take]; omega))
        rw [show (xs.take (k + 1)).length = k + 1 by rw [List.length_take]; omega] at HT
        obtain ⟨e1, ⟨e2, e3⟩, e4, e5⟩ := lcm_bd HA.out hlt
        have hg : 0 < Nat.gcd (lcmTo xs k) (ratQ (xs.take (k + 1))).den := Nat.gcd_pos_of_pos_left _ e2
        have hs := lcm_step (lcmTo xs k) (ratQ (xs.take (k + 1))).den
        rw [e1] at hs e5
        have HD := Lib.hid (fun v => gcd_any (lcmTo xs k) (ratQ (xs.take (k + 1))).den v (by omega) (by omega))
        obtain ⟨g, hgg⟩ : ∃ g, g = Nat.gcd (lcmTo xs k) (ratQ (xs.take (k + 1))).den := ⟨_, rfl⟩
        rw [← hgg] at hg hs HD
        obtain ⟨q, hqq⟩ : ∃ q, q = lcmTo xs k / g := ⟨_, rfl⟩
        rw [← hqq] at hs
        have hq : q ≤ lcmTo xs k := by rw [hqq]; exact Nat.div_le_self _ _
        have hg0 : ¬ ((g : Int) = 0) := by omega
        have e0 : ((lcmTo xs k : Int)).tdiv (g : Int) = (q : Int) := by rw [Int.tdiv_eq_ediv_of_nonneg (by omega), hqq]; rfl
        have e0' : ((lcmTo xs k : Int)) / (g : Int) = (q : Int) := by rw [hqq]; rfl
        have hm : (q : Int) * ((ratQ (xs.take (k + 1))).den : Int) = (lcmTo xs (k + 1) : Int) := by rw [← hs]; rfl
        have e6 : IntKind.i64.wrap ((q : Int) * ((ratQ (xs.take (k + 1))).den : Int)) = (lcmTo xs (k + 1) : Int) := by rw [hm]; exact IntWalk.i64_in _ (by omega)
        have e7 : wrap64 ((q : Int) * ((ratQ (xs.take (k + 1))).den : Int)) = (lcmTo xs (k + 1) : Int) := by rw [hm]; unfold wrap64; omega
        have e8 : ((k : Int) + 1).toNat = k + 1 := by omega
        clear hgg hs hm hqq e1
        go_wp2_with fail
        refine (HT.out wr hbel).mono ?_
        rintro e w3 ⟨rfl, hb3⟩
        have hbel3 := hbel.trans (hb3.mono hbel.size)
        go_wp2_with fail

        refine (HD.out _).mono ?_
        rintro e w4 ⟨rfl, hq4⟩
        subst w4
        go_wp2
        go_roundw
        case rel => exact ⟨k + 1, by omega, by go_num, by first | rfl | rw [e6] | rw [e7], hbel3⟩
        case measure => (simp [intOf]) <;> omega
      · obtain rfl : k = xs.length := by omega
        go_wp2
        exact bodyPost_ret (v := .tuple #[.int .i64 (lcmTo xs xs.length : Int), .int .i64 0]) (by simp [results, Try.results41, go_sem]) rfl ⟨ret_two HR.out, hbel⟩
end Go.Proofs.Ytaefgkhbgljkoaa
