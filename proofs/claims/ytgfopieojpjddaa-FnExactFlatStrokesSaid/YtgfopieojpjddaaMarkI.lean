/-
  laws.szInt64S, laws.markInt64S, laws.heldInt64S: how long a slice is; what the law writes into a slice, and whether it is still there.
-/
import Derived.Test.YtgfopieojpjddaaProg
import Derived.Test.YtgfopieojpjddaaBase
import Derived.Test.YtgfopieojpjddaaLeft
namespace Go.Proofs.Ytgfopieojpjddaa
open Go.RowKit

set_option maxHeartbeats 400000 in
theorem markInt64S_any (t : TypeId) (lo hi : Nat) (A : Option Addr) (C : Nat) (k : Int) (zs : List Int) (w : World) (ho : Own t w lo hi (.slice A zs.length C) zs) (h0 : 0 ≤ k) (h1 : k ≤ 1000000000000) :
    Calls Try.prog 23 #[.slice A zs.length C, .int .i64 k] w fun e w' => e = .returned (.int .i64 (k + zs.length)) ∧
      Own t w' lo hi (.slice A zs.length C) (seqI k zs.length) ∧ Touch lo hi w w' := by
  have hx1 := ho.len
  go_enter Try.func23, Try.ntmps23
  go_wp2
  go_loopw [1, 5] (fun q i wr => ∃ j : Nat, j ≤ zs.length ∧ i = .int .i64 j ∧ q = .int .i64 (k + (j : Int)) ∧ wr.ownsRow lo t 1 (.slice A zs.length C) zs.length ((mrk zs k j).map (Value.int .i64)) ∧ Touch lo hi w wr) (fun _ i _ => zs.length - (intOf i).toNat)
  case atStart => exact ⟨0, Nat.zero_le _, rfl, by go_num, by rw [mrk_zero]; exact ho.row, Touch.refl _ _ _⟩
  case round =>
    obtain ⟨j, hj, rfl, rfl, hown, htou⟩ := hrel
    by_cases hlt : j < zs.length
    · rcases hown.2 with ⟨_, hn⟩ | ⟨g, cap, cur, hv, hg, _⟩
      · exact absurd hn (by omega)
      · have hA : A = some ⟨g, 0, none⟩ := by injection hv
        subst hA
        have hgh : g < hi := ho.top g rfl
        have hcell : wr.cell? ⟨g, j, none⟩ = some (.int .i64 (nth (mrk zs k j) j)) := by
          rw [hown.cellAt j (by omega), List.getElem?_map, List.getElem?_eq_getElem (by rw [mrk_len hj]; exact hlt), nth_get (by rw [mrk_len hj]; exact hlt)]; rfl
        have hfr := hown.frozenAt j
        have hst := hown.stored j (.int .i64 (k + (j : Int)))
        rw [← List.map_set, mrk_set hlt] at hst
        have HST := Lib.hid hst
        clear hst hv
        go_wp2
        go_roundw
        case rel => exact ⟨j + 1, by omega, by go_num, by go_num, HST.out.1, htou.setCell hg hgh _⟩
        case measure => simp [intOf]; omega
    · obtain rfl : j = zs.length := by omega
      rw [mrk_all] at hown
      go_wp2
      go_ret
      exact ⟨rfl, ⟨by rw [seqI_len]; exact hown, ho.top, by rw [seqI_len]; exact hx1⟩, htou⟩

set_option maxHeartbeats 400000 in
theorem heldInt64S_any (A : Option Addr) (C : Nat) (k : Int) (n : Nat) (w : World) (ha : Rd w A (seqI k n)) (h0 : 0 ≤ k) (h1 : k ≤ 1000000000000) :
    Calls Try.prog 24 #[.slice A n C, .int .i64 k] w fun e w' => e = .returned (.int .i64 (k + n)) ∧ w = w' := by
  have hx := ha.len
  rw [seqI_len] at hx
  go_enter Try.func24, Try.ntmps24
  go_wp2
  go_loop [1, 5] (fun q i => ∃ j : Nat, j ≤ n ∧ i = .int .i64 j ∧ q = .int .i64 (k + (j : Int))) (fun _ i => n - (intOf i).toNat)
  case atStart => exact ⟨0, Nat.zero_le _, rfl, by go_num⟩
  case round =>
    obtain ⟨j, hj, rfl, rfl⟩ := hrel
    by_cases hlt : j < n
    · obtain ⟨b, off, rfl, hc⟩ := ha.at_ (k := j) (by rw [seqI_len]; exact hlt)
      rw [seqI_at hlt] at hc
      have hbe : (k + (j : Int) != k + (j : Int)) = false := by simp
      go_wp2
      go_round
      case rel => exact ⟨j + 1, by omega, by go_num, by go_num⟩
      case measure => simp [intOf]; omega
    · obtain rfl : j = n := by omega
      go_wp2
      go_ret
      exact ⟨rfl, rfl⟩
end Go.Proofs.Ytgfopieojpjddaa
