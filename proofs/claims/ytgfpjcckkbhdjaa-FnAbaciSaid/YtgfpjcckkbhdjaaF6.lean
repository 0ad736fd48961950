/-
  laws.f6big, laws.f6texts.
-/
import Derived.Test.YtgfpjcckkbhdjaaStrS
namespace Go.Proofs.Ytgfpjcckkbhdjaa
open Go.RowKit

theorem f6big_any (a : Option Addr) (n c : Nat) (w : World) (hn : n ≤ 9223372036854775807) :
    Calls Try.prog 33 #[.slice a n c] w fun e w' => e = .returned (.bool (decide (4096 < n))) ∧ w' = w := by
  go_enter Try.func33, Try.ntmps33
  go_wp2
  go_ret
  exact ⟨ret_bool (by simp; omega), rfl⟩
set_option maxHeartbeats 1000000 in
theorem f6texts_any (a b : Option Addr) (c d : Nat) (xs ys : List ByteArray) (w : World) (ha : RdF textF w a xs) (hb : RdF textF w b ys) :
    Calls Try.prog 48 #[.slice a xs.length c, .slice b ys.length d] w fun e w' => e = .returned (.bool (decide (xs = ys))) ∧ Below w.heap.size w w' := by
  have hx1 := ha.len
  have hy1 := hb.len
  by_cases hl : xs.length = ys.length
  · have ht : ((xs.length : Int) != (ys.length : Int)) = false := by simp [hl]
    have HL := Lib.hid hl
    clear hl
    go_enter Try.func48, Try.ntmps48
    go_wp2
    go_loopw [5] (fun i wr => ∃ k n : Nat, k ≤ xs.length ∧ i = .int .i64 k ∧ wr = w.drewN n ∧ Hid (xs.take k = ys.take k)) (fun i _ => xs.length - (intOf i).toNat)
    case atStart => exact ⟨0, 0, Nat.zero_le _, rfl, rfl, Lib.hid (by simp)⟩
    case round =>
      obtain ⟨k, n, hk, rfl, rfl, HT⟩ := hrel
      by_cases hlt : k < xs.length
      · have hlt' : k < ys.length := by rw [← HL.out]; exact hlt
        obtain ⟨b1, o1, rfl, hc1⟩ := ha.atT hlt
        obtain ⟨b2, o2, rfl, hc2⟩ := hb.atT hlt'
        by_cases he : elt textF xs k = elt textF ys k
        · have hbe := str_eqB he
          have HE := Lib.hid he
          clear he
          go_wp2
          go_quiet (fail)
          go_wp2
          go_roundw
          case rel => exact ⟨k + 1, _, by omega, by go_num, rfl, Lib.hid (takeE_snoc (F := textF) hlt HL.out HT.out HE.out)⟩
          case measure => (simp [intOf]) <;> omega
        · have hbe := str_neB he
          have HE := Lib.hid he
          clear he
          go_wp2
          go_quiet (fail)
          go_wp2
          go_ret
          exact ⟨ret_bool (decide_eq_false (neE_of_at HE.out)).symm, bel_drewN (bel_drewN (Below.refl _ _) _) _⟩
      · obtain rfl : k = xs.length := by omega
        go_wp2
        go_ret
        exact ⟨ret_bool (decide_eq_true (takeE_all HL.out HT.out)).symm, bel_drewN (Below.refl _ _) _⟩
  · have ht : ((xs.length : Int) != (ys.length : Int)) = true := by simp; omega
    have HL := Lib.hid hl
    clear hl
    go_enter Try.func48, Try.ntmps48
    go_wp2
    go_ret
    exact ⟨ret_bool (decide_eq_false (by rintro rfl; exact HL.out rfl)).symm, Below.refl _ _⟩
end Go.Proofs.Ytgfpjcckkbhdjaa
