/-
  laws.markText: the letter m and a number's digits.
-/
import Derived.Test.YtgfopieojpjddaaDoorProg
import Derived.Test.YtgfopieojpjddaaDoorBase
import Derived.Test.YtgfopieojpjddaaDoorDec
namespace Go.Proofs.YtgfopieojpjddaaDoor
open Go.RowKit

/-- What markText makes of a number, ahead of what it has made. -/
def mtL (n : Nat) (acc : List UInt8) : List UInt8 := if h : n = 0 then acc else mtL (n / 10) (UInt8.ofNat (48 + n % 10) :: acc)
termination_by n
decreasing_by omega
theorem mtL_zero (acc : List UInt8) : mtL 0 acc = acc := by rw [mtL, dif_pos rfl]
theorem mtL_step {n : Nat} (h : n ≠ 0) (acc : List UInt8) : mtL n acc = mtL (n / 10) (UInt8.ofNat (48 + n % 10) :: acc) := by rw [mtL, dif_neg h]
def mtx (k : Int) : ByteArray := if k ≤ 0 then ⟨#[109, 48]⟩ else ⟨(109 :: mtL k.toNat []).toArray⟩
theorem bs_ext {a b : ByteArray} (h : a.data.toList = b.data.toList) : a = b := by
  obtain ⟨a⟩ := a
  obtain ⟨b⟩ := b
  simp only at h
  congr 1
  exact Array.toList_inj.1 h

set_option maxRecDepth 100000 in
set_option maxHeartbeats 1000000 in
theorem markText_any (k : Int) (w : World) (h0 : 0 ≤ k) (h1 : k ≤ 1000000000000) :
    Calls Tryd.prog 63 #[.int .i64 k] w fun e w' => e = .returned (.string (mtx k)) ∧ Below w.heap.size w w' := by
  by_cases hk : k ≤ 0
  · have HM := Lib.hid (show mtx k = ⟨#[109, 48]⟩ by rw [mtx, if_pos hk])
    go_enter Tryd.func63, Tryd.ntmps63
    go_wp2
    go_ret
    exact ⟨by rw [HM.out]; rfl, Below.refl _ _⟩
  · obtain ⟨n, rfl⟩ : ∃ n : Nat, k = n := ⟨k.toNat, by omega⟩
    have hn0 : 0 < n := by omega
    have HM := Lib.hid (show mtx (n : Int) = ⟨(109 :: mtL n []).toArray⟩ by rw [mtx, if_neg hk]; rfl)
    clear h0 hk
    have hk : ¬ ((n : Int) ≤ 0) := by omega
    go_enter Tryd.func63, Tryd.ntmps63
    go_wp2
    have hn1 : n * 10 ^ 0 ≤ 1000000000000 := by omega
    go_loopw [0, 3] (fun q o wr => ∃ (j : Nat) (S : ByteArray), j ≤ n ∧ q = .int .i64 (j : Nat) ∧ o = .string S ∧ Hid (mtL j S.data.toList = mtL n []) ∧ Hid (j * 10 ^ S.size ≤ 1000000000000) ∧ S.size ≤ 13 ∧ Below w.heap.size w wr) (fun q _ _ => (intOf q).toNat)
    case atStart => exact ⟨n, ⟨#[]⟩, Nat.le_refl _, rfl, rfl, Lib.hid rfl, Lib.hid hn1, by decide, Below.refl _ _⟩
    case round =>
      clear hn1
      obtain ⟨j, S, hj, rfl, rfl, HL, HP, hS, hbel⟩ := hrel
      by_cases hz : j = 0
      · subst hz
        have HS := Lib.hid (show ({ data := #[109] } ++ S : ByteArray) = mtx (n : Int) by
          have := HL.out
          rw [mtL_zero] at this
          rw [HM.out, ← this]
          exact bs_ext (by simp))
        have h109 : ({ data := #[109] } : ByteArray).size = 1 := rfl
        have hadd := run_string_add_sum (P := Tryd.prog) wr { data := #[109] } S (by rw [h109]; omega)
        obtain ⟨y, hy⟩ : ∃ y, ({ data := #[109] } ++ S : ByteArray) = y := ⟨_, rfl⟩
        have HS2 : Hid (y = mtx (n : Int)) := Lib.hid (by rw [← hy]; exact HS.out)
        rw [hy] at hadd
        clear HL HP hS h109 hy HS
        go_wp2
        exact bodyPost_ret (v := .string y) (by simp [results, Tryd.results63, go_sem]) rfl ⟨by rw [HS2.out], hbel⟩
      · have hpos : (0 : Int) < (j : Int) := by omega
        obtain ⟨c, hc⟩ : ∃ c, c = UInt8.ofNat (48 + j % 10) := ⟨_, rfl⟩
        have hcn : (48 : Int) + (j : Int) % 10 = (c.toNat : Int) := by
          have : c.toNat = 48 + j % 10 := by rw [hc, UInt8.toNat_ofNat']; omega
          omega
        obtain ⟨V, hV⟩ : ∃ V, V = wr.alloc (.cells #[.int .u8 (48 + (j : Int) % 10)] 5) := ⟨_, rfl⟩
        have hcell : V.cell? ⟨wr.heap.size, 0, none⟩ = some (.int .u8 (c.toNat : Int)) := by rw [hV, hcn]; exact cell_new1 wr _ _
        have hcv := run_convert_bytes_back (P := Tryd.prog) V 57 9 5 ⟨wr.heap.size, 0, none⟩ 1 [c] Tryd.underlying57 Tryd.underlying5 Tryd.underlying9 (fun i hi => by
          obtain rfl : i = 0 := by simpa using hi
          exact hcell)
        obtain ⟨T, hT⟩ : ∃ T : ByteArray, T = ⟨[c].toArray⟩ := ⟨_, rfl⟩
        have hTs : T.size = 1 := by rw [hT]; rfl
        have hadd := run_string_add_sum (P := Tryd.prog) V T S (by rw [hTs]; omega)
        obtain ⟨y, hy⟩ : ∃ y, (T ++ S : ByteArray) = y := ⟨_, rfl⟩
        have hyd : y.data.toList = c :: S.data.toList := by rw [← hy, hT]; simp
        have hys : y.size = S.size + 1 := by rw [← hy, ByteArray.size_append', hTs]; omega
        have HL2 : Hid (mtL (j / 10) y.data.toList = mtL n []) := Lib.hid (by rw [hyd, hc, ← mtL_step hz]; exact HL.out)
        have hp := HP.out
        have hpw : 0 < 10 ^ S.size := Nat.pow_pos (by omega)
        have hlen : S.size ≤ 12 := by
          have h2 : 10 ^ S.size ≤ 10 ^ 12 := by
            have : 1 * 10 ^ S.size ≤ j * 10 ^ S.size := Nat.mul_le_mul_right _ (by omega)
            omega
          exact (Nat.pow_le_pow_iff_right (by omega)).1 h2
        have HP2 : Hid (j / 10 * 10 ^ y.size ≤ 1000000000000) := Lib.hid (by
          rw [hys, Nat.pow_succ]
          have : j / 10 * (10 ^ S.size * 10) ≤ j * 10 ^ S.size := by
            rw [Nat.mul_comm (10 ^ S.size) 10, ← Nat.mul_assoc]
            exact Nat.mul_le_mul_right _ (by omega)
          omega)
        have hys2 : y.size ≤ 13 := by omega
        have hbV : Below w.heap.size w V := by rw [hV]; exact hbel.alloc hbel.size _
        rw [← hT, List.length_singleton] at hcv
        rw [hy] at hadd
        have HV := Lib.hid hV
        rw [hV] at hcv hadd
        clear HL HP hp hpw hlen hyd hys hy hTs hT hc hcell hV hcn hS
        go_wp2
        rw [← HV.out]
        go_roundw
        case rel => exact ⟨j / 10, y, by omega, by go_num, rfl, HL2, HP2, hys2, hbV⟩
        case measure => (simp [intOf]) <;> omega
end Go.Proofs.YtgfopieojpjddaaDoor
