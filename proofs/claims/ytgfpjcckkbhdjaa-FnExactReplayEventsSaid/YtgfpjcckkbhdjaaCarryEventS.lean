/-
  laws: CarryEvent and []CarryEvent: copies, equality, sizes, marks.
-/
import Derived.Test.YtgfpjcckkbhdjaaProg
import Derived.Test.YtgfpjcckkbhdjaaFlat
import Derived.Test.YtgfpjcckkbhdjaaLeft
namespace Go.Proofs.Ytgfpjcckkbhdjaa
open Go.RowKit

theorem info_CarryEvent : (Try.prog.info? 41).map (fun i => (i.zero, i.size, i.bytes)) = some (some (.agg #[.int .i64 0, .int .i64 0, .int .i64 0]), 3, 24) := by kernel_rfl

set_option maxHeartbeats 400000 in
theorem toCarryEvent_any (x : (Int × Int × Int)) (w : World) : Calls Try.prog 100 #[.agg #[.int .i64 x.1, .int .i64 x.2.1, .int .i64 x.2.2]] w fun e w' => e = .returned (.agg #[.int .i64 x.1, .int .i64 x.2.1, .int .i64 x.2.2]) ∧ Below w.heap.size w w' := by
  go_enter Try.func100, Try.ntmps100
  go_wp2
  exact bodyPost_ret (v := .agg #[.int .i64 x.1, .int .i64 x.2.1, .int .i64 x.2.2]) (by simp [results, Try.results100, go_sem]) rfl ⟨rfl, (by repeat (first | exact Below.refl _ _ | refine Below.setCell ?_ (by first | omega | (simp <;> omega)) _ | refine Below.alloc ?_ (by first | omega | (simp <;> omega)) _ | refine Below.drew ?_))⟩

theorem CarryEvent_ext {x y : (Int × Int × Int)} (h0 : x.1 = y.1) (h1 : x.2.1 = y.2.1) (h2 : x.2.2 = y.2.2) : x = y := by
  obtain ⟨a0, a1, a2⟩ := x
  obtain ⟨b0, b1, b2⟩ := y
  simp only at h0 h1 h2
  subst h0 h1 h2
  rfl

set_option maxHeartbeats 400000 in
theorem eqCarryEvent_any (x y : (Int × Int × Int)) (w : World) : Calls Try.prog 192 #[.agg #[.int .i64 x.1, .int .i64 x.2.1, .int .i64 x.2.2], .agg #[.int .i64 y.1, .int .i64 y.2.1, .int .i64 y.2.2]] w fun e w' => e = .returned (.bool (decide (x = y))) ∧ Below w.heap.size w w' := by
  by_cases h0 : x.1 = y.1
  · have b0 : (x.1 != y.1) = false := by simp [h0]
    have H0 := Lib.hid h0
    clear h0
    by_cases h1 : x.2.1 = y.2.1
    · have b1 : (x.2.1 != y.2.1) = false := by simp [h1]
      have H1 := Lib.hid h1
      clear h1
      by_cases h2 : x.2.2 = y.2.2
      · have b2 : (x.2.2 != y.2.2) = false := by simp [h2]
        have H2 := Lib.hid h2
        clear h2
        go_enter Try.func192, Try.ntmps192
        go_wp2
        go_ret
        exact ⟨ret_bool (decide_eq_true (CarryEvent_ext H0.out H1.out H2.out)).symm, (by repeat (first | exact Below.refl _ _ | refine Below.setCell ?_ (by first | omega | (simp <;> omega)) _ | refine Below.alloc ?_ (by first | omega | (simp <;> omega)) _ | refine Below.drew ?_))⟩
      · have b2 : (x.2.2 != y.2.2) = true := by simp [h2]
        have H2 := Lib.hid h2
        clear h2
        go_enter Try.func192, Try.ntmps192
        go_wp2
        go_ret
        exact ⟨ret_bool (decide_eq_false (by rintro rfl; exact H2.out rfl)).symm, (by repeat (first | exact Below.refl _ _ | refine Below.setCell ?_ (by first | omega | (simp <;> omega)) _ | refine Below.alloc ?_ (by first | omega | (simp <;> omega)) _ | refine Below.drew ?_))⟩
    · have b1 : (x.2.1 != y.2.1) = true := by simp [h1]
      have H1 := Lib.hid h1
      clear h1
      go_enter Try.func192, Try.ntmps192
      go_wp2
      go_ret
      exact ⟨ret_bool (decide_eq_false (by rintro rfl; exact H1.out rfl)).symm, (by repeat (first | exact Below.refl _ _ | refine Below.setCell ?_ (by first | omega | (simp <;> omega)) _ | refine Below.alloc ?_ (by first | omega | (simp <;> omega)) _ | refine Below.drew ?_))⟩
  · have b0 : (x.1 != y.1) = true := by simp [h0]
    have H0 := Lib.hid h0
    clear h0
    go_enter Try.func192, Try.ntmps192
    go_wp2
    go_ret
    exact ⟨ret_bool (decide_eq_false (by rintro rfl; exact H0.out rfl)).symm, (by repeat (first | exact Below.refl _ _ | refine Below.setCell ?_ (by first | omega | (simp <;> omega)) _ | refine Below.alloc ?_ (by first | omega | (simp <;> omega)) _ | refine Below.drew ?_))⟩

set_option maxHeartbeats 1000000 in
theorem toCarryEventS_any (a : Option Addr) (c : Nat) (xs : List (Int × Int × Int)) (w : World) (ha : RdF tripF w a xs) :
    Calls Try.prog 95 #[.slice a xs.length c] w fun e w' => ∃ A C, e = .returned (.slice A xs.length C) ∧ OwnF tripF 41 w' w.heap.size w'.heap.size (.slice A xs.length C) xs ∧ Below w.heap.size w w' := by
  have hx1 := ha.len
  go_enter Try.func95, Try.ntmps95
  go_wp2_with (at_make; refine wpList_makeF tripF rfl _ _ _ 41 rfl Try.underlying29 _ 24 info_CarryEvent rfl (by omega) xs.length rfl rfl (by omega) ?_; intro w1 hown1 hb1)
  go_loopw [4] (fun i wr => ∃ k : Nat, k ≤ xs.length ∧ i = .int .i64 k ∧ OwnF tripF 41 wr w.heap.size (w.heap.size + 1) (.slice (some ⟨w.heap.size, 0, none⟩) xs.length xs.length) (padF tripF xs.length (xs.take k)) ∧ Below w.heap.size w wr) (fun i _ => xs.length - (intOf i).toNat)
  case atStart => exact ⟨0, Nat.zero_le _, rfl, by simpa using ownF_first hown1, hb1⟩
  case round =>
    obtain ⟨k, hk, rfl, hown, hbel⟩ := hrel
    by_cases hlt : k < xs.length
    · obtain ⟨b, off, rfl, hc0, hc1, hc2⟩ := (ha.below hbel).at3 hlt
      go_wp2_with fail
      refine (toCarryEvent_any (elt tripF xs k) wr).mono ?_
      rintro e w2 ⟨rfl, hb2⟩
      replace hown := hown.below hb2
      replace hbel := hbel.trans (hb2.mono hbel.size)
      obtain ⟨g0, g1, g2⟩ := hown.get3 (k := k) (by rw [padF_take_len hk]; exact hlt)
      have hz := hown.blk
      have f0 := hown.thaw (k * 3)
      have f1 := hown.thaw (k * 3 + 1)
      have f2 := hown.thaw (k * 3 + 2)
      have HP := Lib.hid (hown.put3 (k := k) (by rw [padF_take_len hk]; exact hlt) (elt tripF xs k))
      go_wp2
      go_roundw
      case rel => exact ⟨k + 1, by omega, by go_num, by have := HP.out; rwa [padF_copy hlt] at this, (by repeat (first | exact hbel | refine Below.setCell ?_ (by first | omega | (simp <;> omega)) _ | refine Below.alloc ?_ (by first | omega | (simp <;> omega)) _ | refine Below.drew ?_))⟩
      case measure => (simp [intOf]) <;> omega
    · obtain rfl : k = xs.length := by omega
      rw [padF_copied] at hown
      go_wp2
      go_ret
      exact ⟨_, _, rfl, hown.wide (Nat.le_refl _) hown.blk.2.2, hbel⟩

set_option maxHeartbeats 400000 in
theorem szCarryEventS_any (a : Option Addr) (n c : Nat) (left : Int) (w : World) (hn : n ≤ 9223372036854775807) (hl : 0 ≤ left) (hl' : left ≤ 1048576) :
    Calls Try.prog 93 #[.slice a n c, .int .i64 left] w fun e w' => e = .returned (.int .i64 (leftOf n left)) ∧ w = w' := by
  by_cases h : left - (n : Int) < 0
  · go_enter Try.func93, Try.ntmps93
    go_wp2
    go_ret
    exact ⟨ret_int (by rw [leftOf, if_pos h]), rfl⟩
  · go_enter Try.func93, Try.ntmps93
    go_wp2
    go_ret
    exact ⟨ret_int (by rw [leftOf, if_neg (by omega)]), rfl⟩

set_option maxHeartbeats 1000000 in
theorem eqCarryEventS_any (a b : Option Addr) (c d : Nat) (xs ys : List (Int × Int × Int)) (w : World) (ha : RdF tripF w a xs) (hb : RdF tripF w b ys) :
    Calls Try.prog 90 #[.slice a xs.length c, .slice b ys.length d] w fun e w' => e = .returned (.bool (decide (xs = ys))) ∧ Below w.heap.size w w' := by
  have hx1 := ha.len
  have hy1 := hb.len
  by_cases hl : xs.length = ys.length
  · have ht : ((xs.length : Int) != (ys.length : Int)) = false := by simp [hl]
    have HL := Lib.hid hl
    clear hl
    go_enter Try.func90, Try.ntmps90
    go_wp2
    go_loopw [5] (fun i wr => ∃ k : Nat, k ≤ xs.length ∧ i = .int .i64 k ∧ Below w.heap.size w wr ∧ Hid (xs.take k = ys.take k)) (fun i _ => xs.length - (intOf i).toNat)
    case atStart => exact ⟨0, Nat.zero_le _, rfl, Below.refl _ _, Lib.hid (by simp)⟩
    case round =>
      obtain ⟨k, hk, rfl, hbel, HT⟩ := hrel
      by_cases hlt : k < xs.length
      · have hlt' : k < ys.length := by rw [← HL.out]; exact hlt
        obtain ⟨b1, o1, rfl, p0, p1, p2⟩ := (ha.below hbel).at3 hlt
        obtain ⟨b2, o2, rfl, q0, q1, q2⟩ := (hb.below hbel).at3 hlt'
        have p0' := kept_after p0
        clear p0
        have p1' := kept_after p1
        clear p1
        have p2' := kept_after p2
        clear p2
        have q0' := kept_after q0
        clear q0
        have q1' := kept_after q1
        clear q1
        have q2' := kept_after q2
        clear q2
        by_cases he : elt tripF xs k = elt tripF ys k
        · have hd : decide (elt tripF xs k = elt tripF ys k) = true := decide_eq_true he
          have HE := Lib.hid he
          clear he
          go_wp2
          refine wp_region_after (by kernel_rfl) (by kernel_rfl) ?_
          repeat (go_big_quiet_step ((go_at_call 192; exact calls_after (eqCarryEvent_any _ _ _))))
          refine wpQuiet_nil ?_
          intro u
          go_wp2
          go_roundw
          case rel => exact ⟨k + 1, by omega, by go_num, hbel.trans (u.ok.mono hbel.size), Lib.hid (takeE_snoc (F := tripF) hlt HL.out HT.out HE.out)⟩
          case measure => (simp [intOf]) <;> omega
        · have hd : decide (elt tripF xs k = elt tripF ys k) = false := decide_eq_false he
          have HE := Lib.hid he
          clear he
          go_wp2
          refine wp_region_after (by kernel_rfl) (by kernel_rfl) ?_
          repeat (go_big_quiet_step ((go_at_call 192; exact calls_after (eqCarryEvent_any _ _ _))))
          refine wpQuiet_nil ?_
          intro u
          go_wp2
          go_ret
          exact ⟨ret_bool (decide_eq_false (neE_of_at HE.out)).symm, hbel.trans (u.ok.mono hbel.size)⟩
      · obtain rfl : k = xs.length := by omega
        go_wp2
        go_ret
        exact ⟨ret_bool (decide_eq_true (takeE_all HL.out HT.out)).symm, hbel⟩
  · have ht : ((xs.length : Int) != (ys.length : Int)) = true := by simp; omega
    have HL := Lib.hid hl
    clear hl
    go_enter Try.func90, Try.ntmps90
    go_wp2
    go_ret
    exact ⟨ret_bool (decide_eq_false (by rintro rfl; exact HL.out rfl)).symm, Below.refl _ _⟩

set_option maxHeartbeats 1000000 in
theorem markCarryEventS_any (t : TypeId) (lo hi : Nat) (A : Option Addr) (C : Nat) (k : Int) (xs : List (Int × Int × Int)) (w : World) (ho : OwnF tripF t w lo hi (.slice A xs.length C) xs) (h0 : 0 ≤ k) (h1 : k ≤ 1000000000000) :
    Calls Try.prog 91 #[.slice A xs.length C, .int .i64 k] w fun e w' => e = .returned (.int .i64 (k + 3 * (xs.length : Int))) ∧
      OwnF tripF t w' lo hi (.slice A xs.length C) (seq3 k xs.length) ∧ Touch lo hi w w' := by
  have hx1 := ho.len
  go_enter Try.func91, Try.ntmps91
  go_wp2
  go_loopw [1, 5] (fun q i wr => ∃ j : Nat, j ≤ xs.length ∧ i = .int .i64 j ∧ q = .int .i64 (k + 3 * (j : Int)) ∧ OwnF tripF t wr lo hi (.slice A xs.length C) (mrkF (fun j : Nat => (k + 3 * (j : Int), k + 3 * (j : Int) + 1, k + 3 * (j : Int) + 1 + 1)) xs j) ∧ Touch lo hi w wr) (fun _ i _ => xs.length - (intOf i).toNat)
  case atStart => exact ⟨0, Nat.zero_le _, rfl, by go_num, by rw [mrkF_zero]; exact ho, Touch.refl _ _ _⟩
  case round =>
    obtain ⟨j, hj, rfl, rfl, hown, htou⟩ := hrel
    by_cases hlt : j < xs.length
    · obtain ⟨g, rfl, hg1, hg2, hg3⟩ := hown.head (by rw [mrkF_len hj]; omega)
      obtain ⟨g0, g1, g2⟩ := hown.get3 (k := j) (by rw [mrkF_len hj]; exact hlt)
      have f0 := hown.thaw (j * 3)
      have f1 := hown.thaw (j * 3 + 1)
      have f2 := hown.thaw (j * 3 + 2)
      have HP := Lib.hid (hown.put3 (k := j) (by rw [mrkF_len hj]; exact hlt) (k + 3 * (j : Int), k + 3 * (j : Int) + 1, k + 3 * (j : Int) + 1 + 1))
      go_wp2
      go_roundw
      case rel => exact ⟨j + 1, by omega, by go_num, by first | go_num | (congr 1; omega), by have := HP.out; rw [mrkF_set (f := fun j : Nat => (k + 3 * (j : Int), k + 3 * (j : Int) + 1, k + 3 * (j : Int) + 1 + 1)) hlt] at this; exact this, (((htou.setCell hg1 hg2 _).setCell hg1 hg2 _).setCell hg1 hg2 _)⟩
      case measure => (simp [intOf]) <;> omega
    · obtain rfl : j = xs.length := by omega
      rw [mrkF_all] at hown
      go_wp2
      go_ret
      exact ⟨rfl, hown, htou⟩

set_option maxHeartbeats 1000000 in
theorem heldCarryEventS_any (A : Option Addr) (C : Nat) (k : Int) (n : Nat) (w : World) (ha : RdF tripF w A (seq3 k n)) (h0 : 0 ≤ k) (h1 : k ≤ 1000000000000) :
    Calls Try.prog 92 #[.slice A n C, .int .i64 k] w fun e w' => e = .returned (.int .i64 (k + 3 * (n : Int))) ∧ w = w' := by
  have hx := ha.len
  rw [seq3_len] at hx
  go_enter Try.func92, Try.ntmps92
  go_wp2
  go_loop [1, 5] (fun q i => ∃ j : Nat, j ≤ n ∧ i = .int .i64 j ∧ q = .int .i64 (k + 3 * (j : Int))) (fun _ i => n - (intOf i).toNat)
  case atStart => exact ⟨0, Nat.zero_le _, rfl, by go_num⟩
  case round =>
    obtain ⟨j, hj, rfl, rfl⟩ := hrel
    by_cases hlt : j < n
    · obtain ⟨b, off, rfl, hc0, hc1, hc2⟩ := ha.at3 (k := j) (by rw [seq3_len]; exact hlt)
      rw [seq3_at hlt] at hc0 hc1 hc2
      simp only at hc0 hc1 hc2
      have b0 : (k + 3 * (j : Int) != k + 3 * (j : Int)) = false := by simp
      have b1 : (k + 3 * (j : Int) + 1 != k + 3 * (j : Int) + 1) = false := by simp
      have b2 : (k + 3 * (j : Int) + 1 + 1 != k + 3 * (j : Int) + 1 + 1) = false := by simp
      go_wp2
      go_round
      case rel => exact ⟨j + 1, by omega, by go_num, by first | go_num | (congr 1; omega)⟩
      case measure => (simp [intOf]) <;> omega
    · obtain rfl : j = n := by omega
      go_wp2
      go_ret
      exact ⟨rfl, rfl⟩

end Go.Proofs.Ytgfpjcckkbhdjaa
