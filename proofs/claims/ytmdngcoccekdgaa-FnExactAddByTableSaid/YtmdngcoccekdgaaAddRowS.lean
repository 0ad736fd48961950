/-
  laws: AddRow and []AddRow: copies, equality, sizes, marks.
-/
import Derived.Test.YtmdngcoccekdgaaProg
import Derived.Test.YtmdngcoccekdgaaFlat5
import Derived.Test.YtmdngcoccekdgaaLeft
namespace Go.Proofs.Ytmdngcoccekdgaa
open Go.RowKit

theorem info_AddRow : (Try.prog.info? 88).map (fun i => (i.zero, i.size, i.bytes)) = some (some (.agg #[.int .i64 0, .int .i64 0, .int .i64 0, .int .i64 0, .int .i64 0]), 5, 40) := by kernel_rfl

set_option maxHeartbeats 400000 in
theorem toAddRow_any (x : (Int × Int × Int × Int × Int)) (w : World) : Calls Try.prog 91 #[.agg #[.int .i64 x.1, .int .i64 x.2.1, .int .i64 x.2.2.1, .int .i64 x.2.2.2.1, .int .i64 x.2.2.2.2]] w fun e w' => e = .returned (.agg #[.int .i64 x.1, .int .i64 x.2.1, .int .i64 x.2.2.1, .int .i64 x.2.2.2.1, .int .i64 x.2.2.2.2]) ∧ Below w.heap.size w w' := by
  go_enter Try.func91, Try.ntmps91
  go_wp2
  exact bodyPost_ret (v := .agg #[.int .i64 x.1, .int .i64 x.2.1, .int .i64 x.2.2.1, .int .i64 x.2.2.2.1, .int .i64 x.2.2.2.2]) (by simp [results, Try.results91, go_sem]) rfl ⟨rfl, (by repeat (first | exact Below.refl _ _ | refine Below.setCell ?_ (by first | omega | (simp <;> omega)) _ | refine Below.alloc ?_ (by first | omega | (simp <;> omega)) _ | refine Below.drew ?_))⟩

theorem AddRow_ext {x y : (Int × Int × Int × Int × Int)} (h0 : x.1 = y.1) (h1 : x.2.1 = y.2.1) (h2 : x.2.2.1 = y.2.2.1) (h3 : x.2.2.2.1 = y.2.2.2.1) (h4 : x.2.2.2.2 = y.2.2.2.2) : x = y := by
  obtain ⟨a0, a1, a2, a3, a4⟩ := x
  obtain ⟨b0, b1, b2, b3, b4⟩ := y
  simp only at h0 h1 h2 h3 h4
  subst h0 h1 h2 h3 h4
  rfl

set_option maxHeartbeats 400000 in
theorem eqAddRow_any (x y : (Int × Int × Int × Int × Int)) (w : World) : Calls Try.prog 89 #[.agg #[.int .i64 x.1, .int .i64 x.2.1, .int .i64 x.2.2.1, .int .i64 x.2.2.2.1, .int .i64 x.2.2.2.2], .agg #[.int .i64 y.1, .int .i64 y.2.1, .int .i64 y.2.2.1, .int .i64 y.2.2.2.1, .int .i64 y.2.2.2.2]] w fun e w' => e = .returned (.bool (decide (x = y))) ∧ Below w.heap.size w w' := by
  by_cases h0 : x.1 = y.1
  · have b0 : (x.1 != y.1) = false := by simp [h0]
    have H0 := Lib.hid h0
    clear h0
    by_cases h1 : x.2.1 = y.2.1
    · have b1 : (x.2.1 != y.2.1) = false := by simp [h1]
      have H1 := Lib.hid h1
      clear h1
      by_cases h2 : x.2.2.1 = y.2.2.1
      · have b2 : (x.2.2.1 != y.2.2.1) = false := by simp [h2]
        have H2 := Lib.hid h2
        clear h2
        by_cases h3 : x.2.2.2.1 = y.2.2.2.1
        · have b3 : (x.2.2.2.1 != y.2.2.2.1) = false := by simp [h3]
          have H3 := Lib.hid h3
          clear h3
          by_cases h4 : x.2.2.2.2 = y.2.2.2.2
          · have b4 : (x.2.2.2.2 != y.2.2.2.2) = false := by simp [h4]
            have H4 := Lib.hid h4
            clear h4
            go_enter Try.func89, Try.ntmps89
            go_wp2
            go_ret
            exact ⟨ret_bool (decide_eq_true (AddRow_ext H0.out H1.out H2.out H3.out H4.out)).symm, (by repeat (first | exact Below.refl _ _ | refine Below.setCell ?_ (by first | omega | (simp <;> omega)) _ | refine Below.alloc ?_ (by first | omega | (simp <;> omega)) _ | refine Below.drew ?_))⟩
          · have b4 : (x.2.2.2.2 != y.2.2.2.2) = true := by simp [h4]
            have H4 := Lib.hid h4
            clear h4
            go_enter Try.func89, Try.ntmps89
            go_wp2
            go_ret
            exact ⟨ret_bool (decide_eq_false (by rintro rfl; exact H4.out rfl)).symm, (by repeat (first | exact Below.refl _ _ | refine Below.setCell ?_ (by first | omega | (simp <;> omega)) _ | refine Below.alloc ?_ (by first | omega | (simp <;> omega)) _ | refine Below.drew ?_))⟩
        · have b3 : (x.2.2.2.1 != y.2.2.2.1) = true := by simp [h3]
          have H3 := Lib.hid h3
          clear h3
          go_enter Try.func89, Try.ntmps89
          go_wp2
          go_ret
          exact ⟨ret_bool (decide_eq_false (by rintro rfl; exact H3.out rfl)).symm, (by repeat (first | exact Below.refl _ _ | refine Below.setCell ?_ (by first | omega | (simp <;> omega)) _ | refine Below.alloc ?_ (by first | omega | (simp <;> omega)) _ | refine Below.drew ?_))⟩
      · have b2 : (x.2.2.1 != y.2.2.1) = true := by simp [h2]
        have H2 := Lib.hid h2
        clear h2
        go_enter Try.func89, Try.ntmps89
        go_wp2
        go_ret
        exact ⟨ret_bool (decide_eq_false (by rintro rfl; exact H2.out rfl)).symm, (by repeat (first | exact Below.refl _ _ | refine Below.setCell ?_ (by first | omega | (simp <;> omega)) _ | refine Below.alloc ?_ (by first | omega | (simp <;> omega)) _ | refine Below.drew ?_))⟩
    · have b1 : (x.2.1 != y.2.1) = true := by simp [h1]
      have H1 := Lib.hid h1
      clear h1
      go_enter Try.func89, Try.ntmps89
      go_wp2
      go_ret
      exact ⟨ret_bool (decide_eq_false (by rintro rfl; exact H1.out rfl)).symm, (by repeat (first | exact Below.refl _ _ | refine Below.setCell ?_ (by first | omega | (simp <;> omega)) _ | refine Below.alloc ?_ (by first | omega | (simp <;> omega)) _ | refine Below.drew ?_))⟩
  · have b0 : (x.1 != y.1) = true := by simp [h0]
    have H0 := Lib.hid h0
    clear h0
    go_enter Try.func89, Try.ntmps89
    go_wp2
    go_ret
    exact ⟨ret_bool (decide_eq_false (by rintro rfl; exact H0.out rfl)).symm, (by repeat (first | exact Below.refl _ _ | refine Below.setCell ?_ (by first | omega | (simp <;> omega)) _ | refine Below.alloc ?_ (by first | omega | (simp <;> omega)) _ | refine Below.drew ?_))⟩

set_option maxHeartbeats 1000000 in
theorem toAddRowS_any (a : Option Addr) (c : Nat) (xs : List (Int × Int × Int × Int × Int)) (w : World) (ha : RdF quinF w a xs) :
    Calls Try.prog 47 #[.slice a xs.length c] w fun e w' => ∃ A C, e = .returned (.slice A xs.length C) ∧ OwnF quinF 88 w' w.heap.size w'.heap.size (.slice A xs.length C) xs ∧ Below w.heap.size w w' := by
  have hx1 := ha.len
  go_enter Try.func47, Try.ntmps47
  go_wp2_with (at_make; refine wpList_makeF quinF rfl _ _ _ 88 rfl Try.underlying24 _ 40 info_AddRow rfl (by omega) xs.length rfl rfl (by omega) ?_; intro w1 hown1 hb1)
  go_loopw [4] (fun i wr => ∃ k : Nat, k ≤ xs.length ∧ i = .int .i64 k ∧ OwnF quinF 88 wr w.heap.size (w.heap.size + 1) (.slice (some ⟨w.heap.size, 0, none⟩) xs.length xs.length) (padF quinF xs.length (xs.take k)) ∧ Below w.heap.size w wr) (fun i _ => xs.length - (intOf i).toNat)
  case atStart => exact ⟨0, Nat.zero_le _, rfl, by simpa using ownF_first hown1, hb1⟩
  case round =>
    obtain ⟨k, hk, rfl, hown, hbel⟩ := hrel
    by_cases hlt : k < xs.length
    · obtain ⟨b, off, rfl, hc0, hc1, hc2, hc3, hc4⟩ := (ha.below hbel).at5 hlt
      go_wp2_with fail
      refine (toAddRow_any (elt quinF xs k) wr).mono ?_
      rintro e w2 ⟨rfl, hb2⟩
      replace hown := hown.below hb2
      replace hbel := hbel.trans (hb2.mono hbel.size)
      obtain ⟨g0, g1, g2, g3, g4⟩ := hown.get5 (k := k) (by rw [padF_take_len hk]; exact hlt)
      have hz := hown.blk
      have f0 := hown.thaw (k * 5)
      have f1 := hown.thaw (k * 5 + 1)
      have f2 := hown.thaw (k * 5 + 2)
      have f3 := hown.thaw (k * 5 + 3)
      have f4 := hown.thaw (k * 5 + 4)
      have HP := Lib.hid (hown.put5 (k := k) (by rw [padF_take_len hk]; exact hlt) (elt quinF xs k))
      go_wp2
      go_roundw
      case rel => exact ⟨k + 1, by omega, by go_num, by have := HP.out; rwa [padF_copy hlt] at this, (by repeat (first | exact hbel | refine Below.setCell ?_ (by first | omega | (simp <;> omega)) _ | refine Below.alloc ?_ (by first | omega | (simp <;> omega)) _ | refine Below.drew ?_))⟩
      case measure => (simp [intOf]) <;> omega
    · obtain rfl : k = xs.length := by omega
      rw [padF_copied] at hown
      go_wp2
      go_ret
      exact ⟨_, _, rfl, hown.wide (Nat.le_refl _) hown.blk.2.2, hbel⟩

set_option maxHeartbeats 400000 in
theorem szAddRowS_any (a : Option Addr) (n c : Nat) (left : Int) (w : World) (hn : n ≤ 9223372036854775807) (hl : 0 ≤ left) (hl' : left ≤ 1048576) :
    Calls Try.prog 45 #[.slice a n c, .int .i64 left] w fun e w' => e = .returned (.int .i64 (leftOf n left)) ∧ w = w' := by
  by_cases h : left - (n : Int) < 0
  · go_enter Try.func45, Try.ntmps45
    go_wp2
    go_ret
    exact ⟨ret_int (by rw [leftOf, if_pos h]), rfl⟩
  · go_enter Try.func45, Try.ntmps45
    go_wp2
    go_ret
    exact ⟨ret_int (by rw [leftOf, if_neg (by omega)]), rfl⟩

set_option maxHeartbeats 1000000 in
theorem eqAddRowS_any (a b : Option Addr) (c d : Nat) (xs ys : List (Int × Int × Int × Int × Int)) (w : World) (ha : RdF quinF w a xs) (hb : RdF quinF w b ys) :
    Calls Try.prog 42 #[.slice a xs.length c, .slice b ys.length d] w fun e w' => e = .returned (.bool (decide (xs = ys))) ∧ Below w.heap.size w w' := by
  have hx1 := ha.len
  have hy1 := hb.len
  by_cases hl : xs.length = ys.length
  · have ht : ((xs.length : Int) != (ys.length : Int)) = false := by simp [hl]
    have HL := Lib.hid hl
    clear hl
    go_enter Try.func42, Try.ntmps42
    go_wp2
    go_loopw [5] (fun i wr => ∃ k : Nat, k ≤ xs.length ∧ i = .int .i64 k ∧ Below w.heap.size w wr ∧ Hid (xs.take k = ys.take k)) (fun i _ => xs.length - (intOf i).toNat)
    case atStart => exact ⟨0, Nat.zero_le _, rfl, Below.refl _ _, Lib.hid (by simp)⟩
    case round =>
      obtain ⟨k, hk, rfl, hbel, HT⟩ := hrel
      by_cases hlt : k < xs.length
      · have hlt' : k < ys.length := by rw [← HL.out]; exact hlt
        obtain ⟨b1, o1, rfl, p0, p1, p2, p3, p4⟩ := (ha.below hbel).at5 hlt
        obtain ⟨b2, o2, rfl, q0, q1, q2, q3, q4⟩ := (hb.below hbel).at5 hlt'
        have p0' := kept_after p0
        clear p0
        have p1' := kept_after p1
        clear p1
        have p2' := kept_after p2
        clear p2
        have p3' := kept_after p3
        clear p3
        have p4' := kept_after p4
        clear p4
        have q0' := kept_after q0
        clear q0
        have q1' := kept_after q1
        clear q1
        have q2' := kept_after q2
        clear q2
        have q3' := kept_after q3
        clear q3
        have q4' := kept_after q4
        clear q4
        by_cases he : elt quinF xs k = elt quinF ys k
        · have hd : decide (elt quinF xs k = elt quinF ys k) = true := decide_eq_true he
          have HE := Lib.hid he
          clear he
          go_wp2
          refine wp_region_after (by kernel_rfl) (by kernel_rfl) ?_
          repeat (go_big_quiet_step ((go_at_call 89; exact calls_after (eqAddRow_any _ _ _))))
          refine wpQuiet_nil ?_
          intro u
          go_wp2
          go_roundw
          case rel => exact ⟨k + 1, by omega, by go_num, hbel.trans (u.ok.mono hbel.size), Lib.hid (takeE_snoc (F := quinF) hlt HL.out HT.out HE.out)⟩
          case measure => (simp [intOf]) <;> omega
        · have hd : decide (elt quinF xs k = elt quinF ys k) = false := decide_eq_false he
          have HE := Lib.hid he
          clear he
          go_wp2
          refine wp_region_after (by kernel_rfl) (by kernel_rfl) ?_
          repeat (go_big_quiet_step ((go_at_call 89; exact calls_after (eqAddRow_any _ _ _))))
          refine wpQuiet_nil ?_
          intro u
          go_wp2
          go_ret
          exact ⟨ret_bool (decide_eq_false (neE_of_at HE.out)).symm, hbel.trans (u.ok.mono hbel.size)⟩
      · obtain rfl : k = xs.length := by omega
        go_wp2
        go_ret
        exact ⟨ret_bool (decide_eq_true (takeE_all HL.out HT.out)).symm, hbel⟩
  · have ht : ((xs.length : Int) != (ys.length : Int)) = true := by simp; omega
    have HL := Lib.hid hl
    clear hl
    go_enter Try.func42, Try.ntmps42
    go_wp2
    go_ret
    exact ⟨ret_bool (decide_eq_false (by rintro rfl; exact HL.out rfl)).symm, Below.refl _ _⟩

set_option maxHeartbeats 1000000 in
theorem markAddRowS_any (t : TypeId) (lo hi : Nat) (A : Option Addr) (C : Nat) (k : Int) (xs : List (Int × Int × Int × Int × Int)) (w : World) (ho : OwnF quinF t w lo hi (.slice A xs.length C) xs) (h0 : 0 ≤ k) (h1 : k ≤ 1000000000000) :
    Calls Try.prog 43 #[.slice A xs.length C, .int .i64 k] w fun e w' => e = .returned (.int .i64 (k + 5 * (xs.length : Int))) ∧
      OwnF quinF t w' lo hi (.slice A xs.length C) (seq5 k xs.length) ∧ Touch lo hi w w' := by
  have hx1 := ho.len
  go_enter Try.func43, Try.ntmps43
  go_wp2
  go_loopw [1, 5] (fun q i wr => ∃ j : Nat, j ≤ xs.length ∧ i = .int .i64 j ∧ q = .int .i64 (k + 5 * (j : Int)) ∧ OwnF quinF t wr lo hi (.slice A xs.length C) (mrkF (fun j : Nat => (k + 5 * (j : Int), k + 5 * (j : Int) + 1, k + 5 * (j : Int) + 1 + 1, k + 5 * (j : Int) + 1 + 1 + 1, k + 5 * (j : Int) + 1 + 1 + 1 + 1)) xs j) ∧ Touch lo hi w wr) (fun _ i _ => xs.length - (intOf i).toNat)
  case atStart => exact ⟨0, Nat.zero_le _, rfl, by go_num, by rw [mrkF_zero]; exact ho, Touch.refl _ _ _⟩
  case round =>
    obtain ⟨j, hj, rfl, rfl, hown, htou⟩ := hrel
    by_cases hlt : j < xs.length
    · obtain ⟨g, rfl, hg1, hg2, hg3⟩ := hown.head (by rw [mrkF_len hj]; omega)
      obtain ⟨g0, g1, g2, g3, g4⟩ := hown.get5 (k := j) (by rw [mrkF_len hj]; exact hlt)
      have f0 := hown.thaw (j * 5)
      have f1 := hown.thaw (j * 5 + 1)
      have f2 := hown.thaw (j * 5 + 2)
      have f3 := hown.thaw (j * 5 + 3)
      have f4 := hown.thaw (j * 5 + 4)
      have HP := Lib.hid (hown.put5 (k := j) (by rw [mrkF_len hj]; exact hlt) (k + 5 * (j : Int), k + 5 * (j : Int) + 1, k + 5 * (j : Int) + 1 + 1, k + 5 * (j : Int) + 1 + 1 + 1, k + 5 * (j : Int) + 1 + 1 + 1 + 1))
      go_wp2
      go_roundw
      case rel => exact ⟨j + 1, by omega, by go_num, by first | go_num | (congr 1; omega), by have := HP.out; rw [mrkF_set (f := fun j : Nat => (k + 5 * (j : Int), k + 5 * (j : Int) + 1, k + 5 * (j : Int) + 1 + 1, k + 5 * (j : Int) + 1 + 1 + 1, k + 5 * (j : Int) + 1 + 1 + 1 + 1)) hlt] at this; exact this, (((((htou.setCell hg1 hg2 _).setCell hg1 hg2 _).setCell hg1 hg2 _).setCell hg1 hg2 _).setCell hg1 hg2 _)⟩
      case measure => (simp [intOf]) <;> omega
    · obtain rfl : j = xs.length := by omega
      rw [mrkF_all] at hown
      go_wp2
      go_ret
      exact ⟨rfl, hown, htou⟩

set_option maxHeartbeats 1000000 in
theorem heldAddRowS_any (A : Option Addr) (C : Nat) (k : Int) (n : Nat) (w : World) (ha : RdF quinF w A (seq5 k n)) (h0 : 0 ≤ k) (h1 : k ≤ 1000000000000) :
    Calls Try.prog 44 #[.slice A n C, .int .i64 k] w fun e w' => e = .returned (.int .i64 (k + 5 * (n : Int))) ∧ w = w' := by
  have hx := ha.len
  rw [seq5_len] at hx
  go_enter Try.func44, Try.ntmps44
  go_wp2
  go_loop [1, 5] (fun q i => ∃ j : Nat, j ≤ n ∧ i = .int .i64 j ∧ q = .int .i64 (k + 5 * (j : Int))) (fun _ i => n - (intOf i).toNat)
  case atStart => exact ⟨0, Nat.zero_le _, rfl, by go_num⟩
  case round =>
    obtain ⟨j, hj, rfl, rfl⟩ := hrel
    by_cases hlt : j < n
    · obtain ⟨b, off, rfl, hc0, hc1, hc2, hc3, hc4⟩ := ha.at5 (k := j) (by rw [seq5_len]; exact hlt)
      rw [seq5_at hlt] at hc0 hc1 hc2 hc3 hc4
      simp only at hc0 hc1 hc2 hc3 hc4
      have b0 : (k + 5 * (j : Int) != k + 5 * (j : Int)) = false := by simp
      have b1 : (k + 5 * (j : Int) + 1 != k + 5 * (j : Int) + 1) = false := by simp
      have b2 : (k + 5 * (j : Int) + 1 + 1 != k + 5 * (j : Int) + 1 + 1) = false := by simp
      have b3 : (k + 5 * (j : Int) + 1 + 1 + 1 != k + 5 * (j : Int) + 1 + 1 + 1) = false := by simp
      have b4 : (k + 5 * (j : Int) + 1 + 1 + 1 + 1 != k + 5 * (j : Int) + 1 + 1 + 1 + 1) = false := by simp
      go_wp2
      go_round
      case rel => exact ⟨j + 1, by omega, by go_num, by first | go_num | (congr 1; omega)⟩
      case measure => (simp [intOf]) <;> omega
    · obtain rfl : j = n := by omega
      go_wp2
      go_ret
      exact ⟨rfl, rfl⟩

end Go.Proofs.Ytmdngcoccekdgaa
