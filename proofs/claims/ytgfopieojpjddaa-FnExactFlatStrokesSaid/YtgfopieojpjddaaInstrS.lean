/-
  laws: Instr and []Instr: copies, equality, sizes, marks.
-/
import Derived.Test.YtgfopieojpjddaaProg
import Derived.Test.YtgfopieojpjddaaFlat
import Derived.Test.YtgfopieojpjddaaLeft
namespace Go.Proofs.Ytgfopieojpjddaa
open Go.RowKit

theorem info_Instr : (Try.prog.info? 41).map (fun i => (i.zero, i.size, i.bytes)) = some (some (.agg #[.int .i64 0, .int .i64 0]), 2, 16) := by kernel_rfl

set_option maxHeartbeats 400000 in
theorem toInstr_any (x : (Int × Int)) (w : World) : Calls Try.prog 26 #[.agg #[.int .i64 x.1, .int .i64 x.2]] w fun e w' => e = .returned (.agg #[.int .i64 x.1, .int .i64 x.2]) ∧ Below w.heap.size w w' := by
  go_enter Try.func26, Try.ntmps26
  go_wp2
  exact bodyPost_ret (v := .agg #[.int .i64 x.1, .int .i64 x.2]) (by simp [results, Try.results26, go_sem]) rfl ⟨rfl, (by repeat (first | exact Below.refl _ _ | refine Below.setCell ?_ (by first | omega | (simp <;> omega)) _ | refine Below.alloc ?_ (by first | omega | (simp <;> omega)) _ | refine Below.drew ?_))⟩

theorem Instr_ext {x y : (Int × Int)} (h0 : x.1 = y.1) (h1 : x.2 = y.2) : x = y := by
  obtain ⟨a0, a1⟩ := x
  obtain ⟨b0, b1⟩ := y
  simp only at h0 h1
  subst h0 h1
  rfl

set_option maxHeartbeats 400000 in
theorem eqInstr_any (x y : (Int × Int)) (w : World) : Calls Try.prog 28 #[.agg #[.int .i64 x.1, .int .i64 x.2], .agg #[.int .i64 y.1, .int .i64 y.2]] w fun e w' => e = .returned (.bool (decide (x = y))) ∧ Below w.heap.size w w' := by
  by_cases h0 : x.1 = y.1
  · have b0 : (x.1 != y.1) = false := by simp [h0]
    have H0 := Lib.hid h0
    clear h0
    by_cases h1 : x.2 = y.2
    · have b1 : (x.2 != y.2) = false := by simp [h1]
      have H1 := Lib.hid h1
      clear h1
      go_enter Try.func28, Try.ntmps28
      go_wp2
      go_ret
      exact ⟨ret_bool (decide_eq_true (Instr_ext H0.out H1.out)).symm, (by repeat (first | exact Below.refl _ _ | refine Below.setCell ?_ (by first | omega | (simp <;> omega)) _ | refine Below.alloc ?_ (by first | omega | (simp <;> omega)) _ | refine Below.drew ?_))⟩
    · have b1 : (x.2 != y.2) = true := by simp [h1]
      have H1 := Lib.hid h1
      clear h1
      go_enter Try.func28, Try.ntmps28
      go_wp2
      go_ret
      exact ⟨ret_bool (decide_eq_false (by rintro rfl; exact H1.out rfl)).symm, (by repeat (first | exact Below.refl _ _ | refine Below.setCell ?_ (by first | omega | (simp <;> omega)) _ | refine Below.alloc ?_ (by first | omega | (simp <;> omega)) _ | refine Below.drew ?_))⟩
  · have b0 : (x.1 != y.1) = true := by simp [h0]
    have H0 := Lib.hid h0
    clear h0
    go_enter Try.func28, Try.ntmps28
    go_wp2
    go_ret
    exact ⟨ret_bool (decide_eq_false (by rintro rfl; exact H0.out rfl)).symm, (by repeat (first | exact Below.refl _ _ | refine Below.setCell ?_ (by first | omega | (simp <;> omega)) _ | refine Below.alloc ?_ (by first | omega | (simp <;> omega)) _ | refine Below.drew ?_))⟩

set_option maxHeartbeats 1000000 in
theorem toInstrS_any (a : Option Addr) (c : Nat) (xs : List (Int × Int)) (w : World) (ha : RdF pairF w a xs) :
    Calls Try.prog 10 #[.slice a xs.length c] w fun e w' => ∃ A C, e = .returned (.slice A xs.length C) ∧ OwnF pairF 41 w' w.heap.size w'.heap.size (.slice A xs.length C) xs ∧ Below w.heap.size w w' := by
  have hx1 := ha.len
  go_enter Try.func10, Try.ntmps10
  go_wp2_with (at_make; refine wpList_makeF pairF rfl _ _ _ 41 rfl Try.underlying25 _ 16 info_Instr rfl (by omega) xs.length rfl rfl (by omega) ?_; intro w1 hown1 hb1)
  go_loopw [4] (fun i wr => ∃ k : Nat, k ≤ xs.length ∧ i = .int .i64 k ∧ OwnF pairF 41 wr w.heap.size (w.heap.size + 1) (.slice (some ⟨w.heap.size, 0, none⟩) xs.length xs.length) (padF pairF xs.length (xs.take k)) ∧ Below w.heap.size w wr) (fun i _ => xs.length - (intOf i).toNat)
  case atStart => exact ⟨0, Nat.zero_le _, rfl, by simpa using ownF_first hown1, hb1⟩
  case round =>
    obtain ⟨k, hk, rfl, hown, hbel⟩ := hrel
    by_cases hlt : k < xs.length
    · obtain ⟨b, off, rfl, hc0, hc1⟩ := (ha.below hbel).at2 hlt
      go_wp2_with fail
      refine (toInstr_any (elt pairF xs k) wr).mono ?_
      rintro e w2 ⟨rfl, hb2⟩
      replace hown := hown.below hb2
      replace hbel := hbel.trans (hb2.mono hbel.size)
      obtain ⟨g0, g1⟩ := hown.get2 (k := k) (by rw [padF_take_len hk]; exact hlt)
      have hz := hown.blk
      have f0 := hown.thaw (k * 2)
      have f1 := hown.thaw (k * 2 + 1)
      have HP := Lib.hid (hown.put2 (k := k) (by rw [padF_take_len hk]; exact hlt) (elt pairF xs k))
      go_wp2
      go_roundw
      case rel => exact ⟨k + 1, by omega, by go_num, by have := HP.out; rwa [padF_copy hlt] at this, (by repeat (first | exact hbel | refine Below.setCell ?_ (by first | omega | (simp <;> omega)) _ | refine Below.alloc ?_ (by first | omega | (simp <;> omega)) _ | refine Below.drew ?_))⟩
      case measure => (simp [intOf]) <;> omega
    · obtain rfl : k = xs.length := by omega
      rw [padF_copied] at hown
      go_wp2
      go_ret
      exact ⟨_, _, rfl, hown.wide (Nat.le_refl _) hown.blk.2.2, hbel⟩

set_option maxHeartbeats 400000 in
theorem szInstrS_any (a : Option Addr) (n c : Nat) (left : Int) (w : World) (hn : n ≤ 9223372036854775807) (hl : 0 ≤ left) (hl' : left ≤ 1048576) :
    Calls Try.prog 8 #[.slice a n c, .int .i64 left] w fun e w' => e = .returned (.int .i64 (leftOf n left)) ∧ w = w' := by
  by_cases h : left - (n : Int) < 0
  · go_enter Try.func8, Try.ntmps8
    go_wp2
    go_ret
    exact ⟨ret_int (by rw [leftOf, if_pos h]), rfl⟩
  · go_enter Try.func8, Try.ntmps8
    go_wp2
    go_ret
    exact ⟨ret_int (by rw [leftOf, if_neg (by omega)]), rfl⟩

set_option maxHeartbeats 1000000 in
theorem eqInstrS_any (a b : Option Addr) (c d : Nat) (xs ys : List (Int × Int)) (w : World) (ha : RdF pairF w a xs) (hb : RdF pairF w b ys) :
    Calls Try.prog 12 #[.slice a xs.length c, .slice b ys.length d] w fun e w' => e = .returned (.bool (decide (xs = ys))) ∧ Below w.heap.size w w' := by
  have hx1 := ha.len
  have hy1 := hb.len
  by_cases hl : xs.length = ys.length
  · have ht : ((xs.length : Int) != (ys.length : Int)) = false := by simp [hl]
    have HL := Lib.hid hl
    clear hl
    go_enter Try.func12, Try.ntmps12
    go_wp2
    go_loopw [5] (fun i wr => ∃ k : Nat, k ≤ xs.length ∧ i = .int .i64 k ∧ Below w.heap.size w wr ∧ Hid (xs.take k = ys.take k)) (fun i _ => xs.length - (intOf i).toNat)
    case atStart => exact ⟨0, Nat.zero_le _, rfl, Below.refl _ _, Lib.hid (by simp)⟩
    case round =>
      obtain ⟨k, hk, rfl, hbel, HT⟩ := hrel
      by_cases hlt : k < xs.length
      · have hlt' : k < ys.length := by rw [← HL.out]; exact hlt
        obtain ⟨b1, o1, rfl, p0, p1⟩ := (ha.below hbel).at2 hlt
        obtain ⟨b2, o2, rfl, q0, q1⟩ := (hb.below hbel).at2 hlt'
        have p0' := kept_after p0
        clear p0
        have p1' := kept_after p1
        clear p1
        have q0' := kept_after q0
        clear q0
        have q1' := kept_after q1
        clear q1
        by_cases he : elt pairF xs k = elt pairF ys k
        · have hd : decide (elt pairF xs k = elt pairF ys k) = true := decide_eq_true he
          have HE := Lib.hid he
          clear he
          go_wp2
          refine wp_region_after (by kernel_rfl) (by kernel_rfl) ?_
          repeat (go_big_quiet_step ((go_at_call 28; exact calls_after (eqInstr_any _ _ _))))
          refine wpQuiet_nil ?_
          intro u
          go_wp2
          go_roundw
          case rel => exact ⟨k + 1, by omega, by go_num, hbel.trans (u.ok.mono hbel.size), Lib.hid (takeE_snoc (F := pairF) hlt HL.out HT.out HE.out)⟩
          case measure => (simp [intOf]) <;> omega
        · have hd : decide (elt pairF xs k = elt pairF ys k) = false := decide_eq_false he
          have HE := Lib.hid he
          clear he
          go_wp2
          refine wp_region_after (by kernel_rfl) (by kernel_rfl) ?_
          repeat (go_big_quiet_step ((go_at_call 28; exact calls_after (eqInstr_any _ _ _))))
          refine wpQuiet_nil ?_
          intro u
          go_wp2
          go_ret
          exact ⟨ret_bool (decide_eq_false (neE_of_at HE.out)).symm, hbel.trans (u.ok.mono hbel.size)⟩
      · obtain rfl : k = xs.length := by omega
        go_wp2
        go_ret
        exact ⟨ret_bool (decide_eq_true (takeE_all HL.out HT.out)).symm, hbel⟩
  · have ht : ((xs.length : Int) != (ys.length : Int)) = true := by simp; omega
    have HL := Lib.hid hl
    clear hl
    go_enter Try.func12, Try.ntmps12
    go_wp2
    go_ret
    exact ⟨ret_bool (decide_eq_false (by rintro rfl; exact HL.out rfl)).symm, Below.refl _ _⟩

set_option maxHeartbeats 1000000 in
theorem markInstrS_any (t : TypeId) (lo hi : Nat) (A : Option Addr) (C : Nat) (k : Int) (xs : List (Int × Int)) (w : World) (ho : OwnF pairF t w lo hi (.slice A xs.length C) xs) (h0 : 0 ≤ k) (h1 : k ≤ 1000000000000) :
    Calls Try.prog 22 #[.slice A xs.length C, .int .i64 k] w fun e w' => e = .returned (.int .i64 (k + 2 * (xs.length : Int))) ∧
      OwnF pairF t w' lo hi (.slice A xs.length C) (seq2 k xs.length) ∧ Touch lo hi w w' := by
  have hx1 := ho.len
  go_enter Try.func22, Try.ntmps22
  go_wp2
  go_loopw [1, 5] (fun q i wr => ∃ j : Nat, j ≤ xs.length ∧ i = .int .i64 j ∧ q = .int .i64 (k + 2 * (j : Int)) ∧ OwnF pairF t wr lo hi (.slice A xs.length C) (mrkF (fun j : Nat => (k + 2 * (j : Int), k + 2 * (j : Int) + 1)) xs j) ∧ Touch lo hi w wr) (fun _ i _ => xs.length - (intOf i).toNat)
  case atStart => exact ⟨0, Nat.zero_le _, rfl, by go_num, by rw [mrkF_zero]; exact ho, Touch.refl _ _ _⟩
  case round =>
    obtain ⟨j, hj, rfl, rfl, hown, htou⟩ := hrel
    by_cases hlt : j < xs.length
    · obtain ⟨g, rfl, hg1, hg2, hg3⟩ := hown.head (by rw [mrkF_len hj]; omega)
      obtain ⟨g0, g1⟩ := hown.get2 (k := j) (by rw [mrkF_len hj]; exact hlt)
      have f0 := hown.thaw (j * 2)
      have f1 := hown.thaw (j * 2 + 1)
      have HP := Lib.hid (hown.put2 (k := j) (by rw [mrkF_len hj]; exact hlt) (k + 2 * (j : Int), k + 2 * (j : Int) + 1))
      go_wp2
      go_roundw
      case rel => exact ⟨j + 1, by omega, by go_num, by first | go_num | (congr 1; omega), by have := HP.out; rw [mrkF_set (f := fun j : Nat => (k + 2 * (j : Int), k + 2 * (j : Int) + 1)) hlt] at this; exact this, ((htou.setCell hg1 hg2 _).setCell hg1 hg2 _)⟩
      case measure => (simp [intOf]) <;> omega
    · obtain rfl : j = xs.length := by omega
      rw [mrkF_all] at hown
      go_wp2
      go_ret
      exact ⟨rfl, hown, htou⟩

end Go.Proofs.Ytgfopieojpjddaa
