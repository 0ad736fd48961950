/-
  Several texts in one: EqI, ToI, ToReg, Left, MarkI, Reg, Box, FrameI, Frame, InS, Digs, Val, Ar, AccM, CirI, SameI, SliEq, SameReg, Iter, Back, Value, OkS, OkI, PairI, TwoS, App, Ord, RegC, Plus, Minus, Fin, NewReg, ShnI, IsI, Row, AllM, RgsI, Flat.
-/
import Derived.Test.YtlahobdopmdfmaaDoorProg
import Derived.Test.YtlahobdopmdfmaaDoorBase
import Derived.Test.YtlahobdopmdfmaaDoorRows
import Derived.Test.YtlahobdopmdfmaaDoorKnob
import Derived.Deep.Cut
import Derived.ProofKit
import Derived.OpenShut
import Derived.ShutString
import Derived.ChangeOld
import Derived.Lib.SmallJoins
import Derived.BigQuiet
import Derived.RangeFuncNested
import Derived.RangeFuncBound
import Derived.RangeFuncCalls
import Derived.RangeFuncLeaves
import Derived.RangeFuncBox
import Derived.Shelf.Abstract
import Derived.Shelf.RegionOpen
import Derived.OwnWalkIn
import Derived.TacticsInMore
import Derived.LoopNIn
import Derived.LoopIn
import Derived.Maps.AppendAt
import Derived.StillTailTactics
import Derived.OrdersHeld
import Derived.WalkKit
import Derived.LaidEql
import Derived.RowKitTokens

/- EqI -/
namespace Go.Proofs.YtlahobdopmdfmaaDoor
open Go.RowKit

set_option maxHeartbeats 400000 in
theorem eqInt64S_any (a b : Option Addr) (c d : Nat) (xs ys : List Int) (w : World) (ha : Rd w a xs) (hb : Rd w b ys) :
    Calls Tryd.prog 73 #[.slice a xs.length c, .slice b ys.length d] w fun e w' => e = .returned (.bool (decide (xs = ys))) ∧ ∃ n, w' = w.drewN n := by
  have hx1 := ha.len
  have hy1 := hb.len
  by_cases hl : xs.length = ys.length
  · have ht : ((xs.length : Int) != (ys.length : Int)) = false := by simp [hl]
    have HL := Lib.hid hl
    clear hl
    go_enter Tryd.func73, Tryd.ntmps73
    go_wp2
    go_loopw [5] (fun i wr => ∃ k n : Nat, k ≤ xs.length ∧ i = .int .i64 k ∧ wr = w.drewN n ∧ Hid (xs.take k = ys.take k)) (fun i _ => xs.length - (intOf i).toNat)
    case atStart => exact ⟨0, 0, Nat.zero_le _, rfl, rfl, Lib.hid (by simp)⟩
    case round =>
      obtain ⟨k, n, hk, rfl, rfl, HT⟩ := hrel
      by_cases hlt : k < xs.length
      · have hlt' : k < ys.length := by rw [← HL.out]; exact hlt
        obtain ⟨b1, o1, rfl, hc1⟩ := ha.at_ hlt
        obtain ⟨b2, o2, rfl, hc2⟩ := hb.at_ hlt'
        by_cases he : nth xs k = nth ys k
        · have hbe : (nth xs k != nth ys k) = false := by simp [he]
          have HE := Lib.hid he
          clear he
          go_wp2
          go_quiet (fail)
          go_wp2
          go_roundw
          case rel => exact ⟨k + 1, _, by omega, by go_num, rfl, Lib.hid (take_eq_snoc hlt HL.out HT.out HE.out)⟩
          case measure => simp [intOf]; omega
        · have hbe : (nth xs k != nth ys k) = true := by simp [he]
          have HE := Lib.hid he
          clear he
          go_wp2
          go_quiet (fail)
          go_wp2
          go_ret
          exact ⟨ret_bool (by simp [ne_of_at HE.out]), _, drewN_drewN _ _ _⟩
      · obtain rfl : k = xs.length := by omega
        go_wp2
        go_ret
        exact ⟨ret_bool (by simp [take_all_eq HL.out HT.out]), _, rfl⟩
  · have ht : ((xs.length : Int) != (ys.length : Int)) = true := by simp; omega
    have HL := Lib.hid hl
    clear hl
    go_enter Tryd.func73, Tryd.ntmps73
    go_wp2
    go_ret
    exact ⟨ret_bool (by rw [decide_eq_false]; rintro rfl; exact HL.out rfl), 0, rfl⟩
end Go.Proofs.YtlahobdopmdfmaaDoor

/- ToI -/
namespace Go.Proofs.YtlahobdopmdfmaaDoor
open Go.RowKit

theorem info_int64 : (Tryd.prog.info? 2).map (fun i => (i.zero, i.size, i.bytes)) = some (some (.int .i64 0), 1, 8) := by kernel_rfl

/-- What has been copied when k rounds are over. -/
def cop (zs : List Int) (k : Nat) : List Int := zs.take k ++ List.replicate (zs.length - k) 0
theorem cop_len {zs : List Int} {k : Nat} (h : k ≤ zs.length) : (cop zs k).length = zs.length := by simp [cop, Nat.min_eq_left h]; omega
theorem cop_set {zs : List Int} {k : Nat} (h : k < zs.length) : (cop zs k).set k (nth zs k) = cop zs (k + 1) := by
  unfold cop
  rw [List.set_append_right _ _ (by simp; omega), nth_get h]
  have : zs.length - k = (zs.length - (k + 1)) + 1 := by omega
  rw [this, List.replicate_succ, List.take_succ_eq_append_getElem h, List.length_take, Nat.min_eq_left (Nat.le_of_lt h), Nat.sub_self, List.set_cons_zero, List.append_assoc, List.singleton_append]
theorem cop_all (zs : List Int) : cop zs zs.length = zs := by simp [cop]

set_option maxHeartbeats 400000 in
theorem toInt64S_any (a : Option Addr) (c : Nat) (zs : List Int) (w : World) (ha : Rd w a zs) :
    Calls Tryd.prog 72 #[.slice a zs.length c] w fun e w' => ∃ A C, e = .returned (.slice A zs.length C) ∧
      Own 2 w' w.heap.size w'.heap.size (.slice A zs.length C) zs ∧ Below w.heap.size w w' := by
  have hx1 := ha.len
  obtain ⟨i0, hi, hz0, hz1, hz2⟩ := info_parts info_int64
  go_enter Tryd.func72, Tryd.ntmps72
  go_wp2_with (at_make; refine wpList_make_full _ rfl _ _ _ rfl w.heap.size 2 i0 (.int .i64 0) 1 Tryd.underlying24 hi hz0 hz1 _ _ _ _ zs.length rfl rfl rfl rfl ?_ ?_ (Nat.le_refl _) ?_)
  · rw [hz2]; omega
  · unfold maxLen; omega
  · intro w1 hown1 hg1
    go_wp2
    go_loopw [4] (fun i wr => ∃ k : Nat, k ≤ zs.length ∧ i = .int .i64 k ∧ wr.ownsRow w.heap.size 2 1 (.slice (some ⟨w.heap.size, 0, none⟩) zs.length zs.length) zs.length ((cop zs k).map (Value.int .i64)) ∧ Below w.heap.size w wr) (fun i _ => zs.length - (intOf i).toNat)
    case atStart => exact ⟨0, Nat.zero_le _, rfl, by simpa [cop, toList_madeCells_one, Value.cells] using hown1, (Below.refl _ _).grown hg1 (Nat.le_refl _) (by simp)⟩
    case round =>
      obtain ⟨k, hk, rfl, hown, hbel⟩ := hrel
      by_cases hlt : k < zs.length
      · obtain ⟨b, off, rfl, hc0⟩ := ha.at_ hlt
        have hc1 := (hbel.cell (p := ⟨b, off + k, none⟩) (World.block_lt_of_cell? _ _ hc0)).trans hc0
        have hcell : wr.cell? ⟨w.heap.size, k, none⟩ = some (.int .i64 (nth (cop zs k) k)) := by
          rw [hown.cellAt k (by omega), List.getElem?_map, List.getElem?_eq_getElem (by rw [cop_len hk]; exact hlt), nth_get (by rw [cop_len hk]; exact hlt)]; rfl
        have hfr := hown.frozenAt k
        have hst := hown.stored k (.int .i64 (nth zs k))
        rw [← List.map_set, cop_set hlt] at hst
        have HST := Lib.hid hst
        clear hst hc0 hown1 hg1
        go_wp2
        go_roundw
        case rel => exact ⟨k + 1, by omega, by go_num, HST.out.1, hbel.setCell (by simp) _⟩
        case measure => simp [intOf]; omega
      · obtain rfl : k = zs.length := by omega
        rw [cop_all] at hown
        go_wp2
        go_ret
        exact ⟨_, _, rfl, ⟨hown, fun k hk => (hown.lt k hk).2, hx1⟩, hbel⟩
end Go.Proofs.YtlahobdopmdfmaaDoor

/- ToReg -/
namespace Go.Proofs.YtlahobdopmdfmaaDoor
open Go.RowKit

set_option maxHeartbeats 400000 in
theorem toRegister_any (B : Int) (a : Option Addr) (c : Nat) (zs : List Int) (w : World) (ha : Rd w a zs) :
    Calls Tryd.prog 82 #[.agg #[.int .i64 B, .slice a zs.length c]] w fun e w' => ∃ A C, e = .returned (.agg #[.int .i64 B, .slice A zs.length C]) ∧
      Own 2 w' w.heap.size w'.heap.size (.slice A zs.length C) zs ∧ Below w.heap.size w w' := by
  go_enter Tryd.func82, Tryd.ntmps82
  go_wp2_with fail
  refine (toInt64S_any a c zs _ ?_).mono ?_
  · exact ha.below ((((Below.refl _ _).alloc (Nat.le_refl _) _).alloc (by simp) _).alloc (by simp; omega) _)
  rintro e w1 ⟨A, C, rfl, hown, hb⟩
  obtain ⟨hc, hf⟩ := bcell hb
  have hz : w.heap.size + 2 < w1.heap.size := by have := hb.size; simp at this; omega
  go_wp2
  exact bodyPost_ret (v := .agg #[.int .i64 B, .slice A zs.length C]) (by simp [results, Tryd.results82, go_sem, hc]) rfl
    ⟨A, C, rfl, (((hown.setCell (p := ⟨w.heap.size + 2, 1, none⟩) (.inl (by simp)) _).setCell (p := ⟨w.heap.size + 1, 0, none⟩) (.inl (by simp)) _).setCell (p := ⟨w.heap.size + 1, 1, none⟩) (.inl (by simp)) _).wide (by simp <;> omega) (by simp),
      (((((((Below.refl _ _).alloc (Nat.le_refl _) _).alloc (by simp) _).alloc (by simp <;> omega) _).trans (hb.mono (by simp <;> omega))).setCell (by simp <;> omega) _).setCell (by simp) _).setCell (by simp) _⟩
end Go.Proofs.YtlahobdopmdfmaaDoor

/- Left -/
namespace Go.Proofs.YtlahobdopmdfmaaDoor

/-- What is left of a bound behind a slice of this length; less than 0 (-1) if it is passed. -/
def leftOf (n : Nat) (left : Int) : Int := if left - (n : Int) < 0 then -1 else left - (n : Int)
theorem leftOf_le (n : Nat) (left : Int) (h : 0 ≤ left) : leftOf n left ≤ left := by unfold leftOf; split <;> omega
theorem leftOf_len {n : Nat} {left : Int} (h : 0 ≤ leftOf n left) : (n : Int) ≤ left := by unfold leftOf at h; split at h <;> omega
end Go.Proofs.YtlahobdopmdfmaaDoor

/- MarkI -/
namespace Go.Proofs.YtlahobdopmdfmaaDoor
open Go.RowKit

set_option maxHeartbeats 400000 in
theorem szInt64S_any (a : Option Addr) (n c : Nat) (left : Int) (w : World) (hn : n ≤ 9223372036854775807) (hl : 0 ≤ left) (hl' : left ≤ 1048576) :
    Calls Tryd.prog 148 #[.slice a n c, .int .i64 left] w fun e w' => e = .returned (.int .i64 (leftOf n left)) ∧ w = w' := by
  by_cases h : left - (n : Int) < 0
  · go_enter Tryd.func148, Tryd.ntmps148
    go_wp2
    go_ret
    exact ⟨ret_int (by rw [leftOf, if_pos h]), rfl⟩
  · go_enter Tryd.func148, Tryd.ntmps148
    go_wp2
    go_ret
    exact ⟨ret_int (by rw [leftOf, if_neg (by omega)]), rfl⟩

set_option maxHeartbeats 400000 in
theorem markInt64S_any (t : TypeId) (lo hi : Nat) (A : Option Addr) (C : Nat) (k : Int) (zs : List Int) (w : World) (ho : Own t w lo hi (.slice A zs.length C) zs) (h0 : 0 ≤ k) (h1 : k ≤ 1000000000000) :
    Calls Tryd.prog 74 #[.slice A zs.length C, .int .i64 k] w fun e w' => e = .returned (.int .i64 (k + zs.length)) ∧
      Own t w' lo hi (.slice A zs.length C) (seqI k zs.length) ∧ Touch lo hi w w' := by
  have hx1 := ho.len
  go_enter Tryd.func74, Tryd.ntmps74
  go_wp2
  go_loopw [1, 5] (fun q i wr => ∃ j : Nat, j ≤ zs.length ∧ i = .int .i64 j ∧ q = .int .i64 (k + (j : Int)) ∧ wr.ownsRow lo t 1 (.slice A zs.length C) zs.length ((mrk zs k j).map (Value.int .i64)) ∧ Touch lo hi w wr) (fun _ i _ => zs.length - (intOf i).toNat)
  case atStart => exact ⟨0, Nat.zero_le _, rfl, by go_num, by rw [mrk_zero]; exact ho.row, Touch.refl _ _ _⟩
  case round =>
    obtain ⟨j, hj, rfl, rfl, hown, htou⟩ := hrel
    by_cases hlt : j < zs.length
    · rcases hown.2 with ⟨_, hn⟩ | ⟨g, cap, cur, hv, hg, _⟩
      · exact absurd hn (by omega)
      · have hA : A = some ⟨g, 0, none⟩ := by injection hv
        subst hA
        have hgh : g < hi := ho.top g rfl
        have hcell : wr.cell? ⟨g, j, none⟩ = some (.int .i64 (nth (mrk zs k j) j)) := by
          rw [hown.cellAt j (by omega), List.getElem?_map, List.getElem?_eq_getElem (by rw [mrk_len hj]; exact hlt), nth_get (by rw [mrk_len hj]; exact hlt)]; rfl
        have hfr := hown.frozenAt j
        have hst := hown.stored j (.int .i64 (k + (j : Int)))
        rw [← List.map_set, mrk_set hlt] at hst
        have HST := Lib.hid hst
        clear hst hv
        go_wp2
        go_roundw
        case rel => exact ⟨j + 1, by omega, by go_num, by go_num, HST.out.1, htou.setCell hg hgh _⟩
        case measure => simp [intOf]; omega
    · obtain rfl : j = zs.length := by omega
      rw [mrk_all] at hown
      go_wp2
      go_ret
      exact ⟨rfl, ⟨by rw [seqI_len]; exact hown, ho.top, by rw [seqI_len]; exact hx1⟩, htou⟩

set_option maxHeartbeats 400000 in
theorem heldInt64S_any (A : Option Addr) (C : Nat) (k : Int) (n : Nat) (w : World) (ha : Rd w A (seqI k n)) (h0 : 0 ≤ k) (h1 : k ≤ 1000000000000) :
    Calls Tryd.prog 149 #[.slice A n C, .int .i64 k] w fun e w' => e = .returned (.int .i64 (k + n)) ∧ w = w' := by
  have hx := ha.len
  rw [seqI_len] at hx
  go_enter Tryd.func149, Tryd.ntmps149
  go_wp2
  go_loop [1, 5] (fun q i => ∃ j : Nat, j ≤ n ∧ i = .int .i64 j ∧ q = .int .i64 (k + (j : Int))) (fun _ i => n - (intOf i).toNat)
  case atStart => exact ⟨0, Nat.zero_le _, rfl, by go_num⟩
  case round =>
    obtain ⟨j, hj, rfl, rfl⟩ := hrel
    by_cases hlt : j < n
    · obtain ⟨b, off, rfl, hc⟩ := ha.at_ (k := j) (by rw [seqI_len]; exact hlt)
      rw [seqI_at hlt] at hc
      have hbe : (k + (j : Int) != k + (j : Int)) = false := by simp
      go_wp2
      go_round
      case rel => exact ⟨j + 1, by omega, by go_num, by go_num⟩
      case measure => simp [intOf]; omega
    · obtain rfl : j = n := by omega
      go_wp2
      go_ret
      exact ⟨rfl, rfl⟩
end Go.Proofs.YtlahobdopmdfmaaDoor

/- Reg -/
namespace Go.Proofs.YtlahobdopmdfmaaDoor
open Go.RowKit

set_option maxHeartbeats 400000 in
theorem szRegister_any (B : Int) (a : Option Addr) (n c : Nat) (left : Int) (w : World) (hn : n ≤ 9223372036854775807) (hl : 0 ≤ left) (hl' : left ≤ 1048576) :
    Calls Tryd.prog 81 #[.agg #[.int .i64 B, .slice a n c], .int .i64 left] w fun e w' => e = .returned (.int .i64 (leftOf n left)) ∧ Below w.heap.size w w' := by
  by_cases h : leftOf n left < 0
  · go_enter Tryd.func81, Tryd.ntmps81
    go_wp2_with fail
    refine (szInt64S_any a n c left _ hn hl hl').mono ?_
    rintro e w1 ⟨rfl, rfl⟩
    go_wp2
    go_ret
    exact ⟨ret_int (by unfold leftOf at h ⊢; split at h <;> simp_all), (Below.refl _ _).alloc (Nat.le_refl _) _⟩
  · go_enter Tryd.func81, Tryd.ntmps81
    go_wp2_with fail
    refine (szInt64S_any a n c left _ hn hl hl').mono ?_
    rintro e w1 ⟨rfl, rfl⟩
    go_wp2
    go_ret
    exact ⟨rfl, (Below.refl _ _).alloc (Nat.le_refl _) _⟩

set_option maxHeartbeats 400000 in
theorem eqRegister_any (B D : Int) (a b : Option Addr) (c d : Nat) (xs ys : List Int) (w : World) (ha : Rd w a xs) (hb : Rd w b ys) :
    Calls Tryd.prog 83 #[.agg #[.int .i64 B, .slice a xs.length c], .agg #[.int .i64 D, .slice b ys.length d]] w fun e w' =>
      e = .returned (.bool (regEqB B D xs ys)) ∧ Below w.heap.size w w' := by
  by_cases h : B = D
  · have hbe : (B != D) = false := by simp [h]
    have H := Lib.hid h
    clear h
    have hbel : Below w.heap.size w ((w.alloc (.cells #[.int .i64 B, .slice a xs.length c] 26)).alloc (.cells #[.int .i64 D, .slice b ys.length d] 26)) :=
      ((Below.refl _ _).alloc (Nat.le_refl _) _).alloc (by simp) _
    go_enter Tryd.func83, Tryd.ntmps83
    go_wp2_with fail
    refine (eqInt64S_any a b c d xs ys _ (ha.below hbel) (hb.below hbel)).mono ?_
    rintro e w1 ⟨rfl, n, rfl⟩
    by_cases he : xs = ys
    · have hd : decide (xs = ys) = true := by simp [he]
      have HE := Lib.hid he
      clear he
      go_wp2
      go_ret
      exact ⟨ret_bool (by simp [regEqB, H.out, HE.out]), bel_drewN hbel _⟩
    · have hd : decide (xs = ys) = false := by simp [he]
      have HE := Lib.hid he
      clear he
      go_wp2
      go_ret
      exact ⟨ret_bool (by simp [regEqB, HE.out]), bel_drewN hbel _⟩
  · have hbe : (B != D) = true := by simp [h]
    have H := Lib.hid h
    clear h
    go_enter Tryd.func83, Tryd.ntmps83
    go_wp2
    go_ret
    exact ⟨ret_bool (by simp [regEqB, H.out]), ((Below.refl _ _).alloc (Nat.le_refl _) _).alloc (by simp) _⟩

set_option maxHeartbeats 400000 in
theorem markRegister_any (t : TypeId) (lo hi : Nat) (B : Int) (A : Option Addr) (C : Nat) (k : Int) (zs : List Int) (w : World) (ho : Own t w lo hi (.slice A zs.length C) zs) (h0 : 0 ≤ k) (h1 : k ≤ 1000000000000) :
    Calls Tryd.prog 84 #[.agg #[.int .i64 B, .slice A zs.length C], .int .i64 k] w fun e w' => e = .returned (.int .i64 (k + zs.length)) ∧
      Own t w' lo hi (.slice A zs.length C) (seqI k zs.length) ∧ Touch lo hi w w' := by
  go_enter Tryd.func84, Tryd.ntmps84
  go_wp2_with fail
  refine (markInt64S_any t lo hi A C k zs _ (ho.alloc _) h0 h1).mono ?_
  rintro e w1 ⟨rfl, ho1, ht1⟩
  go_wp2
  go_ret
  exact ⟨rfl, ho1, ((Touch.refl _ _ _).alloc _).trans ht1⟩

set_option maxHeartbeats 400000 in
theorem heldRegister_any (B : Int) (A : Option Addr) (C : Nat) (k : Int) (n : Nat) (w : World) (ha : Rd w A (seqI k n)) (h0 : 0 ≤ k) (h1 : k ≤ 1000000000000) :
    Calls Tryd.prog 85 #[.agg #[.int .i64 B, .slice A n C], .int .i64 k] w fun e w' => e = .returned (.int .i64 (k + n)) ∧ Below w.heap.size w w' := by
  have hbel : Below w.heap.size w (w.alloc (.cells #[.int .i64 B, .slice A n C] 26)) := (Below.refl _ _).alloc (Nat.le_refl _) _
  go_enter Tryd.func85, Tryd.ntmps85
  go_wp2_with fail
  refine (heldInt64S_any A C k n _ (ha.below hbel) h0 h1).mono ?_
  rintro e w1 ⟨rfl, rfl⟩
  go_wp2
  go_ret
  exact ⟨rfl, hbel⟩
end Go.Proofs.YtlahobdopmdfmaaDoor

/- Box -/
namespace Go.Proofs.YtlahobdopmdfmaaDoor
open Go.RowKit

/-- s leads to a box that holds the register; what it owns lies elsewhere. -/
def BoxReg (W : World) (b : Int) (zs : List Int) (s : Value) (wx : World) : Prop := ∃ g A C lo hi, s = .pointer (some ⟨g, 0, none⟩) ∧
  wx.cell? ⟨g, 0, none⟩ = some (.int .i64 b) ∧ wx.cell? ⟨g, 1, none⟩ = some (.slice A zs.length C) ∧ Own 2 wx lo hi (.slice A zs.length C) zs ∧
  Hid (g < lo ∨ hi ≤ g) ∧ Hid (W.heap.size ≤ lo) ∧ Hid (W.heap.size ≤ g) ∧ Hid (g < wx.heap.size) ∧ Hid (hi ≤ wx.heap.size) ∧ Below W.heap.size W wx
theorem boxReg_after {W u v : World} {b : Int} {zs : List Int} {A : Option Addr} {C : Nat} {t : TypeId} (hk : Below W.heap.size W u) (hb : Below u.heap.size u v) (ow : Own 2 v u.heap.size v.heap.size (.slice A zs.length C) zs) :
    BoxReg W b zs (.pointer (some ⟨v.heap.size, 0, none⟩)) (v.alloc (.cells #[.int .i64 b, .slice A zs.length C] t)) := by
  have h1 := hk.size
  have h2 := hb.size
  refine ⟨_, A, C, _, _, rfl, ?_, ?_, ow.alloc _, Lib.hid (.inr (Nat.le_refl _)), Lib.hid h1, Lib.hid (by omega), Lib.hid (by simp), Lib.hid (by simp), (hk.trans (hb.mono h1)).alloc (by omega) _⟩
  · exact (Bx.new v #[.int .i64 b, .slice A zs.length C] t).at_ 0 rfl
  · exact (Bx.new v #[.int .i64 b, .slice A zs.length C] t).at_ 1 rfl
theorem boxReg_before {W u v : World} {b : Int} {zs : List Int} {A : Option Addr} {C g : Nat} {t : TypeId} {c0 c1 : Value} (hk : Below W.heap.size W u) (hb : Below u.heap.size u v)
    (ow : Own 2 v u.heap.size v.heap.size (.slice A zs.length C) zs) (bz : Bx v g t #[c0, c1]) (h1 : Hid (W.heap.size ≤ g)) (h2 : Hid (g < u.heap.size)) :
    BoxReg W b zs (.pointer (some ⟨g, 0, none⟩)) ((v.setCell ⟨g, 0, none⟩ (.int .i64 b)).setCell ⟨g, 1, none⟩ (.slice A zs.length C)) := by
  have h3 := hk.size
  have h4 := hb.size
  have h5 := h1.out
  have h6 := h2.out
  replace bz := ((bz.set_ 0 (.int .i64 b)).set_ 1 (.slice A zs.length C))
  refine ⟨_, A, C, _, _, rfl, bz.at_ 0 rfl, bz.at_ 1 rfl, (ow.setCell (.inl h6) _).setCell (.inl h6) _, Lib.hid (.inl h6), Lib.hid h3, Lib.hid h5, Lib.hid (by simp; omega), Lib.hid (by simp), ?_⟩
  exact ((hk.trans (hb.mono h3)).setCell h5 _).setCell h5 _
end Go.Proofs.YtlahobdopmdfmaaDoor

/- FrameI -/
namespace Go.Proofs.YtlahobdopmdfmaaDoor
open Go.ChangeShapes Go.WideShapes Go.ChangeAt Go.RowKit Go.Joins
open Go.ChangeMaps (open_string shut_string)

theorem cells_int64 : Tryd.prog.cellsOf 2 = 1 := by kernel_rfl

section
variable {H : Type} {enc : TypeId × Value → H} {W : World} {base : Nat} {v : Value} {d : DataW H} {p : List MemPlace}

theorem raw_of_trod {fuel : Nat} {v : Value} {y : DataW H × List MemPlace} (hf : DataW.trod enc Tryd.prog W 0 (fun _ => true) true fuel 24 [v] = some y) :
    ∃ A C Z, v = .slice A (List.length Z) C ∧ Raw W A Z := by
  rcases open_ints Tryd.underlying24 Tryd.underlying2 cells_int64 hf with ⟨hcs, _⟩ | ⟨a, l, c, zs, hcs, _, hl, hm, hz, _, hcell, hwz⟩
  · simp at hcs
    subst hcs
    exact ⟨none, 0, [], rfl, by simp, by intro z hz; simp at hz, fun h => absurd rfl h⟩
  · simp at hcs
    subst hcs
    simp at hz
    have hlen : (zs.take l).length = l := by rw [List.length_take]; omega
    refine ⟨some a, c, zs.take l, by rw [hlen], by rw [hlen]; unfold maxLen at hm; omega, fun z hz' => hwz z (List.mem_of_mem_take hz'), fun hne => ?_⟩
    have hpos : 0 < l := by
      rcases Nat.eq_zero_or_pos l with h | h
      · subst h; simp at hne
      · exact h
    have hc0 := hcell 0 (by omega)
    obtain ⟨b, off, spot⟩ := a
    have hspot : spot = none := by simpa [Addr.add] using World.cell?_spot hc0
    subst hspot
    refine ⟨b, off, rfl, fun i hi => ?_⟩
    rw [hlen] at hi
    have h := hcell i (by omega)
    have e : nth (zs.take l) i = zs.getD i 0 := by
      rw [nth_get (by rw [hlen]; exact hi)]
      simp [List.getElem_take, List.getD_eq_getElem?_getD, List.getElem?_eq_getElem (show i < zs.length by omega)]
    rw [e, ← h]
    by_cases h0 : i = 0
    · subst h0; rfl
    · simp [Addr.add, h0]

set_option maxRecDepth 100000 in
theorem open_Int64S (hval : Value.okWide Tryd.prog W .any base 24 v) (h : DataW.Trod enc Tryd.prog W 0 (fun _ => true) true 24 v d p) :
    ∃ A C Z, v = .slice A (List.length Z) C ∧ Raw W A Z := by
  obtain ⟨a0, len, cap, rfl⟩ := okWide_slice Tryd.underlying24 hval
  obtain ⟨fuel, hf⟩ := h
  exact raw_of_trod (by simpa [Value.cells] using hf)
end
end Go.Proofs.YtlahobdopmdfmaaDoor

/- Frame -/
namespace Go.Proofs.YtlahobdopmdfmaaDoor
open Go.ChangeShapes Go.WideShapes Go.ChangeAt Go.RowKit Go.Joins
open Go.ChangeMaps (open_string shut_string)

section
variable {H : Type} {enc : TypeId × Value → H} {W : World} {base : Nat} {v : Value} {d : DataW H} {p : List MemPlace}

theorem cells_Register : Tryd.prog.cellsOf 70 = 2 := by kernel_rfl
set_option maxRecDepth 100000 in
theorem open_Register (hval : Value.okWide Tryd.prog W .any base 70 v) (h : DataW.Trod enc Tryd.prog W 0 (fun _ => true) true 70 v d p) :
    ∃ B A C Z, v = .agg #[.int .i64 B, .slice A (List.length Z) C] ∧ Raw W A Z ∧ I64 B := by
  obtain ⟨c0, c1, y0, y1, m, rfl, rfl, rfl, hy0, hy1⟩ := open_agg2 Tryd.underlying70 (by kernel_rfl) cells_Register hval h
  obtain ⟨B, e0, rfl, wB⟩ := DataW.trod_int Tryd.underlying2 hy0
  obtain ⟨A, C, Z, rfl, hr⟩ := raw_of_trod hy1
  simp at e0
  subst e0
  exact ⟨B, A, C, Z, rfl, hr, wB⟩
end
end Go.Proofs.YtlahobdopmdfmaaDoor

/- InS -/
namespace Go.Proofs.YtlahobdopmdfmaaDoor
open Go.RowKit

theorem ret_two {R : Int × Int} {x y : Int} (h : R = (x, y)) : Ending.returned (.tuple #[.int .i64 x, .int .i64 y]) = .returned (.tuple #[.int .i64 R.1, .int .i64 R.2]) := by subst h; rfl
theorem i64_of {z : Int} (h1 : -1000000000000000000 ≤ z) (h2 : z ≤ 1000000000000000000) : I64 z := by
  have e1 : IntKind.i64.min = -9223372036854775808 := by decide
  have e2 : IntKind.i64.max = 9223372036854775807 := by decide
  simp [I64, Lit.wf, e1, e2]
  omega
/-- Is n from lo to hi? (a word that the walk does not open) -/
def inB (n lo hi : Int) : Bool := decide (lo ≤ n ∧ n ≤ hi)
theorem inB_true {n lo hi : Int} (h : inB n lo hi = true) : lo ≤ n ∧ n ≤ hi := by simpa [inB] using h
theorem inB_false {n lo hi : Int} (h : inB n lo hi = false) : n < lo ∨ hi < n := by simp [inB] at h; omega
theorem inB_yes {n lo hi : Int} (h1 : lo ≤ n) (h2 : n ≤ hi) : inB n lo hi = true := by simp [inB, h1, h2]
theorem inB_no {n lo hi : Int} (h : n < lo ∨ hi < n) : inB n lo hi = false := by simp [inB]; omega

theorem l00In_true (n lo hi : Int) (w : World) (h1 : lo ≤ n) (h2 : n ≤ hi) : Calls Tryd.prog 118 #[.int .i64 n, .int .i64 lo, .int .i64 hi] w fun e w' => e = .returned (.bool true) ∧ w' = w := by
  have d1 : decide (lo ≤ n) = true := decide_eq_true h1
  have d2 : decide (n ≤ hi) = true := decide_eq_true h2
  go_enter Tryd.func118, Tryd.ntmps118
  go_wp2
  go_ret
  exact ⟨rfl, rfl⟩
theorem l00In_false (n lo hi : Int) (w : World) (h : n < lo ∨ hi < n) : Calls Tryd.prog 118 #[.int .i64 n, .int .i64 lo, .int .i64 hi] w fun e w' => e = .returned (.bool false) ∧ w' = w := by
  by_cases h1 : lo ≤ n
  · have d1 : decide (lo ≤ n) = true := decide_eq_true h1
    have d2 : decide (n ≤ hi) = false := decide_eq_false (by omega)
    go_enter Tryd.func118, Tryd.ntmps118
    go_wp2
    go_ret
    exact ⟨rfl, rfl⟩
  · have d1 : decide (lo ≤ n) = false := decide_eq_false h1
    go_enter Tryd.func118, Tryd.ntmps118
    go_wp2
    go_ret
    exact ⟨rfl, rfl⟩
theorem l00In_any (n lo hi : Int) (w : World) : Calls Tryd.prog 118 #[.int .i64 n, .int .i64 lo, .int .i64 hi] w fun e w' => e = .returned (.bool (inB n lo hi)) ∧ w' = w := by
  cases h : inB n lo hi with
  | true => exact l00In_true n lo hi w (inB_true h).1 (inB_true h).2
  | false => exact l00In_false n lo hi w (inB_false h)
theorem l00Min_any (a b : Int) (w : World) : Calls Tryd.prog 158 #[.int .i64 a, .int .i64 b] w fun e w' => e = .returned (.int .i64 (min a b)) ∧ w' = w := by
  by_cases h : a < b
  · have H := Lib.hid (show min a b = a by omega)
    go_enter Tryd.func158, Tryd.ntmps158
    go_wp2
    go_ret
    exact ⟨ret_int H.out.symm, rfl⟩
  · have H := Lib.hid (show min a b = b by omega)
    go_enter Tryd.func158, Tryd.ntmps158
    go_wp2
    go_ret
    exact ⟨ret_int H.out.symm, rfl⟩
end Go.Proofs.YtlahobdopmdfmaaDoor

/- Digs -/
namespace Go.Proofs.YtlahobdopmdfmaaDoor

/-- The n lowest digits of v in base b, the lowest one first. -/
def digsR (b : Int) : Nat → Int → List Int
  | 0, _ => []
  | n + 1, v => (v % b) :: digsR b n (v / b)
/-- What is left of v behind them. -/
def leftR (b : Int) : Nat → Int → Int
  | 0, v => v
  | n + 1, v => leftR b n (v / b)

theorem digsR_succ (b : Int) : ∀ (n : Nat) (v : Int), digsR b (n + 1) v = digsR b n v ++ [leftR b n v % b]
  | 0, v => rfl
  | n + 1, v => by rw [digsR, digsR_succ b n (v / b), digsR, leftR]; rfl
theorem leftR_succ (b : Int) : ∀ (n : Nat) (v : Int), leftR b (n + 1) v = leftR b n v / b
  | 0, v => rfl
  | n + 1, v => by rw [leftR, leftR_succ b n (v / b), leftR]
theorem digsR_len (b : Int) : ∀ (n : Nat) (v : Int), (digsR b n v).length = n
  | 0, _ => rfl
  | n + 1, v => by rw [digsR, List.length_cons, digsR_len b n]
theorem leftR_bd {b : Int} (hb : 1 ≤ b) {m : Int} : ∀ (n : Nat) (v : Int), 0 ≤ v → v ≤ m → 0 ≤ leftR b n v ∧ leftR b n v ≤ m
  | 0, v, h0, h1 => ⟨h0, h1⟩
  | n + 1, v, h0, h1 => leftR_bd hb n (v / b) (Int.ediv_nonneg h0 (by omega)) (Int.le_trans (Int.ediv_le_self b h0) h1)
theorem digsR_bd {b : Int} (hb : 1 ≤ b) : ∀ (n : Nat) (v : Int), ∀ d ∈ digsR b n v, 0 ≤ d ∧ d < b
  | 0, _, d, hd => by simp [digsR] at hd
  | n + 1, v, d, hd => by
    rw [digsR, List.mem_cons] at hd
    rcases hd with rfl | hd
    · exact ⟨Int.emod_nonneg _ (by omega), Int.emod_lt_of_pos _ (by omega)⟩
    · exact digsR_bd hb n _ d hd

/-- NewRegister: base, digits, code. -/
def nrR (b n v : Int) : Int × List Int × Int :=
  if 2 ≤ b ∧ b ≤ 16 ∧ 1 ≤ n ∧ n ≤ 16 ∧ 0 ≤ v ∧ v ≤ 1000000000000 then (if 0 < leftR b n.toNat v then (0, [], 5) else (b, digsR b n.toNat v, 0)) else (0, [], 2)
theorem nrR_bad {b n v : Int} (h : ¬ (2 ≤ b ∧ b ≤ 16 ∧ 1 ≤ n ∧ n ≤ 16 ∧ 0 ≤ v ∧ v ≤ 1000000000000)) : nrR b n v = (0, [], 2) := by rw [nrR, if_neg h]
theorem nrR_full {b v : Int} {n : Nat} (h : 2 ≤ b ∧ b ≤ 16 ∧ 1 ≤ n ∧ n ≤ 16 ∧ 0 ≤ v ∧ v ≤ 1000000000000) (hl : 0 < leftR b n v) : nrR b n v = (0, [], 5) := by
  rw [nrR, if_pos (by omega), Int.toNat_natCast, if_pos hl]
theorem nrR_ok {b v : Int} {n : Nat} (h : 2 ≤ b ∧ b ≤ 16 ∧ 1 ≤ n ∧ n ≤ 16 ∧ 0 ≤ v ∧ v ≤ 1000000000000) (hl : ¬ 0 < leftR b n v) : nrR b n v = (b, digsR b n v, 0) := by
  rw [nrR, if_pos (by omega), Int.toNat_natCast, if_neg hl]
end Go.Proofs.YtlahobdopmdfmaaDoor

/- Val -/
namespace Go.Proofs.YtlahobdopmdfmaaDoor

/-- The value of digits, the lowest one first. -/
def valR (b : Int) : List Int → Int
  | [] => 0
  | d :: ds => d + b * valR b ds
/-- The value; 10^12 + 1 where it is greater than 10^12. -/
def capV (b : Int) : List Int → Int
  | [] => 0
  | d :: ds => if 1000000000001 < capV b ds * b + d then 1000000000001 else capV b ds * b + d
def baseB (b : Int) : Bool := decide (2 ≤ b ∧ b ≤ 16)
/-- All digits are digits of the base. -/
def digitsB (b : Int) (zs : List Int) : Bool := decide (∀ d ∈ zs, 0 ≤ d ∧ d < b)
def widthB (n : Nat) : Bool := decide (1 ≤ n ∧ n ≤ 16)
/-- A register is valid. -/
def okB (b : Int) (zs : List Int) : Bool := baseB b && widthB zs.length && digitsB b zs && decide (valR b zs ≤ 1000000000000)

theorem baseB_true {b : Int} (h : baseB b = true) : 2 ≤ b ∧ b ≤ 16 := by simpa [baseB] using h
theorem baseB_false {b : Int} (h : baseB b = false) : b < 2 ∨ (2 ≤ b ∧ 16 < b) := by simp [baseB] at h; omega
theorem digitsB_true {b : Int} {zs : List Int} (h : digitsB b zs = true) : ∀ d ∈ zs, 0 ≤ d ∧ d < b := by simpa [digitsB] using h
theorem digitsB_nth {b : Int} {zs : List Int} (h : digitsB b zs = true) {k : Nat} (hk : k < zs.length) : 0 ≤ nth zs k ∧ nth zs k < b := by
  rw [nth_get hk]; exact digitsB_true h _ (List.getElem_mem hk)
theorem widthB_true {n : Nat} (h : widthB n = true) : 1 ≤ n ∧ n ≤ 16 := by simpa [widthB] using h
theorem widthB_false {n : Nat} (h : widthB n = false) : n < 1 ∨ 16 < n := by simp [widthB] at h; omega

theorem valR_nonneg {b : Int} (hb : 0 ≤ b) : ∀ {zs : List Int}, (∀ d ∈ zs, 0 ≤ d ∧ d < b) → 0 ≤ valR b zs
  | [], _ => by simp [valR]
  | d :: ds, h => by
    have h1 := h d (by simp)
    have h2 := valR_nonneg hb (zs := ds) fun x hx => h x (by simp [hx])
    have := Int.mul_nonneg hb h2
    simp only [valR]; omega
theorem capV_val {b : Int} (hb : 2 ≤ b) : ∀ {zs : List Int}, (∀ d ∈ zs, 0 ≤ d ∧ d < b) → capV b zs = if 1000000000001 < valR b zs then 1000000000001 else valR b zs
  | [], _ => by simp [capV, valR]
  | d :: ds, h => by
    have h1 := h d (by simp)
    have hds : ∀ x ∈ ds, 0 ≤ x ∧ x < b := fun x hx => h x (by simp [hx])
    have h2 := valR_nonneg (by omega : 0 ≤ b) hds
    have ih := capV_val hb (zs := ds) hds
    have e1 : capV b (d :: ds) = if 1000000000001 < capV b ds * b + d then 1000000000001 else capV b ds * b + d := rfl
    have e2 : valR b (d :: ds) = d + b * valR b ds := rfl
    rw [e1, e2, ih]
    by_cases hc : 1000000000001 < valR b ds
    · rw [if_pos hc]
      have h3 : 1000000000001 * 2 ≤ 1000000000001 * b := Int.mul_le_mul_of_nonneg_left hb (by omega)
      have h4 : b * 1000000000001 ≤ b * valR b ds := Int.mul_le_mul_of_nonneg_left (by omega) (by omega)
      rw [Int.mul_comm b 1000000000001] at h4
      rw [if_pos (by omega), if_pos (by omega)]
    · rw [if_neg hc, Int.mul_comm (valR b ds) b]
      rw [show b * valR b ds + d = d + b * valR b ds by omega]
theorem capV_bd {b : Int} (hb : 2 ≤ b) {zs : List Int} (h : ∀ d ∈ zs, 0 ≤ d ∧ d < b) : 0 ≤ capV b zs ∧ capV b zs ≤ 1000000000001 := by
  rw [capV_val hb h]
  have := valR_nonneg (by omega : 0 ≤ b) h
  split <;> omega
theorem capV_le {b : Int} (hb : 2 ≤ b) {zs : List Int} (h : ∀ d ∈ zs, 0 ≤ d ∧ d < b) : decide (capV b zs ≤ 1000000000000) = decide (valR b zs ≤ 1000000000000) := by
  rw [capV_val hb h]
  split
  · rw [decide_eq_false (by omega), decide_eq_false (by omega)]
  · rfl
theorem capV_ok {b : Int} (hb : 2 ≤ b) {zs : List Int} (h : ∀ d ∈ zs, 0 ≤ d ∧ d < b) (hv : valR b zs ≤ 1000000000000) : capV b zs = valR b zs := by
  rw [capV_val hb h, if_neg (by omega)]

theorem drop_nth {zs : List Int} {k : Nat} (h : k < zs.length) : zs.drop k = nth zs k :: zs.drop (k + 1) := by
  rw [List.drop_eq_getElem_cons h, nth_get h]
theorem all_drop {zs : List Int} {p : Int → Prop} (h : ∀ d ∈ zs, p d) (k : Nat) : ∀ d ∈ zs.drop k, p d := fun d hd => h d (List.mem_of_mem_drop hd)
theorem all_take_succ {zs : List Int} {p : Int → Prop} {k : Nat} (hk : k < zs.length) (h : ∀ d ∈ zs.take k, p d) (hn : p (nth zs k)) : ∀ d ∈ zs.take (k + 1), p d := by
  intro d hd
  rw [List.take_succ_eq_append_getElem hk, List.mem_append, List.mem_singleton] at hd
  rcases hd with hd | rfl
  · exact h d hd
  · rw [nth_get hk] at hn; exact hn

theorem okB_spec {b : Int} {zs : List Int} (h : okB b zs = true) : 2 ≤ b ∧ b ≤ 16 ∧ 1 ≤ zs.length ∧ zs.length ≤ 16 ∧ (∀ d ∈ zs, 0 ≤ d ∧ d < b) ∧ valR b zs ≤ 1000000000000 := by
  unfold okB at h
  simp only [Bool.and_eq_true, decide_eq_true_eq] at h
  obtain ⟨⟨⟨h1, h2⟩, h3⟩, h4⟩ := h
  exact ⟨(baseB_true h1).1, (baseB_true h1).2, (widthB_true h2).1, (widthB_true h2).2, digitsB_true h3, h4⟩

/-- What the program's own method gives: the value and true, or 0 and false. -/
def valOr (b : Int) (zs : List Int) : Int := if valR b zs ≤ 1000000000000 then valR b zs else 0
def valOk (b : Int) (zs : List Int) : Bool := decide (valR b zs ≤ 1000000000000)
theorem valOr_le {b : Int} {zs : List Int} (h : valR b zs ≤ 1000000000000) : valOr b zs = valR b zs := if_pos h
theorem valOk_le {b : Int} {zs : List Int} (h : valR b zs ≤ 1000000000000) : valOk b zs = true := decide_eq_true h
theorem valOr_gt {b : Int} {zs : List Int} (h : 1000000000000 < valR b zs) : valOr b zs = 0 := if_neg (by omega)
theorem valOk_gt {b : Int} {zs : List Int} (h : 1000000000000 < valR b zs) : valOk b zs = false := decide_eq_false (by omega)
end Go.Proofs.YtlahobdopmdfmaaDoor

/- Ar -/
namespace Go.Proofs.YtlahobdopmdfmaaDoor

/-- The carry into digit k of a sum. -/
def cK (b : Int) (xs ys : List Int) : Nat → Int
  | 0 => 0
  | k + 1 => (nth xs k + nth ys k + cK b xs ys k) / b
def sumD (b : Int) (xs ys : List Int) (k : Nat) : Int := (nth xs k + nth ys k + cK b xs ys k) % b
/-- The borrow into digit k of a difference. -/
def bK (b : Int) (xs ys : List Int) : Nat → Int
  | 0 => 0
  | k + 1 => if nth xs k - nth ys k - bK b xs ys k < 0 then 1 else 0
def subD (b : Int) (xs ys : List Int) (k : Nat) : Int :=
  if nth xs k - nth ys k - bK b xs ys k < 0 then nth xs k - nth ys k - bK b xs ys k + b else nth xs k - nth ys k - bK b xs ys k
def cplD (b : Int) (xs : List Int) (k : Nat) : Int := b - 1 - nth xs k
/-- Digit k of a register whose digits are moved by 'by'. -/
def shD (xs : List Int) (m : Int) (k : Nat) : Int := if 0 ≤ (k : Int) - m ∧ (k : Int) - m ≤ (xs.length : Int) - 1 then nth xs ((k : Int) - m).toNat else 0

theorem cK_bd {b : Int} (hb : 2 ≤ b) {xs ys : List Int} (hx : ∀ k, k < xs.length → 0 ≤ nth xs k ∧ nth xs k < b) (hy : ∀ k, k < xs.length → 0 ≤ nth ys k ∧ nth ys k < b) :
    ∀ k, k ≤ xs.length → 0 ≤ cK b xs ys k ∧ cK b xs ys k ≤ 1
  | 0, _ => by simp [cK]
  | k + 1, hk => by
    have h1 := hx k (by omega)
    have h2 := hy k (by omega)
    have h3 := cK_bd hb hx hy k (by omega)
    have e : cK b xs ys (k + 1) = (nth xs k + nth ys k + cK b xs ys k) / b := rfl
    rw [e]
    refine ⟨Int.ediv_nonneg (by omega) (by omega), ?_⟩
    have : (nth xs k + nth ys k + cK b xs ys k) / b < 2 := Int.ediv_lt_of_lt_mul (by omega) (by omega)
    omega
theorem bK_bd (b : Int) (xs ys : List Int) : ∀ k, 0 ≤ bK b xs ys k ∧ bK b xs ys k ≤ 1
  | 0 => by simp [bK]
  | k + 1 => by simp only [bK]; split <;> omega

/-- The code of two registers that are to be used together. -/
def twoE (b : Int) (xs : List Int) (d : Int) (ys : List Int) : Int :=
  if okB b xs = false ∨ okB d ys = false then 1 else if b = d ∧ xs.length = ys.length then 0 else 6
/-- What becomes of computed digits: base, digits, code. -/
def finR (b : Int) (zs : List Int) : Int × List Int × Int := if okB b zs = true then (b, zs, 0) else (0, [], 5)

def vofR (b : Int) (zs : List Int) : Int × Int := if okB b zs = true then (valR b zs, 0) else (0, 1)
def addR (b : Int) (xs : List Int) (d : Int) (ys : List Int) : Int × List Int × Int × Int :=
  if twoE b xs d ys = 0 then (if okB b (tab (sumD b xs ys) xs.length) = true then (b, tab (sumD b xs ys) xs.length, cK b xs ys xs.length, 0) else (0, [], 0, 5)) else (0, [], 0, twoE b xs d ys)
def subR (b : Int) (xs : List Int) (d : Int) (ys : List Int) : Int × List Int × Int × Int :=
  if twoE b xs d ys = 0 then (if okB b (tab (subD b xs ys) xs.length) = true then (b, tab (subD b xs ys) xs.length, bK b xs ys xs.length, 0) else (0, [], 0, 5)) else (0, [], 0, twoE b xs d ys)
def cplR (b : Int) (xs : List Int) : Int × List Int × Int := if okB b xs = true then finR b (tab (cplD b xs) xs.length) else (0, [], 1)
def carR (b : Int) (xs : List Int) (d : Int) (ys : List Int) : List Int × Int := if twoE b xs d ys = 0 then (tab (cK b xs ys) (xs.length + 1), 0) else ([], twoE b xs d ys)
def shR (b : Int) (xs : List Int) (m : Int) : Int × List Int × Int := if okB b xs = true then (if -16 ≤ m ∧ m ≤ 16 then finR b (tab (shD xs m) xs.length) else (0, [], 2)) else (0, [], 1)
def cmpR (b : Int) (xs : List Int) (d : Int) (ys : List Int) : Int × Int :=
  if twoE b xs d ys = 0 then (if valR b xs < valR d ys then -1 else if valR d ys < valR b xs then 1 else 0, 0) else (0, twoE b xs d ys)

theorem twoE_zero {b d : Int} {xs ys : List Int} (h : twoE b xs d ys = 0) : okB b xs = true ∧ okB d ys = true ∧ b = d ∧ xs.length = ys.length := by
  unfold twoE at h
  split at h
  · cases h
  · rename_i h1
    split at h
    · rename_i h2
      simp only [not_or, Bool.not_eq_false] at h1
      exact ⟨h1.1, h1.2, h2.1, h2.2⟩
    · cases h
theorem digit_of_ok {b : Int} {zs : List Int} (h : okB b zs = true) : ∀ k, k < zs.length → 0 ≤ nth zs k ∧ nth zs k < b := fun k hk => by
  rw [nth_get hk]; exact (okB_spec h).2.2.2.2.1 _ (List.getElem_mem hk)
end Go.Proofs.YtlahobdopmdfmaaDoor

/- AccM -/
namespace Go.Proofs.YtlahobdopmdfmaaDoor
open Go.RowKit

/-- Are there accumulators with a base and a width? -/
def fullB (B n : Int) : Bool := decide (2 ≤ B ∧ B ≤ 16 ∧ 1 ≤ n ∧ n ≤ 16 ∧ B ^ n.toNat - 1 ≤ 1000000000000)
theorem fullB_spec {B n : Int} (h : fullB B n = true) : 2 ≤ B ∧ B ≤ 16 ∧ 1 ≤ n ∧ n ≤ 16 ∧ B ^ n.toNat - 1 ≤ 1000000000000 := by simpa [fullB] using h
/-- How many registers there are. -/
def cntA (B n : Int) : Int := B ^ n.toNat
/-- The power, as far as the model looks. -/
def capW (B : Int) (k : Nat) : Int := min 1000000000002 (B ^ k)
theorem pow_pos' {B : Int} (h : 1 ≤ B) (k : Nat) : 1 ≤ B ^ k := Int.pow_pos (by omega)
theorem pow_succ_le {B : Int} (h : 2 ≤ B) (k : Nat) : 2 * B ^ k ≤ B ^ (k + 1) := by
  rw [Int.pow_succ, Int.mul_comm 2]
  exact Int.mul_le_mul_of_nonneg_left h (by have := pow_pos' (show 1 ≤ B by omega) k; omega)
theorem pow_mono' {B : Int} (h : 2 ≤ B) {j k : Nat} (hjk : j ≤ k) : B ^ j ≤ B ^ k := by
  induction k with
  | zero => obtain rfl : j = 0 := by omega
            exact Int.le_refl _
  | succ k ih =>
    by_cases e : j = k + 1
    · subst e; exact Int.le_refl _
    · have := ih (by omega)
      have h2 := pow_succ_le h k
      have h3 := pow_pos' (show 1 ≤ B by omega) k
      omega
theorem capW_zero (B : Int) : capW B 0 = 1 := by simp [capW]; omega
theorem capW_bd {B : Int} (h : 1 ≤ B) (k : Nat) : 1 ≤ capW B k ∧ capW B k ≤ 1000000000002 := by
  have := pow_pos' h k
  unfold capW; omega
theorem capW_succ {B : Int} (h : 1 ≤ B) (k : Nat) : min 1000000000002 (capW B k * B) = capW B (k + 1) := by
  unfold capW
  rw [Int.pow_succ]
  have hp := pow_pos' h k
  by_cases hc : B ^ k ≤ 1000000000002
  · rw [Int.min_eq_right hc]
  · have h1 : (1000000000002 : Int) * 1 ≤ 1000000000002 * B := Int.mul_le_mul_of_nonneg_left h (by omega)
    have h2 : B ^ k * 1 ≤ B ^ k * B := Int.mul_le_mul_of_nonneg_left h (by omega)
    rw [Int.min_eq_left (show (1000000000002 : Int) ≤ B ^ k by omega), Int.min_eq_left (by omega), Int.min_eq_left (by omega)]
theorem capW_full {B : Int} {k : Nat} (h : B ^ k - 1 ≤ 1000000000000) : capW B k = B ^ k := by unfold capW; omega
theorem capW_test {B : Int} {k : Nat} : (capW B k - 1 ≤ 1000000000000) ↔ (B ^ k - 1 ≤ 1000000000000) := by unfold capW; omega

/-- Is a number one of those of an accumulator? -/
def inA (N x : Int) : Bool := decide (-(N / 2) ≤ x ∧ x ≤ N - 1 + -(N / 2))
/-- The number that is shown for x. -/
def shn (N x : Int) : Int := if N - 1 + -(N / 2) < x % N then x % N - N else x % N
theorem shn_in {N : Int} (hN : 1 ≤ N) (x : Int) : -(N / 2) ≤ shn N x ∧ shn N x ≤ N - 1 + -(N / 2) := by
  have h1 := Int.emod_nonneg x (show N ≠ 0 by omega)
  have h2 := Int.emod_lt_of_pos x (show 0 < N by omega)
  have h3 := Int.emod_nonneg N (show (2 : Int) ≠ 0 by omega)
  unfold shn; split <;> omega
theorem shn_mod {N : Int} (_ : 1 ≤ N) (x : Int) : shn N x % N = x % N := by
  unfold shn; split
  · rw [Int.sub_emod, Int.emod_self, Int.sub_zero, Int.emod_emod_of_dvd _ (Int.dvd_refl _), Int.emod_emod_of_dvd _ (Int.dvd_refl _)]
  · exact Int.emod_emod_of_dvd _ (Int.dvd_refl _)
theorem shn_self {N : Int} (_ : 1 ≤ N) {x : Int} (h : -(N / 2) ≤ x ∧ x ≤ N - 1 + -(N / 2)) : shn N x = x := by
  have h3 := Int.emod_nonneg N (show (2 : Int) ≠ 0 by omega)
  unfold shn
  by_cases hx : 0 ≤ x
  · rw [Int.emod_eq_of_lt hx (by omega), if_neg (by omega)]
  · have e : x % N = x + N := by
      rw [← Int.add_emod_right x N]; exact Int.emod_eq_of_lt (by omega) (by omega)
    rw [e, if_pos (by omega)]; omega
theorem shn_eq {N : Int} (hN : 1 ≤ N) (x : Int) : shn N x = x ↔ inA N x = true := by
  constructor
  · intro h; rw [← h]; have := shn_in hN x; simpa [inA] using this
  · intro h; exact shn_self hN (by simpa [inA] using h)
theorem shn_congr {N x y : Int} (h : x % N = y % N) : shn N x = shn N y := by unfold shn; rw [h]
theorem shn_add {N : Int} (hN : 1 ≤ N) (x y : Int) : (shn N x + y) % N = (x + y) % N := by
  rw [Int.add_emod, shn_mod hN, ← Int.add_emod]

/-- What is left of a number behind its lowest digits. -/
theorem leftR_div {b : Int} (hb : 1 ≤ b) : ∀ (n : Nat) (v : Int), leftR b n v = v / b ^ n
  | 0, v => by simp [leftR]
  | n + 1, v => by
    rw [leftR, leftR_div hb n, Int.pow_succ, Int.mul_comm, Int.ediv_ediv_of_nonneg (by omega)]
theorem leftR_none {b : Int} (hb : 1 ≤ b) {n : Nat} {v : Int} (h0 : 0 ≤ v) (h : v < b ^ n) : leftR b n v = 0 := by
  rw [leftR_div hb, Int.ediv_eq_zero_of_lt h0 h]
theorem valR_digs {b : Int} (hb : 1 ≤ b) : ∀ (n : Nat) (v : Int), 0 ≤ v → v < b ^ n → valR b (digsR b n v) = v
  | 0, v, h0, h => by simp at h; simp [digsR, valR]; omega
  | n + 1, v, h0, h => by
    rw [digsR, valR, valR_digs hb n (v / b) (Int.ediv_nonneg h0 (by omega)) (by rw [Int.pow_succ] at h; exact Int.ediv_lt_of_lt_mul (by omega) h)]
    exact Int.emod_add_mul_ediv v b
theorem valR_lt {b : Int} (hb : 1 ≤ b) : ∀ {zs : List Int}, (∀ d ∈ zs, 0 ≤ d ∧ d < b) → 0 ≤ valR b zs ∧ valR b zs < b ^ zs.length
  | [], _ => by simp [valR]
  | d :: ds, h => by
    have hd := h d (by simp)
    have ih := valR_lt hb (zs := ds) fun x hx => h x (by simp [hx])
    simp only [valR, List.length_cons, Int.pow_succ]
    have h1 : 0 ≤ b * valR b ds := Int.mul_nonneg (by omega) ih.1
    have h2 : b * (valR b ds + 1) ≤ b * b ^ ds.length := Int.mul_le_mul_of_nonneg_left (by omega) (by omega)
    rw [Int.mul_add, Int.mul_comm b (b ^ ds.length)] at h2
    omega
theorem digsR_back {b : Int} (hb : 1 ≤ b) : ∀ {zs : List Int}, (∀ d ∈ zs, 0 ≤ d ∧ d < b) → digsR b zs.length (valR b zs) = zs
  | [], _ => rfl
  | d :: ds, h => by
    have hd := h d (by simp)
    have ih := digsR_back hb (zs := ds) fun x hx => h x (by simp [hx])
    have e1 : (d + b * valR b ds) % b = d := by rw [Int.add_mul_emod_self_left]; exact Int.emod_eq_of_lt hd.1 hd.2
    have e2 : (d + b * valR b ds) / b = valR b ds := by rw [Int.add_mul_ediv_left _ _ (by omega), Int.ediv_eq_zero_of_lt hd.1 hd.2, Int.zero_add]
    simp only [List.length_cons, digsR, valR, e1, e2, ih]

/-- Is a register an accumulator? -/
def accB (B : Int) (zs : List Int) : Bool := okB B zs && decide (B ^ zs.length - 1 ≤ 1000000000000)
theorem accB_spec {B : Int} {zs : List Int} (h : accB B zs = true) : okB B zs = true ∧ B ^ zs.length - 1 ≤ 1000000000000 := by simpa [accB] using h
theorem accB_full {B : Int} {zs : List Int} (h : accB B zs = true) : fullB B (zs.length : Int) = true := by
  obtain ⟨h1, h2⟩ := accB_spec h
  obtain ⟨b0, b1, n0, n1, _, _⟩ := okB_spec h1
  simp only [fullB, Int.toNat_natCast, decide_eq_true_eq]
  exact ⟨b0, b1, by omega, by omega, h2⟩
theorem full_accB {B : Int} {zs : List Int} (h1 : okB B zs = true) (h2 : fullB B (zs.length : Int) = true) : accB B zs = true := by
  have := (fullB_spec h2).2.2.2.2
  rw [Int.toNat_natCast] at this
  simp [accB, h1, this]
theorem accB_of_full {B : Int} {zs : List Int} (h1 : okB B zs = true) : accB B zs = fullB B (zs.length : Int) := by
  cases h2 : fullB B (zs.length : Int) with
  | true => exact full_accB h1 h2
  | false =>
    cases h : accB B zs with
    | false => rfl
    | true => rw [accB_full h] at h2; cases h2

/-- AccumulatorRange. -/
def rngA (B n : Int) : Int × Int × Int := if fullB B n = true then (-(cntA B n / 2), cntA B n - 1 + -(cntA B n / 2), 0) else (0, 0, 2)
/-- The register that shows a number. -/
def setA (B n x : Int) : List Int := digsR B n.toNat (x % cntA B n)
/-- SetAccumulator. -/
def setAR (B n x : Int) : Int × List Int × Int := if fullB B n = true then (if inA (cntA B n) x = true then (B, setA B n x, 0) else (0, [], 5)) else (0, [], 2)
/-- The number of an accumulator. -/
def numA (B : Int) (zs : List Int) : Int := shn (cntA B (zs.length : Int)) (valR B zs)
/-- NumberOf. -/
def numR (B : Int) (zs : List Int) : Int × Int := if accB B zs = true then (numA B zs, 0) else (0, 1)
/-- NegateAccumulator. -/
def negR (B : Int) (zs : List Int) : Int × List Int × Int := if accB B zs = true then setAR B (zs.length : Int) (-(numA B zs)) else (0, [], 1)
/-- WidenAccumulator. -/
def widR (B : Int) (zs : List Int) (n : Int) : Int × List Int × Int :=
  if accB B zs = true then (if (zs.length : Int) ≤ n ∧ n ≤ 16 then (if fullB B n = true then (B, setA B n (numA B zs), 0) else (0, [], 5)) else (0, [], 2)) else (0, [], 1)
/-- ClearTurns. -/
def clrD (B : Int) (zs : List Int) (k : Nat) : Int := (-(nth zs k)) % B
def clrR (B : Int) (zs : List Int) : List Int × Int := if okB B zs = true then (tab (clrD B zs) zs.length, 0) else ([], 1)
/-- Adding number after number: what is shown, where the bell rings. -/
def runA (N s : Int) (l : List Int) : Nat → Int × List Int
  | 0 => (s, [])
  | k + 1 => (shn N ((runA N s l k).1 + nth l k), (runA N s l k).2 ++ (if inA N ((runA N s l k).1 + nth l k) = true then [] else [(k : Int)]))
/-- Can all numbers be added? -/
def mostB (l : List Int) : Bool := decide (∀ x ∈ l, -1000000000000 ≤ x ∧ x ≤ 1000000000000)
/-- AccumulateAll. -/
def accR (B : Int) (zs l : List Int) : Int × List Int × List Int × Int :=
  if accB B zs = true then (if mostB l = true then (B, setA B (zs.length : Int) (runA (cntA B (zs.length : Int)) (numA B zs) l l.length).1, (runA (cntA B (zs.length : Int)) (numA B zs) l l.length).2, 0) else (0, [], [], 2)) else (0, [], [], 1)

theorem cntA_bd {B n : Int} (h : fullB B n = true) : 2 ≤ cntA B n ∧ cntA B n ≤ 1000000000001 := by
  obtain ⟨h1, h2, h3, h4, h5⟩ := fullB_spec h
  have := pow_mono' h1 (show 1 ≤ n.toNat by omega)
  rw [Int.pow_one] at this
  unfold cntA; omega
theorem cntA_len {B : Int} {zs : List Int} : cntA B (zs.length : Int) = B ^ zs.length := by simp [cntA]
theorem modA_bd {B n : Int} (h : fullB B n = true) (x : Int) : 0 ≤ x % cntA B n ∧ x % cntA B n < cntA B n := by
  have := cntA_bd h
  exact ⟨Int.emod_nonneg _ (by omega), Int.emod_lt_of_pos _ (by omega)⟩
/-- NewRegister makes the register that shows a number. -/
theorem nrR_set {B n : Int} (h : fullB B n = true) (x : Int) : nrR B n (x % cntA B n) = (B, setA B n x, 0) := by
  obtain ⟨h1, h2, h3, h4, h5⟩ := fullB_spec h
  have hm := modA_bd h x
  have hc := cntA_bd h
  obtain ⟨m, rfl⟩ := Int.eq_ofNat_of_zero_le (show 0 ≤ n by omega)
  rw [setA, Int.toNat_natCast]
  refine nrR_ok ⟨h1, h2, by omega, by omega, hm.1, by omega⟩ ?_
  rw [leftR_none (by omega) hm.1 (by simpa [cntA] using hm.2)]; omega
theorem setA_len {B n : Int} (x : Int) : (setA B n x).length = n.toNat := digsR_len _ _ _
theorem setA_val {B n : Int} (h : fullB B n = true) (x : Int) : valR B (setA B n x) = x % cntA B n := by
  have hm := modA_bd h x
  exact valR_digs (by have := (fullB_spec h).1; omega) _ _ hm.1 hm.2
theorem setA_congr {B n x y : Int} (h : x % cntA B n = y % cntA B n) : setA B n x = setA B n y := by unfold setA; rw [h]
theorem numA_set {B n : Int} (h : fullB B n = true) (x : Int) : numA B (setA B n x) = shn (cntA B n) x := by
  have hn := (fullB_spec h).2.2.1
  unfold numA
  rw [setA_len, setA_val h, show ((n.toNat : Nat) : Int) = n by omega]
  exact shn_congr (Int.emod_emod_of_dvd _ (Int.dvd_refl _))
/-- What is shown at first. -/
theorem setA_num {B : Int} {zs : List Int} (h : accB B zs = true) : setA B (zs.length : Int) (numA B zs) = zs := by
  have hf := accB_full h
  have hc := cntA_bd hf
  obtain ⟨b0, b1, n0, n1, hd, _⟩ := okB_spec (accB_spec h).1
  have hv := valR_lt (show 1 ≤ B by omega) hd
  unfold setA numA
  rw [shn_mod (by omega), Int.toNat_natCast, Int.emod_eq_of_lt hv.1 (by rw [cntA_len]; exact hv.2)]
  exact digsR_back (by omega) hd
theorem numA_in {B : Int} {zs : List Int} (h : accB B zs = true) : -(cntA B (zs.length : Int) / 2) ≤ numA B zs ∧ numA B zs ≤ cntA B (zs.length : Int) - 1 + -(cntA B (zs.length : Int) / 2) :=
  shn_in (by have := cntA_bd (accB_full h); omega) _
theorem runA_in {N s : Int} (hN : 1 ≤ N) (h : -(N / 2) ≤ s ∧ s ≤ N - 1 + -(N / 2)) (l : List Int) : ∀ k, -(N / 2) ≤ (runA N s l k).1 ∧ (runA N s l k).1 ≤ N - 1 + -(N / 2)
  | 0 => h
  | _ + 1 => shn_in hN _
theorem numA_if {B : Int} {zs : List Int} (h : accB B zs = true) : numA B zs = if inA (cntA B (zs.length : Int)) (valR B zs) = true then valR B zs else valR B zs - cntA B (zs.length : Int) := by
  have hf := accB_full h
  have hc := cntA_bd hf
  obtain ⟨b0, b1, n0, n1, hd, _⟩ := okB_spec (accB_spec h).1
  have hv := valR_lt (show 1 ≤ B by omega) hd
  rw [← cntA_len] at hv
  unfold numA shn inA
  rw [Int.emod_eq_of_lt hv.1 hv.2]
  simp only [decide_eq_true_eq]
  by_cases hh : cntA B (zs.length : Int) - 1 + -(cntA B (zs.length : Int) / 2) < valR B zs
  · rw [if_pos hh, if_neg (by omega)]
  · rw [if_neg hh, if_pos (by omega)]
theorem valR_acc {B : Int} {zs : List Int} (h : accB B zs = true) : 0 ≤ valR B zs ∧ valR B zs ≤ 1000000000000 := by
  obtain ⟨b0, b1, n0, n1, hd, hv⟩ := okB_spec (accB_spec h).1
  exact ⟨(valR_lt (show 1 ≤ B by omega) hd).1, hv⟩
end Go.Proofs.YtlahobdopmdfmaaDoor

/- CirI -/
namespace Go.Proofs.YtlahobdopmdfmaaDoor
open Go.RowKit

theorem baseB_iff9 (B : Int) : baseB B = true ↔ 2 ≤ B ∧ B ≤ 16 := by simp [baseB]
theorem isBase9 (b : Int) (w : World) : Calls Tryd.prog 160 #[.int .i64 b] w fun e w' => e = .returned (.bool (baseB b)) ∧ w' = w := by
  by_cases h : 2 ≤ b
  · by_cases h2 : b ≤ 16
    · have H := Lib.hid ((baseB_iff9 b).2 ⟨h, h2⟩)
      go_enter Tryd.func160, Tryd.ntmps160
      go_wp2
      go_ret
      exact ⟨ret_bool H.out.symm, rfl⟩
    · have H := Lib.hid (show baseB b = false by cases e : baseB b with | false => rfl | true => exact absurd ((baseB_iff9 b).1 e).2 h2)
      go_enter Tryd.func160, Tryd.ntmps160
      go_wp2
      go_ret
      exact ⟨ret_bool H.out.symm, rfl⟩
  · have H := Lib.hid (show baseB b = false by cases e : baseB b with | false => rfl | true => exact absurd ((baseB_iff9 b).1 e).1 h)
    go_enter Tryd.func160, Tryd.ntmps160
    go_wp2
    go_ret
    exact ⟨ret_bool H.out.symm, rfl⟩

set_option maxHeartbeats 1000000 in
theorem isWidth9 (n : Int) (w : World) : Calls Tryd.prog 161 #[.int .i64 n] w fun e w' => e = .returned (.bool (inB n 1 16)) ∧ w' = w := by
  cases h : inB n 1 16 with
  | true =>
    obtain ⟨h1, h2⟩ := inB_true h
    have d1 : decide (n ≥ 1) = true := decide_eq_true h1
    have d2 : decide (n ≤ 16) = true := decide_eq_true h2
    clear h
    go_enter Tryd.func161, Tryd.ntmps161
    go_wp2
    go_ret
    exact ⟨rfl, rfl⟩
  | false =>
    have hh := inB_false h
    clear h
    rcases Int.lt_or_le n 1 with h1 | h1
    · have d1 : decide (n ≥ 1) = false := decide_eq_false (by omega)
      have h1' : ¬ 1 ≤ n := by omega
      clear hh h1
      go_enter Tryd.func161, Tryd.ntmps161
      go_wp2
      go_ret
      exact ⟨rfl, rfl⟩
    · have d1 : decide (n ≥ 1) = true := decide_eq_true h1
      have d2 : decide (n ≤ 16) = false := decide_eq_false (by omega)
      have h2 : ¬ n ≤ 16 := by omega
      clear hh
      go_enter Tryd.func161, Tryd.ntmps161
      go_wp2
      go_ret
      exact ⟨rfl, rfl⟩

theorem mod_twice {n c : Int} (hc : 1 ≤ c) : -c < n.tmod c ∧ n.tmod c < c ∧ (n.tmod c + c).tmod c = n % c := by
  have h1 : n.tmod c < c := Int.tmod_lt_of_pos _ (by omega)
  have h2 : -c < n.tmod c := by
    have := Int.tmod_lt_of_pos (-n) (show 0 < c by omega)
    rw [Int.neg_tmod] at this; omega
  refine ⟨h2, h1, ?_⟩
  rw [Int.tmod_eq_emod_of_nonneg (by omega), Int.add_emod_right]
  have e := Int.mul_tdiv_add_tmod n c
  conv => rhs; rw [← e, Int.add_comm, Int.add_mul_emod_self_left]

set_option maxHeartbeats 1000000 in
theorem modulo_any (n c : Int) (w : World) (h1 : 1 ≤ c) (h2 : c ≤ 1000000000001) :
    Calls Tryd.prog 132 #[.int .i64 n, .int .i64 c] w fun e w' => e = .returned (.int .i64 (n % c)) ∧ w' = w := by
  obtain ⟨m1, m2, m3⟩ := mod_twice (n := n) h1
  have hq1 := Int.emod_nonneg n (show c ≠ 0 by omega)
  have hq2 := Int.emod_lt_of_pos n (show 0 < c by omega)
  obtain ⟨q, hq⟩ : ∃ q, q = n % c := ⟨_, rfl⟩
  obtain ⟨r, hr⟩ : ∃ r, n.tmod c = r := ⟨_, rfl⟩
  rw [hr] at m1 m2 m3
  rw [← hq] at m3 hq1 hq2 ⊢
  have hc0 : ¬ c = 0 := by omega
  have hw1 : IntKind.i64.wrap (r + c) = r + c := IntWalk.i64_in _ (by omega)
  have hw2 : wrap64 (r + c) = r + c := by unfold wrap64; omega
  clear hq
  go_enter Tryd.func132, Tryd.ntmps132
  go_wp2
  go_ret
  exact ⟨rfl, rfl⟩

set_option maxHeartbeats 4000000 in
set_option maxRecDepth 100000 in
theorem circle_no (B n : Int) (w : World) (h : fullB B n = false) :
    Calls Tryd.prog 105 #[.int .i64 B, .int .i64 n] w fun e w' => e = .returned (.tuple #[.agg #[.int .i64 0, .int .i64 0, .int .i64 0], .bool false]) ∧ Below w.heap.size w w' := by
  obtain ⟨u, hu⟩ : ∃ u, u = w.alloc (.cells #[.int .i64 0, .int .i64 0, .int .i64 0] 113) := ⟨_, rfl⟩
  have bx : Bx u w.heap.size 113 #[.int .i64 0, .int .i64 0, .int .i64 0] := by rw [hu]; exact Bx.new _ _ _
  have hbel : Below w.heap.size w u := by rw [hu]; exact (by repeat (first | exact Below.refl _ _ | refine Below.setCell ?_ (by first | omega | (simp <;> omega)) _ | refine Below.alloc ?_ (by first | omega | (simp <;> omega)) _ | refine Below.drew ?_))
  have hsz := bx.lt
  have HU := Lib.hid hu
  clear hu
  have HB := Lib.hid (isBase9 B)
  have HW := Lib.hid (isWidth9 n)
  cases hb : baseB B with
  | false =>
    rw [hb] at HB
    have c0 := bx.at_ 0 rfl
    have c1 := bx.at_ 1 rfl
    have c2 := bx.at_ 2 rfl
    have f0 := bx.thaw 0
    have f1 := bx.thaw 1
    have f2 := bx.thaw 2
    clear hb h
    go_enter Tryd.func105, Tryd.ntmps105
    go_wp2_with fail
    rw [← HU.out]
    refine (HB.out u).mono ?_
    rintro e w1 ⟨rfl, hw⟩
    subst w1
    go_wp2
    exact bodyPost_ret (v := .tuple #[.agg #[.int .i64 0, .int .i64 0, .int .i64 0], .bool false]) (by simp [results, Tryd.results105, go_sem, c0, c1, c2]) rfl ⟨rfl, (by repeat (first | with_reducible exact hbel | with_reducible refine Below.setCell ?_ (by first | omega | (simp <;> omega)) _ | with_reducible refine Below.alloc ?_ (by first | omega | (simp <;> omega)) _ | with_reducible refine Below.drew ?_))⟩
  | true =>
    rw [hb] at HB
    obtain ⟨h1, h2⟩ := baseB_true hb
    clear hb
    cases hn : inB n 1 16 with
    | false =>
      rw [hn] at HW
      have c0 := bx.at_ 0 rfl
      have c1 := bx.at_ 1 rfl
      have c2 := bx.at_ 2 rfl
      have f0 := bx.thaw 0
      have f1 := bx.thaw 1
      have f2 := bx.thaw 2
      clear hn h
      go_enter Tryd.func105, Tryd.ntmps105
      go_wp2_with fail
      rw [← HU.out]
      refine (HB.out u).mono ?_
      rintro e w1 ⟨rfl, hw⟩
      subst w1
      go_wp2_with fail
      refine (HW.out _).mono ?_
      rintro e w1 ⟨rfl, hw⟩
      subst w1
      go_wp2
      exact bodyPost_ret (v := .tuple #[.agg #[.int .i64 0, .int .i64 0, .int .i64 0], .bool false]) (by simp [results, Tryd.results105, go_sem, c0, c1, c2]) rfl ⟨rfl, (by repeat (first | with_reducible exact hbel | with_reducible refine Below.setCell ?_ (by first | omega | (simp <;> omega)) _ | with_reducible refine Below.alloc ?_ (by first | omega | (simp <;> omega)) _ | with_reducible refine Below.drew ?_))⟩
    | true =>
      rw [hn] at HW
      obtain ⟨n1, n2⟩ := inB_true hn
      obtain ⟨m, rfl⟩ := Int.eq_ofNat_of_zero_le (show 0 ≤ n by omega)
      have hbig : 1000000000000 < B ^ m - 1 := by
        simp only [fullB, Int.toNat_natCast, decide_eq_false_iff_not] at h
        have : ¬ (B ^ m - 1 ≤ 1000000000000) := fun hh => h ⟨h1, h2, n1, n2, hh⟩
        omega
      have HG := Lib.hid hbig
      clear hn h hbig
      go_enter Tryd.func105, Tryd.ntmps105
      go_wp2_with fail
      rw [← HU.out]
      refine (HB.out u).mono ?_
      rintro e w1 ⟨rfl, hw⟩
      subst w1
      go_wp2_with fail
      refine (HW.out _).mono ?_
      rintro e w1 ⟨rfl, hw⟩
      subst w1
      go_wp2_with fail
      go_loopw [6, 17] (fun c i wr => ∃ (k : Nat) (x : Int), k ≤ m ∧ i = .int .i64 k ∧ c = .int .i64 x ∧ Hid (x = B ^ k) ∧ 1 ≤ x ∧ x ≤ 1000000000001 ∧ wr = u) (fun _ i _ => m - (intOf i).toNat)
      case atStart => exact ⟨0, 1, Nat.zero_le _, rfl, rfl, Lib.hid (by simp), by omega, by omega, rfl⟩
      case round =>
        obtain ⟨k, x, hk, rfl, rfl, HX, x1, x2, hw⟩ := hrel
        subst wr
        by_cases hlt : k < m
        · have hm0 : x * B ≤ 1000000000001 * 16 := Int.mul_le_mul x2 h2 (by omega) (by omega)
          have hm1 : x * 1 ≤ x * B := Int.mul_le_mul_of_nonneg_left (by omega) (by omega)
          obtain ⟨q, hq⟩ : ∃ q, q = x * B := ⟨_, rfl⟩
          have HQ := Lib.hid (show q = B ^ (k + 1) by rw [hq, HX.out, Int.pow_succ])
          rw [← hq] at hm0 hm1
          have hw1 : IntKind.i64.wrap (x * B) = q := by rw [← hq]; exact IntWalk.i64_in _ (by omega)
          have hw2 : wrap64 (x * B) = q := by rw [← hq]; unfold wrap64; omega
          clear hq
          by_cases hb2 : 1000000000000 < q - 1
          · have c0 := bx.at_ 0 rfl
            have c1 := bx.at_ 1 rfl
            have c2 := bx.at_ 2 rfl
            have f0 := bx.thaw 0
            have f1 := bx.thaw 1
            have f2 := bx.thaw 2
            go_wp2
            exact bodyPost_ret (v := .tuple #[.agg #[.int .i64 0, .int .i64 0, .int .i64 0], .bool false]) (by simp [results, Tryd.results105, go_sem, c0, c1, c2]) rfl ⟨rfl, (by repeat (first | with_reducible exact hbel | with_reducible refine Below.setCell ?_ (by first | omega | (simp <;> omega)) _ | with_reducible refine Below.alloc ?_ (by first | omega | (simp <;> omega)) _ | with_reducible refine Below.drew ?_))⟩
          · go_wp2
            go_roundw
            case rel => exact ⟨k + 1, q, by omega, by go_num, rfl, HQ, by omega, by omega, by simp⟩
            case measure => simp [intOf]; omega
        · exfalso
          have hm : k = m := by omega
          subst hm
          have e1 := HX.out
          have e2 := HG.out
          omega

set_option maxHeartbeats 4000000 in
set_option maxRecDepth 100000 in
theorem circle_ok (B n : Int) (w : World) (h : fullB B n = true) :
    Calls Tryd.prog 105 #[.int .i64 B, .int .i64 n] w fun e w' => e = .returned (.tuple #[.agg #[.int .i64 B, .int .i64 n, .int .i64 (cntA B n)], .bool true]) ∧ Below w.heap.size w w' := by
  obtain ⟨u, hu⟩ : ∃ u, u = w.alloc (.cells #[.int .i64 0, .int .i64 0, .int .i64 0] 113) := ⟨_, rfl⟩
  have bx : Bx u w.heap.size 113 #[.int .i64 0, .int .i64 0, .int .i64 0] := by rw [hu]; exact Bx.new _ _ _
  have hbel : Below w.heap.size w u := by rw [hu]; exact (by repeat (first | exact Below.refl _ _ | refine Below.setCell ?_ (by first | omega | (simp <;> omega)) _ | refine Below.alloc ?_ (by first | omega | (simp <;> omega)) _ | refine Below.drew ?_))
  have hsz := bx.lt
  have HU := Lib.hid hu
  clear hu
  obtain ⟨h1, h2, n1, n2, h5⟩ := fullB_spec h
  have HB := Lib.hid (isBase9 B)
  have HW := Lib.hid (isWidth9 n)
  rw [show baseB B = true by simp [baseB, h1, h2]] at HB
  rw [inB_yes n1 n2] at HW
  obtain ⟨m, rfl⟩ := Int.eq_ofNat_of_zero_le (show 0 ≤ n by omega)
  have HC := Lib.hid (show cntA B (m : Int) = B ^ m by simp [cntA])
  have HP := Lib.hid (fun k (hk : k ≤ m) => show B ^ k ≤ 1000000000001 by
    have := pow_mono' h1 hk
    rw [Int.toNat_natCast] at h5
    omega)
  clear h h5
  go_enter Tryd.func105, Tryd.ntmps105
  go_wp2_with fail
  rw [← HU.out]
  refine (HB.out u).mono ?_
  rintro e w1 ⟨rfl, hw⟩
  subst w1
  go_wp2_with fail
  refine (HW.out _).mono ?_
  rintro e w1 ⟨rfl, hw⟩
  subst w1
  go_wp2_with fail
  go_loopw [6, 17] (fun c i wr => ∃ (k : Nat) (x : Int), k ≤ m ∧ i = .int .i64 k ∧ c = .int .i64 x ∧ Hid (x = B ^ k) ∧ 1 ≤ x ∧ x ≤ 1000000000001 ∧ wr = u) (fun _ i _ => m - (intOf i).toNat)
  case atStart => exact ⟨0, 1, Nat.zero_le _, rfl, rfl, Lib.hid (by simp), by omega, by omega, rfl⟩
  case round =>
    obtain ⟨k, x, hk, rfl, rfl, HX, x1, x2, hw⟩ := hrel
    subst wr
    by_cases hlt : k < m
    · have hm1 : x * 1 ≤ x * B := Int.mul_le_mul_of_nonneg_left (by omega) (by omega)
      obtain ⟨q, hq⟩ : ∃ q, q = x * B := ⟨_, rfl⟩
      have hQ : q = B ^ (k + 1) := by rw [hq, HX.out, Int.pow_succ]
      have hm0 : q ≤ 1000000000001 := by rw [hQ]; exact HP.out _ (by omega)
      have HQ := Lib.hid hQ
      rw [← hq] at hm1
      have hw1 : IntKind.i64.wrap (x * B) = q := by rw [← hq]; exact IntWalk.i64_in _ (by omega)
      have hw2 : wrap64 (x * B) = q := by rw [← hq]; unfold wrap64; omega
      clear hq hQ
      go_wp2
      go_roundw
      case rel => exact ⟨k + 1, q, by omega, by go_num, rfl, HQ, by omega, by omega, by simp⟩
      case measure => simp [intOf]; omega
    · obtain rfl : k = m := by omega
      have HE := Lib.hid (HC.out.trans HX.out.symm)
      have c0 := bx.at_ 0 rfl
      have c1 := bx.at_ 1 rfl
      have c2 := bx.at_ 2 rfl
      have f0 := bx.thaw 0
      have f1 := bx.thaw 1
      have f2 := bx.thaw 2
      go_wp2
      exact bodyPost_ret (v := .tuple #[.agg #[.int .i64 B, .int .i64 k, .int .i64 x], .bool true]) (by simp [results, Tryd.results105, go_sem, c0, c1, c2]) rfl ⟨by rw [HE.out], (by repeat (first | with_reducible exact hbel | with_reducible refine Below.setCell ?_ (by first | omega | (simp <;> omega)) _ | with_reducible refine Below.alloc ?_ (by first | omega | (simp <;> omega)) _ | with_reducible refine Below.drew ?_))⟩

set_option maxHeartbeats 1000000 in
theorem least_any (B n N : Int) (w : World) (h1 : 1 ≤ N) (h2 : N ≤ 1000000000001) :
    Calls Tryd.prog 111 #[.agg #[.int .i64 B, .int .i64 n, .int .i64 N]] w fun e w' => e = .returned (.int .i64 (-(N / 2))) ∧ Below w.heap.size w w' := by
  have ht : N.tdiv 2 = N / 2 := Int.tdiv_eq_ediv_of_nonneg (by omega)
  obtain ⟨q, hq⟩ : ∃ q, q = N / 2 := ⟨_, rfl⟩
  rw [← hq] at ht ⊢
  have hq2 : 0 ≤ q ∧ q ≤ 1000000000002 := by omega
  clear hq
  go_enter Tryd.func111, Tryd.ntmps111
  go_wp2
  go_ret
  exact ⟨rfl, (by repeat (first | exact Below.refl _ _ | refine Below.setCell ?_ (by first | omega | (simp <;> omega)) _ | refine Below.alloc ?_ (by first | omega | (simp <;> omega)) _ | refine Below.drew ?_))⟩

set_option maxHeartbeats 1000000 in
theorem greatest_any (B n N : Int) (w : World) (h1 : 1 ≤ N) (h2 : N ≤ 1000000000001) :
    Calls Tryd.prog 112 #[.agg #[.int .i64 B, .int .i64 n, .int .i64 N]] w fun e w' => e = .returned (.int .i64 (N - 1 + -(N / 2))) ∧ Below w.heap.size w w' := by
  obtain ⟨u, hu⟩ : ∃ u, u = w.alloc (.cells #[.int .i64 B, .int .i64 n, .int .i64 N] 113) := ⟨_, rfl⟩
  have bx : Bx u w.heap.size 113 #[.int .i64 B, .int .i64 n, .int .i64 N] := by rw [hu]; exact Bx.new _ _ _
  have hbel : Below w.heap.size w u := by rw [hu]; exact (by repeat (first | exact Below.refl _ _ | refine Below.setCell ?_ (by first | omega | (simp <;> omega)) _ | refine Below.alloc ?_ (by first | omega | (simp <;> omega)) _ | refine Below.drew ?_))
  have c0 := kept_after (bx.at_ 0 rfl)
  have c1 := kept_after (bx.at_ 1 rfl)
  have c2 := kept_after (bx.at_ 2 rfl)
  have HC := Lib.hid (fun v => least_any B n N v h1 h2)
  obtain ⟨q, hq⟩ : ∃ q, q = N / 2 := ⟨_, rfl⟩
  rw [← hq] at HC ⊢
  have hq2 : 0 ≤ q ∧ q ≤ 1000000000002 := by omega
  have HU := Lib.hid hu
  clear hu bx hq
  go_enter Tryd.func112, Tryd.ntmps112
  go_wp2
  rw [← HU.out]
  refine wp_region_after (by kernel_rfl) (by kernel_rfl) ?_
  repeat (go_big_quiet_step ((go_at_call 111; exact calls_after (HC.out _))))
  refine wpQuiet_nil ?_
  intro u
  go_wp2
  go_ret
  exact ⟨rfl, hbel.trans (u.ok.mono hbel.size)⟩

set_option maxHeartbeats 1000000 in
theorem implAccumulatorRange (B n : Int) (w : World) (_ : I64 B) (_ : I64 n) :
    Calls Tryd.prog 30 #[.int .i64 B, .int .i64 n] w fun e w' => e = .returned (.tuple #[.int .i64 (rngA B n).1, .int .i64 (rngA B n).2.1, .int .i64 (rngA B n).2.2]) ∧ Below w.heap.size w w' := by
  have R := Tryd.results30
  cases hf : fullB B n with
  | false =>
    have HR := Lib.hid (show rngA B n = (0, 0, 2) by simp [rngA, hf])
    go_enter Tryd.func30, Tryd.ntmps30
    go_wp2_with fail
    refine (circle_no B n _ hf).mono ?_
    rintro e w1 ⟨rfl, hb⟩
    have hs := hb.size
    go_wp2
    exact bodyPost_ret (v := .tuple #[.int .i64 0, .int .i64 0, .int .i64 2]) (by simp [results, go_sem]) rfl ⟨by rw [HR.out], (by repeat (first | exact hb | refine Below.setCell ?_ (by first | omega | (simp <;> omega)) _ | refine Below.alloc ?_ (by first | omega | (simp <;> omega)) _ | refine Below.drew ?_))⟩
  | true =>
    have HR := Lib.hid (show rngA B n = (-(cntA B n / 2), cntA B n - 1 + -(cntA B n / 2), 0) by simp [rngA, hf])
    have hc := cntA_bd hf
    have HL := Lib.hid (fun v => least_any B n (cntA B n) v (by omega) (by omega))
    have HG := Lib.hid (fun v => greatest_any B n (cntA B n) v (by omega) (by omega))
    go_enter Tryd.func30, Tryd.ntmps30
    go_wp2_with fail
    refine (circle_ok B n _ hf).mono ?_
    rintro e w1 ⟨rfl, hb⟩
    have hs := hb.size
    go_wp2_with fail
    obtain ⟨u, hu⟩ : ∃ u, u = w1.alloc (.cells #[.int .i64 B, .int .i64 n, .int .i64 (cntA B n)] 113) := ⟨_, rfl⟩
    have bx : Bx u w1.heap.size 113 #[.int .i64 B, .int .i64 n, .int .i64 (cntA B n)] := by rw [hu]; exact Bx.new _ _ _
    have hbel : Below w.heap.size w u := by rw [hu]; exact (by repeat (first | exact hb | refine Below.setCell ?_ (by first | omega | (simp <;> omega)) _ | refine Below.alloc ?_ (by first | omega | (simp <;> omega)) _ | refine Below.drew ?_))
    first | rw [← hu] | skip
    have c0 := kept_after (bx.at_ 0 rfl)
    have c1 := kept_after (bx.at_ 1 rfl)
    have c2 := kept_after (bx.at_ 2 rfl)
    clear hu bx hf hc hb
    refine wp_region_after (by kernel_rfl) (by kernel_rfl) ?_
    repeat (go_big_quiet_step (first | (go_at_call 111; exact calls_after (HL.out _)) | (go_at_call 112; exact calls_after (HG.out _))))
    refine wpQuiet_nil ?_
    intro u
    go_wp2
    exact bodyPost_ret (v := .tuple #[.int .i64 (-(cntA B n / 2)), .int .i64 (cntA B n - 1 + -(cntA B n / 2)), .int .i64 0]) (by simp [results, go_sem]) rfl ⟨by rw [HR.out], hbel.trans (u.ok.mono hbel.size)⟩
end Go.Proofs.YtlahobdopmdfmaaDoor

/- SameI -/
namespace Go.Proofs.YtlahobdopmdfmaaDoor
open Go.RowKit

set_option maxHeartbeats 400000 in
theorem l00Same_any (a b : Option Addr) (c d : Nat) (xs ys : List Int) (w : World) (ha : Rd w a xs) (hb : Rd w b ys) :
    Calls Tryd.prog 165 #[.slice a xs.length c, .slice b ys.length d] w fun e w' => e = .returned (.bool (decide (xs = ys))) ∧ ∃ n, w' = w.drewN n := by
  have hx1 := ha.len
  have hy1 := hb.len
  by_cases hl : xs.length = ys.length
  · have ht : ((xs.length : Int) != (ys.length : Int)) = false := by simp [hl]
    have HL := Lib.hid hl
    clear hl
    go_enter Tryd.func165, Tryd.ntmps165
    go_wp2
    go_loopw [5] (fun i wr => ∃ k n : Nat, k ≤ xs.length ∧ i = .int .i64 k ∧ wr = w.drewN n ∧ Hid (xs.take k = ys.take k)) (fun i _ => xs.length - (intOf i).toNat)
    case atStart => exact ⟨0, 0, Nat.zero_le _, rfl, rfl, Lib.hid (by simp)⟩
    case round =>
      obtain ⟨k, n, hk, rfl, rfl, HT⟩ := hrel
      by_cases hlt : k < xs.length
      · have hlt' : k < ys.length := by rw [← HL.out]; exact hlt
        obtain ⟨b1, o1, rfl, hc1⟩ := ha.at_ hlt
        obtain ⟨b2, o2, rfl, hc2⟩ := hb.at_ hlt'
        by_cases he : nth xs k = nth ys k
        · have hbe : (nth xs k != nth ys k) = false := by simp [he]
          have HE := Lib.hid he
          clear he
          go_wp2
          go_quiet (fail)
          go_wp2
          go_roundw
          case rel => exact ⟨k + 1, _, by omega, by go_num, rfl, Lib.hid (take_eq_snoc hlt HL.out HT.out HE.out)⟩
          case measure => simp [intOf]; omega
        · have hbe : (nth xs k != nth ys k) = true := by simp [he]
          have HE := Lib.hid he
          clear he
          go_wp2
          go_quiet (fail)
          go_wp2
          go_ret
          exact ⟨ret_bool (by simp [ne_of_at HE.out]), _, drewN_drewN _ _ _⟩
      · obtain rfl : k = xs.length := by omega
        go_wp2
        go_ret
        exact ⟨ret_bool (by simp [take_all_eq HL.out HT.out]), _, rfl⟩
  · have ht : ((xs.length : Int) != (ys.length : Int)) = true := by simp; omega
    have HL := Lib.hid hl
    clear hl
    go_enter Tryd.func165, Tryd.ntmps165
    go_wp2
    go_ret
    exact ⟨ret_bool (by rw [decide_eq_false]; rintro rfl; exact HL.out rfl), 0, rfl⟩
end Go.Proofs.YtlahobdopmdfmaaDoor

/- SliEq -/
namespace Go.Proofs.YtlahobdopmdfmaaDoor
open Go.RowKit

end Go.Proofs.YtlahobdopmdfmaaDoor

/- SameReg -/
namespace Go.Proofs.YtlahobdopmdfmaaDoor
open Go.RowKit

set_option maxHeartbeats 400000 in
theorem l02Same_any (p q : Nat) (B D : Int) (a b : Option Addr) (c d : Nat) (xs ys : List Int) (w : World) (ha : Rd w a xs) (hb : Rd w b ys)
    (hp0 : w.cell? ⟨p, 0, none⟩ = some (.int .i64 B)) (hp1 : w.cell? ⟨p, 1, none⟩ = some (.slice a xs.length c)) (hq0 : w.cell? ⟨q, 0, none⟩ = some (.int .i64 D)) (hq1 : w.cell? ⟨q, 1, none⟩ = some (.slice b ys.length d)) :
    Calls Tryd.prog 120 #[.pointer (some ⟨p, 0, none⟩), .pointer (some ⟨q, 0, none⟩)] w fun e w' => e = .returned (.bool (regEqB B D xs ys)) ∧ ∃ n, w' = w.drewN n := by
  by_cases h : B = D
  · have hbe : (B == D) = true := by simp [h]
    have H := Lib.hid h
    clear h
    go_enter Tryd.func120, Tryd.ntmps120
    go_wp2
    go_quiet ((go_at_call 165; exact Calls.quiet_of (l00Same_any _ _ _ _ _ _ _ (ha.drewN _) (hb.drewN _))))
    go_wp2
    go_ret
    exact ⟨ret_bool (by simp [regEqB, H.out]), _, rfl⟩
  · have hbe : (B == D) = false := by simp [h]
    have H := Lib.hid h
    clear h
    go_enter Tryd.func120, Tryd.ntmps120
    go_wp2
    go_quiet (fail)
    go_wp2
    go_ret
    exact ⟨ret_bool (by simp [regEqB, H.out]), _, rfl⟩

set_option maxHeartbeats 400000 in
theorem specSameRegister_any (B D : Int) (a b : Option Addr) (c d : Nat) (xs ys : List Int) (w : World) (ha : Rd w a xs) (hb : Rd w b ys) :
    Calls Tryd.prog 39 #[.agg #[.int .i64 B, .slice a xs.length c], .agg #[.int .i64 D, .slice b ys.length d]] w fun e w' =>
      e = .returned (.bool (regEqB B D xs ys)) ∧ Below w.heap.size w w' := by
  have hbel : Below w.heap.size w ((w.alloc (.cells #[.int .i64 B, .slice a xs.length c] 26)).alloc (.cells #[.int .i64 D, .slice b ys.length d] 26)) :=
    ((Below.refl _ _).alloc (Nat.le_refl _) _).alloc (by simp) _
  go_enter Tryd.func39, Tryd.ntmps39
  go_wp2_with fail
  refine (l02Same_any w.heap.size (w.heap.size + 1) B D a b c d xs ys _ (ha.below hbel) (hb.below hbel) (by go_simp) (by go_simp) (by go_simp) (by go_simp)).mono ?_
  rintro e w1 ⟨rfl, n, rfl⟩
  go_wp2
  go_ret
  exact ⟨rfl, bel_drewN hbel _⟩

theorem specSameRegister (xB : Int) (xA : Option Addr) (xC : Nat) (xZ : List Int) (yB : Int) (yA : Option Addr) (yC : Nat) (yZ : List Int) (w : World) (hx : Rd w xA xZ) (_ : All64 xZ) (_ : I64 xB) (hy : Rd w yA yZ) (_ : All64 yZ) (_ : I64 yB) :
    Calls Tryd.prog 39 #[.agg #[.int .i64 xB, .slice xA xZ.length xC], .agg #[.int .i64 yB, .slice yA yZ.length yC]] w fun e w' =>
      e = .returned (.bool (regEqB xB yB xZ yZ)) ∧ Below w.heap.size w w' := specSameRegister_any xB yB xA yA xC yC xZ yZ w hx hy
end Go.Proofs.YtlahobdopmdfmaaDoor

/- Iter -/
namespace Go.Proofs.YtlahobdopmdfmaaDoor
open Go.RowKit Go.Shelf

/-- A number of which p is known, with its index. -/
abbrev Ent (p : Int → Prop) := Nat × { d : Int // p d }
/-- The first k entries from the end of zs on. -/
def bwd {p : Int → Prop} (zs : List Int) (h : ∀ d ∈ zs, p d) : Nat → List (Ent p)
  | 0 => []
  | k + 1 => if hk : k < zs.length then bwd zs h k ++ [(zs.length - 1 - k, ⟨zs[zs.length - 1 - k], h _ (List.getElem_mem _)⟩)] else bwd zs h k
theorem bwd_succ {p : Int → Prop} {zs : List Int} {h : ∀ d ∈ zs, p d} {k : Nat} (hk : k < zs.length) :
    bwd zs h (k + 1) = bwd zs h k ++ [(zs.length - 1 - k, ⟨zs[zs.length - 1 - k], h _ (List.getElem_mem _)⟩)] := by rw [bwd, dif_pos hk]
theorem bwd_step {p : Int → Prop} {zs : List Int} {h : ∀ d ∈ zs, p d} {k j : Nat} (hj : k + (j + 1) = zs.length) (hpj : p (nth zs j)) : bwd zs h (k + 1) = bwd zs h k ++ [(j, ⟨nth zs j, hpj⟩)] := by
  have e : zs.length - 1 - k = j := by omega
  rw [bwd_succ (by omega)]
  congr 2
  have hg : nth zs j = zs[zs.length - 1 - k] := by rw [nth_get (by omega)]; congr 1; exact e.symm
  simp [e, hg]
theorem bwd_len {p : Int → Prop} {zs : List Int} {h : ∀ d ∈ zs, p d} : ∀ {k : Nat}, k ≤ zs.length → (bwd zs h k).length = k
  | 0, _ => rfl
  | k + 1, hk => by rw [bwd_succ (by omega), List.length_append, bwd_len (by omega)]; rfl
/-- Horner's sum of what has come. -/
def hor {p : Int → Prop} (b : Int) (pre : List (Ent p)) : Int := pre.foldl (fun s x => s * b + x.2.1) 0
theorem hor_snoc {p : Int → Prop} (b : Int) (pre : List (Ent p)) (x : Ent p) : hor b (pre ++ [x]) = hor b pre * b + x.2.1 := by simp [hor]
theorem hor_bwd {p : Int → Prop} (b : Int) {zs : List Int} {h : ∀ d ∈ zs, p d} : ∀ {k : Nat}, k ≤ zs.length → hor b (bwd zs h k) = valR b (zs.drop (zs.length - k))
  | 0, _ => by simp [hor, bwd, valR]
  | k + 1, hk => by
    rw [bwd_succ (by omega), hor_snoc, hor_bwd b (by omega)]
    rw [List.drop_eq_getElem_cons (show zs.length - (k + 1) < zs.length by omega)]
    have e1 : zs.length - (k + 1) + 1 = zs.length - k := by omega
    have e2 : valR b (zs[zs.length - (k + 1)] :: zs.drop (zs.length - (k + 1) + 1)) = zs[zs.length - (k + 1)] + b * valR b (zs.drop (zs.length - (k + 1) + 1)) := rfl
    rw [e2, e1, Int.mul_comm]
    have e3 : zs[zs.length - 1 - k] = zs[zs.length - (k + 1)] := by congr 1; omega
    simp only [e3]
    omega
/-- A sum of highest digits is not greater than the value. -/
theorem valR_drop_le {b : Int} (hb : 1 ≤ b) : ∀ (zs : List Int) (k : Nat), (∀ d ∈ zs, 0 ≤ d ∧ d < b) → valR b (zs.drop k) ≤ valR b zs
  | [], k, _ => by simp [valR]
  | d :: ds, 0, _ => by simp
  | d :: ds, k + 1, h => by
    have h1 := h d (by simp)
    have hds : ∀ x ∈ ds, 0 ≤ x ∧ x < b := fun x hx => h x (by simp [hx])
    have ih := valR_drop_le hb ds k hds
    have h2 := valR_nonneg (by omega : 0 ≤ b) hds
    have h3 : 1 * valR b ds ≤ b * valR b ds := Int.mul_le_mul_of_nonneg_right hb h2
    have e : valR b (d :: ds) = d + b * valR b ds := rfl
    rw [List.drop_succ_cons, e]
    omega

/-- What a round must keep: what lay below n₀, and the box of the slice that is ranged over. -/
def KeepB (n₀ Bs : Nat) (W W' : World) : Prop := Below n₀ W W' ∧ W'.heap[Bs]? = W.heap[Bs]?
theorem KeepB.refl (n₀ Bs : Nat) (W : World) : KeepB n₀ Bs W W := ⟨Below.refl _ _, rfl⟩
theorem keepB_t {n₀ Bs : Nat} {A B C : World} (h : KeepB n₀ Bs A B) (k : KeepB n₀ Bs B C) : KeepB n₀ Bs A C := ⟨h.1.trans k.1, k.2.trans h.2⟩
theorem keepB_b {n₀ Bs : Nat} {w : World} (hn : n₀ ≤ w.heap.size) (hB : Bs < w.heap.size) (W : World) (l : Nat) (o o' : Obj) (hl : w.heap.size ≤ l) (h : W.heap[l]? = some o) (_ : o.isCells = false) (_ : o.isWalk = false) : KeepB n₀ Bs W (W.putObj l o') :=
  ⟨belowK_b hn W l o o' hl h ‹_› ‹_›, (grownBy_putObj' W l o').block Bs (by have := (Array.getElem?_eq_some_iff.1 h).1; omega) (by intro e; cases e; omega)⟩
theorem KeepB.cell {n₀ Bs : Nat} {W W' : World} (h : KeepB n₀ Bs W W') {o : Nat} {v : Value} (hc : W.cell? ⟨Bs, o, none⟩ = some v) : W'.cell? ⟨Bs, o, none⟩ = some v := (World.cell?_of_block h.2).trans hc
theorem KeepB.set_ {n₀ Bs : Nat} (W : World) {p : Addr} (h1 : n₀ ≤ p.block) (h2 : p.block ≠ Bs) (u : Value) : KeepB n₀ Bs W (W.setCell p u) :=
  ⟨(Below.refl _ _).setCell h1 _, Below.heap_setCell _ _ _ _ (by omega)⟩
end Go.Proofs.YtlahobdopmdfmaaDoor

/- Back -/
namespace Go.Proofs.YtlahobdopmdfmaaDoor
open Go.RowKit Go.Shelf

attribute [local go_sem] Oper.semAt_some

set_option maxRecDepth 100000 in
set_option maxHeartbeats 2000000 in
theorem back1_in {p : Int → Prop} (F : Fence) (n : Nat) (hF : F.fn 197) (hro : F.round = none) (hn : 1 ≤ n) (l Bs n₀ : Nat) (a : Option Addr) (cap : Nat) (zs : List Int) (hp : ∀ d ∈ zs, p d)
    (J Jx : List (Ent p) → World → Prop)
    (hY : ∀ pre x W, J pre W → pre.length < zs.length → YieldAt F (n - 1) Tryd.prog l #[.int .i64 (x.1 : Int), .int .i64 x.2.1] W fun e W' =>
      (e = .returned (.bool true) ∧ J (pre ++ [x]) W' ∧ KeepB n₀ Bs W W') ∨ (e = .returned (.bool false) ∧ Jx (pre ++ [x]) W'))
    (W : World) (hBs : W.cell? ⟨Bs, 0, none⟩ = some (.slice a zs.length cap)) (hR : Rd W a zs) (hRn : zs ≠ [] → ∀ b off, a = some ⟨b, off, none⟩ → b < n₀) (h0 : J [] W) :
    CallsIn F n Tryd.prog 197 #[.func (.yield l) #[] #[], .pointer (some ⟨Bs, 0, none⟩)] W fun e W' => (∃ v, e = .returned v) ∧
      ((∃ ys, ys = bwd zs hp zs.length ∧ J ys W') ∨ (∃ pre, (∃ k, k ≤ zs.length ∧ pre = bwd zs hp k) ∧ Jx pre W')) := by
  have hlen := hR.len
  refine callsIn_of_wp Tryd.func197 rfl hF ?_ hro
  simp only [Tryd.ntmps197, List.size_toArray, List.length_cons, List.length_nil, Nat.reduceAdd, Nat.reduceSub, Array.replicate_succ, Array.replicate_zero, List.push_toArray, List.append_toArray, List.nil_append, List.cons_append]
  gi_wp2
  gi_loopw [3] (fun i wr => ∃ (j k : Nat), k + j = zs.length ∧ i = .int .i64 ((j : Int) - 1) ∧ J (bwd zs hp k) wr ∧ KeepB n₀ Bs W wr) (fun i _ => (intOf i + 1).toNat)
  case atStart => exact ⟨zs.length, 0, by omega, by go_num, h0, KeepB.refl _ _ _⟩
  case round =>
    obtain ⟨j, k, hk, hi, hJs, hnx⟩ := hrel
    subst hi
    have hBr := hnx.cell hBs
    cases j with
    | zero =>
      have hkl : k = zs.length := by omega
      gi_wp2
      go_end0
      exact ⟨⟨_, rfl⟩, .inl ⟨_, rfl, by rw [← hkl]; exact hJs⟩⟩
    | succ j =>
      rw [show ((j + 1 : Nat) : Int) - 1 = (j : Int) from by omega]
      have hjl : j < zs.length := by omega
      obtain ⟨q, off, rfl, hc⟩ := hR.at_ hjl
      have hq : q < n₀ := hRn (by rintro rfl; simp at hjl) q off rfl
      have hcr := (hnx.1.cell (p := ⟨q, off + j, none⟩) hq).trans hc
      have hpj : p (nth zs j) := by rw [nth_get hjl]; exact hp _ (List.getElem_mem _)
      obtain ⟨fn, tmps, assign, body, hy, hYR⟩ := hY _ (j, ⟨nth zs j, hpj⟩) wr hJs (by rw [bwd_len (by omega)]; omega)
      dsimp only at hy
      have HK := Lib.hid hk
      clear hk
      gi_wp2
      refine hYR.mono ?_
      rintro e W3 (⟨rfl, hJ3, hk3⟩ | ⟨rfl, hJx3⟩)
      · gi_wp2
        go_roundw
        case rel => exact ⟨j, k + 1, by have := HK.out; omega, by go_num, by rw [bwd_step HK.out hpj]; exact hJ3, keepB_t hnx hk3⟩
        case measure => (simp [intOf]) <;> omega
      · gi_wp2
        refine bodyPost_ret (results_none rfl _ _ _) rfl ?_
        exact ⟨⟨_, rfl⟩, .inr ⟨_, ⟨k + 1, by have := HK.out; omega, (bwd_step HK.out hpj).symm⟩, hJx3⟩⟩

set_option maxHeartbeats 1000000 in
theorem backward_in (F : Fence) (n : Nat) (hF : F.fn 188) (hro : F.round = none) (a : Option Addr) (len cap : Nat) (w : World) :
    CallsIn F n Tryd.prog 188 #[.slice a len cap] w fun e w' => e = .returned (.func (.func 197) #[] #[.pointer (some ⟨w.heap.size, 0, none⟩)]) ∧ w' = w.alloc (.cells #[.slice a len cap] 161) := by
  refine callsIn_of_wp Tryd.func188 rfl hF ?_ hro
  simp only [Tryd.ntmps188, List.size_toArray, List.length_cons, List.length_nil, Nat.reduceAdd, Nat.reduceSub, Array.replicate_succ, Array.replicate_zero, List.push_toArray, List.append_toArray, List.nil_append, List.cons_append]
  gi_wp2
  go_ret
  exact ⟨rfl, rfl⟩

theorem backward_stops {p : Int → Prop} (F : Fence) (n : Nat) (hF : F.fn 197) (hro : F.round = none) (hn : 1 ≤ n) (Bs n₀ : Nat) (a : Option Addr) (cap : Nat) (zs : List Int) (hp : ∀ d ∈ zs, p d) (w : World) (hBs : Bs < w.heap.size)
    (hc : w.cell? ⟨Bs, 0, none⟩ = some (.slice a zs.length cap)) (hR : Rd w a zs) (hRn : zs ≠ [] → ∀ b off, a = some ⟨b, off, none⟩ → b < n₀) :
    SeqStopsK F n Tryd.prog 197 #[.pointer (some ⟨Bs, 0, none⟩)] (fun x : Ent p => #[Value.int .i64 (x.1 : Int), Value.int .i64 x.2.1]) (KeepB n₀ Bs) (fun ys => ys = bwd zs hp zs.length)
      (fun pre => ∃ k, k ≤ zs.length ∧ pre = bwd zs hp k) zs.length w := fun l J Jx W hW _ _ hY h0 =>
  back1_in F n hF hro hn l Bs n₀ a cap zs hp J Jx hY W ((hW.cell (p := ⟨Bs, 0, none⟩) hBs).trans hc) (hR.below hW) hRn h0
end Go.Proofs.YtlahobdopmdfmaaDoor

/- Value -/
namespace Go.Proofs.YtlahobdopmdfmaaDoor
open Go.RowKit Go.Shelf

attribute [local go_sem] Oper.semAt_some

/-- A digit of a base up to 16. -/
def isDig (b d : Int) : Prop := 0 ≤ d ∧ d < b

set_option maxRecDepth 100000 in
set_option maxHeartbeats 2000000 in
theorem value_in (F : Fence) (n : Nat) (hf : F.fn 172) (hf1 : F.fn 188) (hf2 : F.fn 197) (hro : F.round = none) (hn : 3 ≤ n)
    (b : Int) (a : Option Addr) (cap : Nat) (zs : List Int) (w : World) (hb1 : 2 ≤ b) (hb2 : b ≤ 16) (hd : ∀ d ∈ zs, isDig b d) (hR : Rd w a zs) :
    CallsIn F n Tryd.prog 172 #[.slice a zs.length cap, .int .i64 b] w fun e W' =>
      e = .returned (.tuple #[.int .i64 (valOr b zs), .bool (valOk b zs)]) ∧ Below w.heap.size w W' := by
  have h1 : 1 ≤ n := by omega
  refine callsIn_of_wp_marks Tryd.func172 rfl hf ?_ hro
  simp only [Tryd.ntmps172, List.size_toArray, List.length_cons, List.length_nil, Nat.reduceAdd, Nat.reduceSub, Array.replicate_succ, Array.replicate_zero, List.push_toArray, List.append_toArray, List.nil_append, List.cons_append]
  gi_wp2_with (gi_at_call 188; refine (backward_in F (n - 1) hf1 hro _ _ _ _).mono ?_; rintro e w' ⟨rfl, rfl⟩)
  obtain ⟨W0, hW0⟩ : ∃ W0, W0 = ((((w.alloc (.cells #[.int .i64 b] 2)).alloc (.cells #[.int .i64 0] 2)).alloc (.cells #[.bool false] 4)).alloc (.cells #[.int .i64 0] 2)).alloc (.cells #[.slice a zs.length cap] 161) := ⟨_, rfl⟩
  rw [← hW0]
  have bx0 : Bx W0 w.heap.size 2 #[.int .i64 b] := by rw [hW0]; exact ((((Bx.new _ _ _).alloc _).alloc _).alloc _).alloc _
  have bx1 : Bx W0 (w.heap.size + 1) 2 #[.int .i64 0] := by rw [hW0]; exact ((by simpa using Bx.new (w.alloc (.cells #[.int .i64 b] 2)) #[.int .i64 0] 2 : Bx _ (w.heap.size + 1) _ _).alloc _).alloc _ |>.alloc _
  have bx2 : Bx W0 (w.heap.size + 1 + 1) 4 #[.bool false] := by rw [hW0]; exact ((by simpa using Bx.new ((w.alloc (.cells #[.int .i64 b] 2)).alloc (.cells #[.int .i64 0] 2)) #[.bool false] 4 : Bx _ (w.heap.size + 1 + 1) _ _).alloc _).alloc _
  have bx3 : Bx W0 (w.heap.size + 1 + 1 + 1) 2 #[.int .i64 0] := by rw [hW0]; exact (by simpa using Bx.new (((w.alloc (.cells #[.int .i64 b] 2)).alloc (.cells #[.int .i64 0] 2)).alloc (.cells #[.bool false] 4)) #[.int .i64 0] 2 : Bx _ (w.heap.size + 1 + 1 + 1) _ _).alloc _
  have bx4 : Bx W0 (w.heap.size + 1 + 1 + 1 + 1) 161 #[.slice a zs.length cap] := by rw [hW0]; simpa using Bx.new ((((w.alloc (.cells #[.int .i64 b] 2)).alloc (.cells #[.int .i64 0] 2)).alloc (.cells #[.bool false] 4)).alloc (.cells #[.int .i64 0] 2)) #[.slice a zs.length cap] 161
  have hB0 : Below w.heap.size w W0 := by rw [hW0]; exact (by repeat (first | exact Below.refl _ _ | refine Below.setCell ?_ (by first | omega | (simp <;> omega)) _ | refine Below.alloc ?_ (by first | omega | (simp <;> omega)) _ | refine Below.drew ?_))
  have hsz : W0.heap.size = w.heap.size + 5 := by rw [hW0]; simp
  clear hW0
  refine wpIn_rangeFunc_ownF hro h1 (gf := 197) (lb := #[.pointer (some ⟨w.heap.size + 1 + 1 + 1 + 1, 0, none⟩)]) rfl hf2 (enters_of Tryd.func197 (by kernel_rfl) rfl)
    (backward_stops F (n - 1) hf2 hro (by omega) (w.heap.size + 1 + 1 + 1 + 1) w.heap.size a cap zs hd W0 (by omega) (bx4.at_ 0 rfl) (hR.below hB0) (fun hne b' off ha => by
      obtain ⟨b'', off', e, hc⟩ := hR.cells hne
      rw [ha] at e
      cases e
      exact World.block_lt_of_cell? _ _ (hc 0 (List.length_pos_iff.2 hne)))) keepB_t (keepB_b (by omega) (by omega)) (Below.refl _ _) (fun _ => rfl)
    (fun pre W => ((0 ≤ hor b pre ∧ hor b pre ≤ 1000000000000) ∧ W.cell? ⟨w.heap.size, 0, none⟩ = some (.int .i64 b) ∧ W.cell? ⟨w.heap.size + 1, 0, none⟩ = some (.int .i64 0) ∧ W.frozen? ⟨w.heap.size + 1, 0, none⟩ = false ∧ W.cell? ⟨w.heap.size + 1 + 1, 0, none⟩ = some (.bool false) ∧ W.frozen? ⟨w.heap.size + 1 + 1, 0, none⟩ = false ∧
        W.cell? ⟨w.heap.size + 1 + 1 + 1, 0, none⟩ = some (.int .i64 (hor b pre)) ∧ W.frozen? ⟨w.heap.size + 1 + 1 + 1, 0, none⟩ = false) ∧ Below w.heap.size w W)
    (fun c pre W => (c = .ret ∧ 1000000000000 < hor b pre ∧ W.cell? ⟨w.heap.size + 1, 0, none⟩ = some (.int .i64 0) ∧ W.cell? ⟨w.heap.size + 1 + 1, 0, none⟩ = some (.bool false)) ∧ Below w.heap.size w W)
    (OwnFrom.and (Own.from (fun s A B row hs hg hr => ⟨hs.1, cell_kept hs.2.1 hg hr, cell_kept hs.2.2.1 hg hr, (frozen_kept hs.2.2.1 hg hr).trans hs.2.2.2.1, cell_kept hs.2.2.2.2.1 hg hr, (frozen_kept hs.2.2.2.2.1 hg hr).trans hs.2.2.2.2.2.1, cell_kept hs.2.2.2.2.2.2.1 hg hr, (frozen_kept hs.2.2.2.2.2.2.1 hg hr).trans hs.2.2.2.2.2.2.2⟩) _) (ownFrom_below (Nat.le_refl _) (by omega)))
    (fun c => OwnFrom.and (Own.from (fun s A B row hs hg hr => ⟨hs.1, hs.2.1, cell_kept hs.2.2.1 hg hr, cell_kept hs.2.2.2 hg hr⟩) _) (ownFrom_below (Nat.le_refl _) (by omega)))
    ⟨⟨⟨by simp [hor], by simp [hor]⟩, bx0.at_ 0 rfl, bx1.at_ 0 rfl, bx1.thaw 0, bx2.at_ 0 rfl, bx2.thaw 0, by simpa [hor] using bx3.at_ 0 rfl, bx3.thaw 0⟩, hB0⟩
    (fun x => { tmps := #[.slice a zs.length cap, .int .i64 b, undef, .pointer (some ⟨w.heap.size, 0, none⟩), .pointer (some ⟨w.heap.size + 1, 0, none⟩), .pointer (some ⟨w.heap.size + 1 + 1, 0, none⟩), .pointer (some ⟨w.heap.size + 1 + 1 + 1, 0, none⟩), undef, .int .i64 x.2.1, .slice a zs.length cap,
        .func (.func 197) #[] #[.pointer (some ⟨w.heap.size + 1 + 1 + 1 + 1, 0, none⟩)], .int .i64 (x.1 : Int), .int .i64 x.2.1, undef, undef, undef, undef, undef, undef, undef, undef], defers := [] }) ?assign ?body ?done ?stop
  case assign =>
    intro l x W K hK
    gi_wp2
    exact hK
  case body =>
    rintro l pre x W ⟨⟨⟨hl1, hl2⟩, c0, c1, f1, c2, f2, c3, f3⟩, hB⟩ _
    obtain ⟨x1, x2, hx1, hx2⟩ := x
    have hm1 : 0 ≤ hor b pre * b := Int.mul_nonneg hl1 (by omega)
    have hm2 : hor b pre * b ≤ 1000000000000 * 16 := Int.mul_le_mul hl2 hb2 (by omega) (by omega)
    by_cases hc : hor b pre * b + x2 ≤ 1000000000000
    · gi_wp2
      exact ⟨KeepsOthers.setCell _ _ _, KeepB.set_ W (by simp <;> omega) (by simp) _, ⟨by rw [hor_snoc]; exact ⟨by simp <;> omega, hc⟩, cell_far c0 (by simp <;> omega) _, cell_far c1 (by simp <;> omega) _, thaw_set f1 _ _, cell_far c2 (by simp) _, thaw_set f2 _ _,
        by rw [hor_snoc]; exact cell_put c3 _, thaw_set f3 _ _⟩, hB.setCell (by simp <;> omega) _⟩
    · gi_wp2
      refine ⟨((KeepsOthers.setCell _ _ _).trans (KeepsOthers.setCell _ _ _)).trans (KeepsOthers.setCell _ _ _), ⟨rfl, by rw [hor_snoc]; show 1000000000000 < hor b pre * b + x2; omega, ?_, ?_⟩, (by repeat (first | exact hB | refine Below.setCell ?_ (by first | omega | (simp <;> omega)) _ | refine Below.alloc ?_ (by first | omega | (simp <;> omega)) _ | refine Below.drew ?_))⟩
      · exact cell_far (cell_put (cell_far c1 (by simp <;> omega) _) _) (by simp) _
      · exact cell_put (cell_far (cell_far c2 (by simp) _) (by simp) _) _
  case done =>
    rintro D ys W hD rfl ⟨⟨⟨hl1, hl2⟩, c0, c1, f1, c2, f2, c3, f3⟩, hB⟩ hK
    rw [hor_bwd b (Nat.le_refl _), Nat.sub_self, List.drop_zero] at hl1 hl2 c3
    have HO := Lib.hid (valOr_le hl2)
    have HK := Lib.hid (valOk_le hl2)
    gi_wp2
    have hK' := (((KeepsOthers.setCell W ⟨w.heap.size + 1, 0, none⟩ (.int .i64 (valR b zs))).trans (KeepsOthers.setCell _ ⟨w.heap.size + 1 + 1, 0, none⟩ (.bool true)))).same D _ hK rfl
    refine ⟨by simp, .inl ⟨_, _, rfl, run_takeDeferred hK', ?_⟩⟩
    have r1 := cell_kept (cell_far (cell_put c1 (.int .i64 (valR b zs))) (p := ⟨w.heap.size + 1 + 1, 0, none⟩) (by simp) (.bool true)) (grownBy_putObj' _ D (.deferred none)) (fun r e => by cases e; exact ⟨_, hK', rfl⟩)
    have r2 := cell_kept (cell_put (cell_far c2 (p := ⟨w.heap.size + 1, 0, none⟩) (by simp) (.int .i64 (valR b zs))) (.bool true)) (grownBy_putObj' _ D (.deferred none)) (fun r e => by cases e; exact ⟨_, hK', rfl⟩)
    refine ⟨.tuple #[.int .i64 (valR b zs), .bool true], ?_, by rw [HO.out, HK.out], ((hB.setCell (p := ⟨w.heap.size + 1, 0, none⟩) (by simp) _).setCell (p := ⟨w.heap.size + 1 + 1, 0, none⟩) (by simp <;> omega) _).trans (belowK_b (w := w) (Nat.le_refl _) _ D _ _ (by omega) hK' rfl rfl)⟩
    simp [results, Tryd.f172, go_sem, r1, r2]
  case stop =>
    rintro D c pre W hD ⟨k, hk, rfl⟩ ⟨⟨rfl, hlt, c1, c2⟩, hB⟩ hK
    rw [hor_bwd b hk] at hlt
    have hgt := Int.lt_of_lt_of_le hlt (valR_drop_le (by omega : 1 ≤ b) zs (zs.length - k) hd)
    have HO := Lib.hid (valOr_gt hgt)
    have HK := Lib.hid (valOk_gt hgt)
    gi_wp2
    refine ⟨by simp, .inl ⟨_, _, rfl, run_takeDeferred hK, ?_⟩⟩
    have r1 := cell_kept c1 (grownBy_putObj' _ D (.deferred none)) (fun r e => by cases e; exact ⟨_, hK, rfl⟩)
    have r2 := cell_kept c2 (grownBy_putObj' _ D (.deferred none)) (fun r e => by cases e; exact ⟨_, hK, rfl⟩)
    refine ⟨.tuple #[.int .i64 0, .bool false], ?_, by rw [HO.out, HK.out], hB.trans (belowK_b (w := w) (Nat.le_refl _) W D _ _ (by omega) hK rfl rfl)⟩
    simp [results, Tryd.f172, go_sem, r1, r2]

theorem value_any (b : Int) (a : Option Addr) (cap : Nat) (zs : List Int) (w : World) (hb1 : 2 ≤ b) (hb2 : b ≤ 16) (hd : ∀ d ∈ zs, 0 ≤ d ∧ d < b) (hR : Rd w a zs) :
    Calls Tryd.prog 172 #[.slice a zs.length cap, .int .i64 b] w fun e W' =>
      e = .returned (.tuple #[.int .i64 (valOr b zs), .bool (valOk b zs)]) ∧ Below w.heap.size w W' :=
  callsIn_wide.1 (value_in Fence.wide 3 trivial trivial trivial rfl (Nat.le_refl _) b a cap zs w hb1 hb2 hd hR)
end Go.Proofs.YtlahobdopmdfmaaDoor

/- OkS -/
namespace Go.Proofs.YtlahobdopmdfmaaDoor
open Go.RowKit

set_option maxHeartbeats 400000 in
theorem l02Base_any (b : Int) (w : World) : Calls Tryd.prog 133 #[.int .i64 b] w fun e w' => e = .returned (.bool (baseB b)) ∧ w' = w := by
  cases hb : baseB b with
  | true =>
    obtain ⟨h1, h2⟩ := baseB_true hb
    have HB := Lib.hid hb
    clear hb
    go_enter Tryd.func133, Tryd.ntmps133
    go_wp2
    go_ret
    exact ⟨ret_bool (by simp []), rfl⟩
  | false =>
    have HB := Lib.hid hb
    rcases baseB_false hb with h1 | ⟨h1, h2⟩
    all_goals
      clear hb
      go_enter Tryd.func133, Tryd.ntmps133
      go_wp2
      go_ret
      exact ⟨ret_bool (by simp <;> omega), rfl⟩

set_option maxHeartbeats 400000 in
theorem l02Digits_any (b : Int) (a : Option Addr) (c : Nat) (zs : List Int) (w : World) (ha : Rd w a zs) (hb1 : 2 ≤ b) (hb2 : b ≤ 16) :
    Calls Tryd.prog 157 #[.int .i64 b, .slice a zs.length c] w fun e w' => e = .returned (.bool (digitsB b zs && widthB zs.length)) ∧ w' = w := by
  have hx := ha.len
  go_enter Tryd.func157, Tryd.ntmps157
  go_wp2
  go_loop [5] (fun i => ∃ k : Nat, k ≤ zs.length ∧ i = .int .i64 k ∧ Hid (∀ d ∈ zs.take k, 0 ≤ d ∧ d < b)) (fun i => zs.length - (intOf i).toNat)
  case atStart => exact ⟨0, Nat.zero_le _, rfl, Lib.hid (by simp)⟩
  case round =>
    obtain ⟨k, hk, rfl, HT⟩ := hrel
    by_cases hlt : k < zs.length
    · obtain ⟨p, off, rfl, hc⟩ := ha.at_ hlt
      by_cases hd : 0 ≤ nth zs k ∧ nth zs k < b
      · obtain ⟨hd1, hd2⟩ := hd
        have hd3 : decide (nth zs k ≤ b - 1) = true := decide_eq_true (by omega)
        go_wp2
        go_round
        case rel => exact ⟨k + 1, by omega, by go_num, Lib.hid (all_take_succ (p := fun d => 0 ≤ d ∧ d < b) hlt HT.out ⟨hd1, hd2⟩)⟩
        case measure => (simp [intOf]) <;> omega
      · have hf : digitsB b zs = false := by
          cases h : digitsB b zs with
          | false => rfl
          | true => exact absurd (digitsB_nth h hlt) hd
        have HF := Lib.hid hf
        have hd' : nth zs k < 0 ∨ (0 ≤ nth zs k ∧ b - 1 < nth zs k) := by omega
        clear hf hd
        rcases hd' with h1 | ⟨h1, h2⟩
        all_goals
          try have hd3 : decide (nth zs k ≤ b - 1) = false := decide_eq_false (by omega)
          go_wp2
          go_ret
          exact ⟨ret_bool (by rw [HF.out]; rfl), rfl⟩
    · obtain rfl : k = zs.length := by omega
      have ht : digitsB b zs = true := by
        rw [digitsB, decide_eq_true_eq]
        have := HT.out
        rwa [List.take_of_length_le (Nat.le_refl _)] at this
      have HD := Lib.hid ht
      clear ht
      cases hw : widthB zs.length with
      | true =>
        obtain ⟨h1, h2⟩ := widthB_true hw
        have HW := Lib.hid hw
        clear hw
        go_wp2
        go_ret
        exact ⟨ret_bool (by rw [HD.out, HW.out]; simp <;> omega), rfl⟩
      | false =>
        have HW := Lib.hid hw
        rcases widthB_false hw with h1 | h1
        all_goals
          clear hw
          go_wp2
          go_ret
          exact ⟨ret_bool (by rw [HD.out, HW.out]; simp <;> omega), rfl⟩

set_option maxHeartbeats 400000 in
theorem l02Value_any (b : Int) (a : Option Addr) (c : Nat) (zs : List Int) (w : World) (ha : Rd w a zs) (hb1 : 2 ≤ b) (hb2 : b ≤ 16) (hd : ∀ d ∈ zs, 0 ≤ d ∧ d < b) :
    Calls Tryd.prog 97 #[.int .i64 b, .slice a zs.length c] w fun e w' => e = .returned (.int .i64 (capV b zs)) ∧ w' = w := by
  have hx := ha.len
  have HD := Lib.hid hd
  clear hd
  go_enter Tryd.func97, Tryd.ntmps97
  go_wp2
  go_loop [5, 6] (fun s i => ∃ k : Nat, k ≤ zs.length ∧ i = .int .i64 ((k : Int) - 1) ∧ s = .int .i64 (capV b (zs.drop k))) (fun _ i => (intOf i + 1).toNat)
  case atStart => exact ⟨zs.length, Nat.le_refl _, by go_num, by simp [capV]⟩
  case round =>
    obtain ⟨k, hk, hi, rfl⟩ := hrel
    cases k with
    | zero =>
      subst hi
      go_wp2
      go_ret
      exact ⟨rfl, rfl⟩
    | succ k =>
      subst hi
      rw [show ((k + 1 : Nat) : Int) - 1 = (k : Int) from by omega]
      obtain ⟨p, off, rfl, hc⟩ := ha.at_ (k := k) (by omega)
      have hcb := capV_bd hb1 (all_drop HD.out (k + 1))
      have hdn := HD.out (nth zs k) (by rw [nth_get (by omega)]; exact List.getElem_mem _)
      have hstep : capV b (zs.drop k) = if 1000000000001 < capV b (zs.drop (k + 1)) * b + nth zs k then 1000000000001 else capV b (zs.drop (k + 1)) * b + nth zs k := by rw [drop_nth (by omega)]; rfl
      have hm1 : 0 ≤ capV b (zs.drop (k + 1)) * b := Int.mul_nonneg hcb.1 (by omega)
      have hm2 : capV b (zs.drop (k + 1)) * b ≤ 1000000000001 * 16 := Int.mul_le_mul hcb.2 hb2 (by omega) (by omega)
      by_cases hc1 : 1000000000001 < capV b (zs.drop (k + 1)) * b + nth zs k
      · rw [if_pos hc1] at hstep
        have HS := Lib.hid hstep
        clear hstep
        go_wp2
        go_round
        case rel => exact ⟨k, by omega, by go_num, by rw [HS.out]; rfl⟩
        case measure => (simp [intOf]) <;> omega
      · rw [if_neg hc1] at hstep
        have HS := Lib.hid hstep
        clear hstep
        go_wp2
        go_round
        case rel => exact ⟨k, by omega, by go_num, by rw [HS.out]; rfl⟩
        case measure => (simp [intOf]) <;> omega

set_option maxHeartbeats 1000000 in
theorem l02Ok_any (p : Nat) (b : Int) (a : Option Addr) (c : Nat) (zs : List Int) (w : World) (ha : Rd w a zs) (hp0 : w.cell? ⟨p, 0, none⟩ = some (.int .i64 b)) (hp1 : w.cell? ⟨p, 1, none⟩ = some (.slice a zs.length c)) :
    Calls Tryd.prog 96 #[.pointer (some ⟨p, 0, none⟩)] w fun e w' => e = .returned (.bool (okB b zs)) ∧ ∃ n, w' = w.drewN n := by
  cases hb : baseB b with
  | false =>
    have HO := Lib.hid (show okB b zs = false by simp [okB, hb])
    have HB := Lib.hid (show ∀ n, Calls Tryd.prog 133 #[.int .i64 b] (w.drewN n) fun e w' => e = .returned (.bool false) ∧ w' = w.drewN n from fun n => by rw [← hb]; exact l02Base_any b _)
    clear hb
    go_enter Tryd.func96, Tryd.ntmps96
    go_wp2
    go_quiet ((go_at_call 133; exact Calls.quiet_of_same (HB.out _)))
    go_wp2
    go_ret
    exact ⟨ret_bool (by rw [HO.out]), _, rfl⟩
  | true =>
    obtain ⟨hb1, hb2⟩ := baseB_true hb
    have HB := Lib.hid (show ∀ n, Calls Tryd.prog 133 #[.int .i64 b] (w.drewN n) fun e w' => e = .returned (.bool true) ∧ w' = w.drewN n from fun n => by rw [← hb]; exact l02Base_any b _)
    cases hd : digitsB b zs && widthB zs.length with
    | false =>
      have HO := Lib.hid (show okB b zs = false by simp at hd; simp [okB, hb]; intro h1 h2; rw [hd h2] at h1; cases h1)
      have HD2 := Lib.hid (show ∀ n, Calls Tryd.prog 157 #[.int .i64 b, .slice a zs.length c] (w.drewN n) fun e w' => e = .returned (.bool false) ∧ w' = w.drewN n from fun n => by rw [← hd]; exact l02Digits_any b a c zs _ (ha.drewN _) hb1 hb2)
      clear hb hd
      go_enter Tryd.func96, Tryd.ntmps96
      go_wp2
      go_quiet (first | (go_at_call 133; exact Calls.quiet_of_same (HB.out _)) | (go_at_call 157; exact Calls.quiet_of_same (HD2.out _)))
      go_wp2
      go_ret
      exact ⟨ret_bool (by rw [HO.out]), _, rfl⟩
    | true =>
      have HD : ∀ d ∈ zs, 0 ≤ d ∧ d < b := digitsB_true (by simp at hd; exact hd.1)
      have HO := Lib.hid (show okB b zs = decide (capV b zs ≤ 1000000000000) by simp at hd; simp [okB, hb, hd, capV_le hb1 HD])
      have HE := Lib.hid HD
      have HD2 := Lib.hid (show ∀ n, Calls Tryd.prog 157 #[.int .i64 b, .slice a zs.length c] (w.drewN n) fun e w' => e = .returned (.bool true) ∧ w' = w.drewN n from fun n => by rw [← hd]; exact l02Digits_any b a c zs _ (ha.drewN _) hb1 hb2)
      clear HD hb hd
      cases hv : decide (capV b zs ≤ 1000000000000)
      all_goals
        rw [hv] at HO
        go_enter Tryd.func96, Tryd.ntmps96
        go_wp2
        go_quiet (first | (go_at_call 133; exact Calls.quiet_of_same (HB.out _)) | (go_at_call 157; exact Calls.quiet_of_same (HD2.out _)) | (go_at_call 97; exact Calls.quiet_of_same (l02Value_any _ _ _ _ _ (ha.drewN _) hb1 hb2 HE.out)))
        go_wp2
        go_ret
        exact ⟨ret_bool (by rw [HO.out]), _, rfl⟩
end Go.Proofs.YtlahobdopmdfmaaDoor

/- OkI -/
namespace Go.Proofs.YtlahobdopmdfmaaDoor
open Go.RowKit

set_option maxHeartbeats 400000 in
theorem areBelow_any (b : Int) (a : Option Addr) (c : Nat) (zs : List Int) (w : World) (ha : Rd w a zs) :
    Calls Tryd.prog 171 #[.slice a zs.length c, .int .i64 b] w fun e w' => e = .returned (.bool (digitsB b zs)) ∧ w' = w := by
  have hx := ha.len
  go_enter Tryd.func171, Tryd.ntmps171
  go_wp2
  go_loop [6, 9] (fun _ i => ∃ k : Nat, k ≤ zs.length ∧ i = .int .i64 k ∧ Hid (∀ d ∈ zs.take k, 0 ≤ d ∧ d < b)) (fun _ i => zs.length - (intOf i).toNat)
  case atStart => exact ⟨0, Nat.zero_le _, rfl, Lib.hid (by simp)⟩
  case round =>
    obtain ⟨k, hk, rfl, HT⟩ := hrel
    by_cases hlt : k < zs.length
    · obtain ⟨p, off, rfl, hc⟩ := ha.at_ hlt
      by_cases hd : 0 ≤ nth zs k ∧ nth zs k < b
      · obtain ⟨hd1, hd2⟩ := hd
        go_wp2
        go_round
        case rel => exact ⟨k + 1, by omega, by go_num, Lib.hid (all_take_succ (p := fun d => 0 ≤ d ∧ d < b) hlt HT.out ⟨hd1, hd2⟩)⟩
        case measure => (simp [intOf]) <;> omega
      · have hf : digitsB b zs = false := by
          cases h : digitsB b zs with
          | false => rfl
          | true => exact absurd (digitsB_nth h hlt) hd
        have HF := Lib.hid hf
        have hd' : nth zs k < 0 ∨ (0 ≤ nth zs k ∧ b ≤ nth zs k) := by omega
        clear hf hd
        rcases hd' with h1 | ⟨h1, h2⟩
        all_goals
          go_wp2
          go_ret
          exact ⟨ret_bool HF.out.symm, rfl⟩
    · obtain rfl : k = zs.length := by omega
      have HD := Lib.hid (show digitsB b zs = true by
        rw [digitsB, decide_eq_true_eq]
        have := HT.out
        rwa [List.take_of_length_le (Nat.le_refl _)] at this)
      go_wp2
      go_ret
      exact ⟨ret_bool HD.out.symm, rfl⟩

set_option maxHeartbeats 1000000 in
theorem implValidRegister (xB : Int) (xA : Option Addr) (xC : Nat) (xZ : List Int) (w : World) (ha : Rd w xA xZ) (_ : All64 xZ) (_ : I64 xB) :
    Calls Tryd.prog 131 #[.agg #[.int .i64 xB, .slice xA xZ.length xC]] w fun e w' => e = .returned (.bool (okB xB xZ)) ∧ Below w.heap.size w w' := by
  have hx := ha.len
  have hbel : Below w.heap.size w (w.alloc (.cells #[.int .i64 xB, .slice xA xZ.length xC] 26)) := (Below.refl _ _).alloc (Nat.le_refl _) _
  cases hb : baseB xB with
  | false =>
    have HO := Lib.hid (show okB xB xZ = false by simp [okB, hb])
    rcases baseB_false hb with h1 | ⟨h1, h2⟩
    all_goals
      clear hb
      go_enter Tryd.func131, Tryd.ntmps131
      go_wp2
      go_ret
      exact ⟨ret_bool HO.out.symm, hbel⟩
  | true =>
    obtain ⟨hb1, hb2⟩ := baseB_true hb
    cases hw : widthB xZ.length with
    | false =>
      have HO := Lib.hid (show okB xB xZ = false by simp [okB, hw])
      rcases widthB_false hw with h1 | h1
      all_goals
        clear hb hw
        go_enter Tryd.func131, Tryd.ntmps131
        go_wp2
        go_ret
        exact ⟨ret_bool HO.out.symm, hbel⟩
    | true =>
      obtain ⟨hw1, hw2⟩ := widthB_true hw
      have HA := Lib.hid (areBelow_any xB xA xC xZ _ (ha.below hbel))
      cases hd : digitsB xB xZ with
      | false =>
        have HO := Lib.hid (show okB xB xZ = false by simp [okB, hd])
        rw [hd] at HA
        clear hb hw hd
        go_enter Tryd.func131, Tryd.ntmps131
        go_wp2_with (first | (go_at_call 171; refine HA.out.mono ?_; rintro e w1 ⟨rfl, rfl⟩) | go_in)
        go_ret
        exact ⟨ret_bool HO.out.symm, hbel⟩
      | true =>
        have HD := Lib.hid (digitsB_true hd)
        have HO := Lib.hid (show okB xB xZ = valOk xB xZ by simp [okB, hb, hw, hd, valOk])
        rw [hd] at HA
        clear hb hw hd
        go_enter Tryd.func131, Tryd.ntmps131
        go_wp2_with (first | (go_at_call 171; refine HA.out.mono ?_; rintro e w1 ⟨rfl, rfl⟩) | (go_at_call 172; refine (value_any xB xA xC xZ _ hb1 hb2 HD.out (ha.below hbel)).mono ?_; rintro e w2 ⟨rfl, hb3⟩) | go_in)
        go_ret
        exact ⟨ret_bool HO.out.symm, hbel.trans (hb3.mono hbel.size)⟩

end Go.Proofs.YtlahobdopmdfmaaDoor

/- PairI -/
namespace Go.Proofs.YtlahobdopmdfmaaDoor
open Go.RowKit

end Go.Proofs.YtlahobdopmdfmaaDoor

/- TwoS -/
namespace Go.Proofs.YtlahobdopmdfmaaDoor
open Go.RowKit

theorem l02Ok_at {v : Bool} (p : Nat) (b : Int) (a : Option Addr) (c : Nat) (zs : List Int) (w : World) (n : Nat) (hv : okB b zs = v) (ha : Rd w a zs) (hp0 : w.cell? ⟨p, 0, none⟩ = some (.int .i64 b)) (hp1 : w.cell? ⟨p, 1, none⟩ = some (.slice a zs.length c)) :
    Calls Tryd.prog 96 #[.pointer (some ⟨p, 0, none⟩)] (w.drewN n) fun e w' => e = .returned (.bool v) ∧ ∃ m, w' = w.drewN m := by
  subst hv
  exact (l02Ok_any p b a c zs (w.drewN n) (ha.drewN n) hp0 hp1).mono fun e w' ⟨h1, m, h2⟩ => ⟨h1, n + m, by rw [h2, drewN_drewN]⟩
theorem l02Ok_at0 {v : Bool} (p : Nat) (b : Int) (a : Option Addr) (c : Nat) (zs : List Int) (w : World) (hv : okB b zs = v) (ha : Rd w a zs) (hp0 : w.cell? ⟨p, 0, none⟩ = some (.int .i64 b)) (hp1 : w.cell? ⟨p, 1, none⟩ = some (.slice a zs.length c)) :
    Calls Tryd.prog 96 #[.pointer (some ⟨p, 0, none⟩)] w fun e w' => e = .returned (.bool v) ∧ ∃ m, w' = w.drewN m := by
  subst hv; exact l02Ok_any p b a c zs w ha hp0 hp1

end Go.Proofs.YtlahobdopmdfmaaDoor

/- App -/
namespace Go.Proofs.YtlahobdopmdfmaaDoor
open Go.RowKit

section
variable {P : Program} {ops : Array Oper} {rest : List Oper} {o : Oper} {a : Act} {Q : Exit → Act → World → Prop} {w : World}

/-- One cell more, appended to a row of the call's own. -/
theorem wp_app1 {K : Act → World → Prop} (s x : Operand) (t e : TypeId) (ho : o.op = .call { callee := .builtin .append, args := #[s, x], argTypes := #[t, t] }) (z0 : Value) (bytes : Nat)
    (ht : P.underlying t = some (.slice e)) (hinfo : (P.info? e).map (fun i => (i.zero, i.size, i.bytes)) = some (some z0, 1, bytes)) (hz1 : z0.cells.size = 1) (hby : bytes ≤ 64) {lo hi n : Nat} {A : Option Addr} {C : Nat} {cs : List Value}
    (hs : a.eval s = .slice A n C) (row : w.ownsRow lo e 1 (.slice A n C) n cs) (top : ∀ k, (Value.slice A n C).ownBlock = some k → k < hi)
    (ad : Addr) (c : Nat) (u : Value) (hx : a.eval x = .slice (some ad) 1 c) (hc : w.cell? (ad.add 0) = some u) (h1 : u.oneCell' = true) (hn : n ≤ 2000000000) (hlo : lo ≤ w.heap.size)
    (h : ∀ A' C' w', w'.ownsRow lo e 1 (.slice A' (n + 1) C') (n + 1) (cs ++ [u]) → (∀ k, (Value.slice A' (n + 1) C').ownBlock = some k → k < w'.heap.size) → Touch lo hi w w' → K (a.put o.dst (.slice A' (n + 1) C')) w') :
    o.wp P a w K Q := by
  obtain ⟨i, hi1, hi2, hi3, hi4⟩ := info_parts hinfo
  refine wp_append_own w s x t ho lo e i z0 1 bytes ht hi1 hi2 hi3 hi4 hz1 (by omega) _ n cs hs row ad 1 c [u] hx rfl ?_ (by simpa using h1) (by unfold maxLen; omega) ?_ hlo ?_
  · intro j v hj
    match j, hj with
    | 0, hj => simp at hj; subst hj; exact hc
  · have : (n + 1) * bytes ≤ 2000000001 * 64 := Nat.mul_le_mul (by omega) hby
    omega
  · intro v' w' hown hg _
    have hT : Touch lo hi w w' := ⟨hg.os, hg.tape, hg.output, hg.size, fun k hk ho' => hg.block k hk (by
      intro he
      have h2 := top k he.symm
      have h3 := (row.lt k he.symm).1
      omega)⟩
    have hform : ∃ A' C', v' = .slice A' (n + 1) C' := by
      rcases hown.2 with ⟨_, h0⟩ | ⟨g, cap, cur, hv, _⟩
      · omega
      · exact ⟨_, _, hv⟩
    obtain ⟨A', C', rfl⟩ := hform
    exact h A' C' w' hown (fun k hk => (hown.lt k hk).2) hT

/-- The same for numbers. -/
theorem wp_appI {K : Act → World → Prop} (s x : Operand) (t e : TypeId) (ho : o.op = .call { callee := .builtin .append, args := #[s, x], argTypes := #[t, t] })
    (ht : P.underlying t = some (.slice e)) (hinfo : (P.info? e).map (fun i => (i.zero, i.size, i.bytes)) = some (some (.int .i64 0), 1, 8)) {lo hi n : Nat} {A : Option Addr} {C : Nat} {zs : List Int}
    (hs : a.eval s = .slice A n C) (hown : Own e w lo hi (.slice A n C) zs) (hl : zs.length = n)
    (ad : Addr) (c : Nat) (z : Int) (hx : a.eval x = .slice (some ad) 1 c) (hc : w.cell? (ad.add 0) = some (.int .i64 z)) (hn : n < 1000000000) (hlo : lo ≤ w.heap.size)
    (h : ∀ A' C' w', Own e w' lo w'.heap.size (.slice A' (n + 1) C') (zs ++ [z]) → Touch lo hi w w' → K (a.put o.dst (.slice A' (n + 1) C')) w') :
    o.wp P a w K Q :=
  wp_app1 s x t e ho _ 8 ht hinfo rfl (by omega) hs (by have := hown.row; rwa [hl] at this) hown.top ad c _ hx hc rfl (by omega) hlo fun A' C' w' hr ht' hT =>
    h A' C' w' ⟨by simpa [hl] using hr, ht', by simp; omega⟩ hT

theorem wpList_appI (hgd : o.guard = none) (s x : Operand) (t e : TypeId) (ho : o.op = .call { callee := .builtin .append, args := #[s, x], argTypes := #[t, t] })
    (ht : P.underlying t = some (.slice e)) (hinfo : (P.info? e).map (fun i => (i.zero, i.size, i.bytes)) = some (some (.int .i64 0), 1, 8)) {lo hi n : Nat} {A : Option Addr} {C : Nat} {zs : List Int}
    (hs : a.eval s = .slice A n C) (hown : Own e w lo hi (.slice A n C) zs) (hl : zs.length = n)
    (ad : Addr) (c : Nat) (z : Int) (hx : a.eval x = .slice (some ad) 1 c) (hc : w.cell? (ad.add 0) = some (.int .i64 z)) (hn : n < 1000000000) (hlo : lo ≤ w.heap.size)
    (h : ∀ A' C' w', Own e w' lo w'.heap.size (.slice A' (n + 1) C') (zs ++ [z]) → Touch lo hi w w' → wpList P ops Q rest (a.put o.dst (.slice A' (n + 1) C')) w') :
    wpList P ops Q (o :: rest) a w :=
  wpList_plain hgd fun _ hK => wp_appI s x t e ho ht hinfo hs hown hl ad c z hx hc hn hlo fun A' C' w' h1 h2 => hK _ _ (h A' C' w' h1 h2)
end

theorem own_nil (e : TypeId) (w : World) (lo hi : Nat) : Own e w lo hi (.slice none 0 0) [] := ⟨World.ownsRow_nil _ _ _ _, by simp [Value.ownBlock], by simp⟩

section
variable {t : TypeId} {w : World} {lo hi g n c : Nat} {zs : List Int}
theorem Own.get (h : Own t w lo hi (.slice (some ⟨g, 0, none⟩) n c) zs) {j : Nat} (hj : j < zs.length) : w.cell? ⟨g, j, none⟩ = some (.int .i64 (nth zs j)) := by
  have hn : n = zs.length := by
    rcases h.row.2 with ⟨h0, _⟩ | ⟨_, _, _, hv, _⟩
    · cases h0
    · injection hv
  subst hn
  rw [h.row.cellAt j (by omega), List.getElem?_map, List.getElem?_eq_getElem hj, nth_get hj]
  rfl
theorem Own.thaw (h : Own t w lo hi (.slice (some ⟨g, 0, none⟩) n c) zs) (j : Nat) : w.frozen? ⟨g, j, none⟩ = false := by
  have hn : n = zs.length := by
    rcases h.row.2 with ⟨h0, _⟩ | ⟨_, _, _, hv, _⟩
    · cases h0
    · injection hv
  subst hn
  exact h.row.frozenAt j
theorem Own.put (h : Own t w lo hi (.slice (some ⟨g, 0, none⟩) n c) zs) (j : Nat) (z : Int) : Own t (w.setCell ⟨g, j, none⟩ (.int .i64 z)) lo hi (.slice (some ⟨g, 0, none⟩) n c) (zs.set j z) := by
  have hn : n = zs.length := by
    rcases h.row.2 with ⟨h0, _⟩ | ⟨_, _, _, hv, _⟩
    · cases h0
    · injection hv
  subst hn
  have hs := (h.row.stored j (.int .i64 z)).1
  rw [← List.map_set] at hs
  exact ⟨by simpa using hs, h.top, by simpa using h.len⟩
theorem Own.block (h : Own t w lo hi (.slice (some ⟨g, 0, none⟩) n c) zs) : lo ≤ g ∧ g < hi ∧ g < w.heap.size := h.lo_le rfl
end

/-- Numbers with noughts behind them, up to n. -/
def pad (n : Nat) (zs : List Int) : List Int := zs ++ List.replicate (n - zs.length) 0
theorem pad_len {n : Nat} {zs : List Int} (h : zs.length ≤ n) : (pad n zs).length = n := by simp [pad]; omega
theorem pad_nil (n : Nat) : pad n [] = List.replicate n 0 := by simp [pad]
theorem pad_set {n : Nat} {zs : List Int} (h : zs.length < n) (z : Int) : (pad n zs).set zs.length z = pad n (zs ++ [z]) := by
  unfold pad
  rw [List.set_append_right _ _ (Nat.le_refl _), Nat.sub_self]
  have : n - zs.length = (n - (zs ++ [z]).length) + 1 := by simp; omega
  rw [this, List.replicate_succ, List.set_cons_zero, List.append_assoc, List.singleton_append]
theorem pad_all {n : Nat} {zs : List Int} (h : zs.length = n) : pad n zs = zs := by simp [pad, h]

/-- make([]int64, n). -/
theorem wpList_makeI {P : Program} {w : World} {ops : Array Oper} {rest : List Oper} {o : Oper} {a : Act} {Q : Exit → Act → World → Prop}
    (hg : o.guard = none) (l c : Operand) (t e : TypeId) (hop : o.op = Op.makeSlice t l c) (h1 : P.underlying t = some (.slice e))
    (hinfo : (P.info? e).map (fun i => (i.zero, i.size, i.bytes)) = some (some (.int .i64 0), 1, 8))
    (n : Nat) (hl : a.eval l = .int .i64 n) (hc : a.eval c = .int .i64 n) (hn : n ≤ 1000000000)
    (hK : ∀ w', Own e w' w.heap.size w'.heap.size (.slice (some ⟨w.heap.size, 0, none⟩) n n) (pad n []) → Below w.heap.size w w' → wpList P ops Q rest (a.put o.dst (.slice (some ⟨w.heap.size, 0, none⟩) n n)) w') :
    wpList P ops Q (o :: rest) a w := by
  obtain ⟨i, hi1, hi2, hi3, hi4⟩ := info_parts hinfo
  refine wpList_make_full w hg l c t hop w.heap.size e i _ 1 h1 hi1 hi2 hi3 .i64 .i64 n n n hl hc rfl rfl (by rw [hi4]; omega) (by unfold maxLen; omega) (Nat.le_refl _) fun w' hown hgr => ?_
  have hrow : w'.ownsRow w.heap.size e 1 (.slice (some ⟨w.heap.size, 0, none⟩) n n) (pad n []).length ((pad n []).map (Value.int .i64)) := by
    rw [pad_len (by simp)]
    simpa [pad_nil, toList_madeCells_one, Value.cells] using hown
  exact hK w' ⟨hrow, fun k hk => (hown.lt k hk).2, by rw [pad_len (by simp)]; exact hn⟩ ((Below.refl _ _).grown hgr (Nat.le_refl _) (by simp))
end Go.Proofs.YtlahobdopmdfmaaDoor

/- Ord -/
namespace Go.Proofs.YtlahobdopmdfmaaDoor
open Go

section
variable {P : Program} {ops : Array Oper} {Q : Exit → Act → World → Prop} {md : Region.Mode} {S : World → Prop} {m : Nat}

/-- Whatever order is picked from here on; behind each operation the condition holds, or the marked operation has come up. -/
def wpAnyM (P : Program) (md : Region.Mode) (ops : Array Oper) (Q : Exit → Act → World → Prop) (S : World → Prop) (m : Nat) : Nat → Array Bool → Act → World → Prop
  | 0, listed, a, w => Region.ready md ops listed = [] ∧ Q .normal a w
  | fuel + 1, listed, a, w =>
    (Region.ready md ops listed = [] → Q .normal a w) ∧
    ∀ i ∈ Region.ready md ops listed, wpOp P ops Q i (fun a' w' => ((listed.setIfInBounds i true).getD m true = true ∨ S w') ∧ wpAnyM P md ops Q S m fuel (listed.setIfInBounds i true) a' w') a w

theorem wpAny_of_marked : ∀ (fuel : Nat) (listed : Array Bool) (a : Act) (w : World), wpAnyM P md ops Q S m fuel listed a w → wpAny P md ops Q fuel listed a w
  | 0, _, _, _, h => h
  | fuel + 1, _, _, _, h => ⟨h.1, fun i hi => wpOp_mono (fun a' w' h' => wpAny_of_marked fuel _ a' w' h'.2) (h.2 i hi)⟩

theorem wpAnyM_first {i : Nat} {oi om : Oper} {v : Value} (hi : ops[i]? = some oi) (hsel : ∀ (j : Nat) (o : Oper) cs b, ops[j]? = some o → o.op ≠ .select cs b)
    (hQ : ∀ c a w, Q (.panic c) (a.put oi.dst v) w → Q (.panic c) a w) (hom : ops[m]? = some om) (hwait : ∃ e ∈ om.after, Region.binds md e = true ∧ e.on = i) :
    ∀ (fuel : Nat) (listed : Array Bool) (a : Act) (w : World),
      (∀ j oj, ops[j]? = some oj → j ≠ i → listed.getD j true = false → (∀ e ∈ oj.after, Region.binds md e = true → e.on ≠ i) → oi.apart ops oj = true) →
      i ∈ Region.ready md ops listed → listed.getD m true = false → YieldsIf P ops S oi v a → S w →
      wpAnyM P md ops Q S m fuel (listed.setIfInBounds i true) (a.put oi.dst v) w → wpAnyM P md ops Q S m (fuel + 1) listed a w := by
  intro fuel
  induction fuel with
  | zero =>
    intro listed a w _ hr _ hy hS H
    refine ⟨fun h => (by rw [h] at hr; cases hr), fun j hj => ?_⟩
    by_cases hji : j = i
    · subst hji; exact hy.wpOp hi hS ⟨.inr hS, H⟩
    · have := ready_mono hj hji
      rw [H.1] at this
      cases this
  | succ fuel ih =>
    intro listed a w hfree hr hmu hy hS H
    refine ⟨fun h => (by rw [h] at hr; cases hr), fun j hj => ?_⟩
    by_cases hji : j = i
    · subst hji; exact hy.wpOp hi hS ⟨.inr hS, H⟩
    · have h1 := H.2 j (ready_mono hj hji)
      obtain ⟨hjun, oj, hoj, hall⟩ := mem_ready.1 hj
      have iun : listed.getD i false = false := by
        have h0 := (mem_ready.1 hr).1
        rcases Nat.lt_or_ge i listed.size with h' | h'
        · simp [h'] at h0 ⊢; exact h0
        · simp [Array.getElem?_eq_none h'] at h0
      have hjm : j ≠ m := by
        rintro rfl
        obtain ⟨e, he, hb, hon⟩ := hwait
        rw [hom] at hoj
        obtain rfl : om = oj := by injection hoj
        have := hall e he hb
        rw [hon, iun] at this
        cases this
      have him : i ≠ m := by
        rintro rfl
        obtain ⟨_, oi', hoi', hall'⟩ := mem_ready.1 hr
        obtain ⟨e, he, hb, hon⟩ := hwait
        rw [hom] at hoi'
        obtain rfl : om = oi' := by injection hoi'
        have := hall' e he hb
        rw [hon, iun] at this
        cases this
      have hnot : ∀ e ∈ oj.after, Region.binds md e = true → e.on ≠ i := fun e he hb heq => by
        have h1 := hall e he hb
        rw [heq, iun] at h1
        cases h1
      have h2 := wpOp_putIf hoj (hfree j oj hoj hji hjun hnot) (fun cs b => hsel i oi cs b hi) (fun cs b => hsel j oj cs b hoj) hQ hy h1
      have hfree' : ∀ k ok, ops[k]? = some ok → k ≠ i → (listed.setIfInBounds j true).getD k true = false →
          (∀ e ∈ ok.after, Region.binds md e = true → e.on ≠ i) → oi.apart ops ok = true := fun k ok hk hki hun hno => by
        refine hfree k ok hk hki ?_ hno
        by_cases hjk : j = k
        · subst hjk; exact hjun
        · rw [getD_set_ne true hjk] at hun; exact hun
      have hmj : (listed.setIfInBounds j true).getD m true = false := by rw [getD_set_ne true hjm]; exact hmu
      have hmi : ((listed.setIfInBounds i true).setIfInBounds j true).getD m true = false := by
        rw [getD_set_ne true hjm, getD_set_ne true him]; exact hmu
      refine wpOp_mono (fun a' w' h3 => ?_) h2
      obtain ⟨h4, h5, h6⟩ := h3
      have hS' : S w' := by
        rcases h5 with h5 | h5
        · rw [hmi] at h5; cases h5
        · exact h5
      refine ⟨.inr hS', ih (listed.setIfInBounds j true) a' w' hfree' (ready_mono hr (Ne.symm hji)) hmj h4 hS' ?_⟩
      rw [Array.setIfInBounds_comm _ _ hji]
      exact h6

/-- Does the marked operation wait for number i? -/
def waitsB (md : Region.Mode) (ops : Array Oper) (m i : Nat) : Bool :=
  match ops[m]? with
  | some om => om.after.any fun e => Region.binds md e && e.on == i
  | none => false
theorem waitsB_spec {i : Nat} (h : waitsB md ops m i = true) : ∃ om, ops[m]? = some om ∧ ∃ e ∈ om.after, Region.binds md e = true ∧ e.on = i := by
  unfold waitsB at h
  cases ho : ops[m]? with
  | none => rw [ho] at h; cases h
  | some om =>
    rw [ho] at h
    dsimp only at h
    rw [← Array.any_toList, List.any_eq_true] at h
    obtain ⟨e, he, h1⟩ := h
    rw [Bool.and_eq_true, beq_iff_eq] at h1
    exact ⟨om, rfl, e, by simpa using he, h1.1, h1.2⟩

/-- Number i is taken first. -/
theorem wpAnyM_take {i : Nat} {oi : Oper} {v : Value} {fuel : Nat} {listed : Array Bool} {a : Act} {w : World} (hi : ops[i]? = some oi)
    (hs : Region.noSelect ops = true) (hf : Region.free md ops listed i = true) (hr : (Region.ready md ops listed).contains i = true) (hwm : waitsB md ops m i = true) (hm : listed.getD m true = false)
    (hQ : ∀ c a w, Q (.panic c) (a.put oi.dst v) w → Q (.panic c) a w) (hS : S w) (hy : YieldsIf P ops S oi v a)
    (h : wpAnyM P md ops Q S m fuel (listed.setIfInBounds i true) (a.put oi.dst v) w) : wpAnyM P md ops Q S m (fuel + 1) listed a w := by
  obtain ⟨om, ho, hwt⟩ := waitsB_spec hwm
  exact wpAnyM_first hi (Region.noSelect_spec hs) hQ ho hwt fuel listed a w (Region.free_spec hi hf) (by simpa using hr) hm hy hS h

/-- Number i alone may come up, and is carried out. -/
theorem wpAnyM_one {i : Nat} {o : Oper} {fuel : Nat} {listed : Array Bool} {a : Act} {w : World} (hr : Region.ready md ops listed = [i]) (ho : ops[i]? = some o) (hw : Region.wanted o (yielded ops a.tmps) = true)
    (h : ∀ K : Act → World → Prop, (∀ a' w', ((listed.setIfInBounds i true).getD m true = true ∨ S w') → wpAnyM P md ops Q S m fuel (listed.setIfInBounds i true) a' w' → K a' w') → o.wp P a w K Q) :
    wpAnyM P md ops Q S m (fuel + 1) listed a w := by
  refine ⟨fun h0 => (by rw [hr] at h0; cases h0), fun j hj => ?_⟩
  rw [hr, List.mem_singleton] at hj
  subst hj
  unfold wpOp
  simp only [ho, hw, if_true]
  exact .inl (h _ fun a' w' h1 h2 => ⟨h1, h2⟩)

/-- Number i or number j may come up. -/
theorem wpAnyM_two {i j : Nat} {oi oj : Oper} {fuel : Nat} {listed : Array Bool} {a : Act} {w : World} (hr : Region.ready md ops listed = [i, j]) (hoi : ops[i]? = some oi) (hoj : ops[j]? = some oj)
    (hwi : Region.wanted oi (yielded ops a.tmps) = true) (hwj : Region.wanted oj (yielded ops a.tmps) = true)
    (h1 : ∀ K : Act → World → Prop, (∀ a' w', ((listed.setIfInBounds i true).getD m true = true ∨ S w') → wpAnyM P md ops Q S m fuel (listed.setIfInBounds i true) a' w' → K a' w') → oi.wp P a w K Q)
    (h2 : ∀ K : Act → World → Prop, (∀ a' w', ((listed.setIfInBounds j true).getD m true = true ∨ S w') → wpAnyM P md ops Q S m fuel (listed.setIfInBounds j true) a' w' → K a' w') → oj.wp P a w K Q) :
    wpAnyM P md ops Q S m (fuel + 1) listed a w := by
  refine ⟨fun h0 => (by rw [h0] at hr; cases hr), fun k hk => ?_⟩
  rw [hr] at hk
  simp only [List.mem_cons, List.not_mem_nil, or_false] at hk
  rcases hk with rfl | rfl
  · unfold wpOp
    simp only [hoi, hwi, if_true]
    exact .inl (h1 _ fun a' w' h1 h2 => ⟨h1, h2⟩)
  · unfold wpOp
    simp only [hoj, hwj, if_true]
    exact .inl (h2 _ fun a' w' h1 h2 => ⟨h1, h2⟩)

theorem wpAnyM_done {listed : Array Bool} {a : Act} {w : World} (hr : Region.ready md ops listed = []) (h : Q .normal a w) : ∀ fuel, wpAnyM P md ops Q S m fuel listed a w
  | 0 => ⟨hr, h⟩
  | _ + 1 => ⟨fun _ => h, by rw [hr]; simp⟩

/-- The beginning. -/
theorem wp_region_marked {id : Nat} {a : Act} {w : World} {l : List Oper} (S : World → Prop) (m : Nat) (hm : P.follows .mixedOrders = true)
    (h : wpAnyM P .any l.toArray Q S m l.length (Array.replicate l.length false) a w.drew) : (Code.region id l.toArray true).wp P Q a w :=
  wp_region_any hm (wpAny_of_marked _ _ _ _ (by simpa using h))
end
end Go.Proofs.YtlahobdopmdfmaaDoor

/- RegC -/
namespace Go.Proofs.YtlahobdopmdfmaaDoor
open Go.RowKit

/-- A register of its own and a code. -/
def RegC (R : Int × List Int × Int) (w : World) (e : Ending) (w' : World) : Prop := ∃ A C,
  e = .returned (.tuple #[.agg #[.int .i64 R.1, .slice A R.2.1.length C], .int .i64 R.2.2]) ∧ Own 2 w' w.heap.size w'.heap.size (.slice A R.2.1.length C) R.2.1 ∧ Below w.heap.size w w'
theorem regC_err {R : Int × List Int × Int} {c : Int} {w w' : World} {e : Ending} (h : R = (0, [], c)) (he : e = .returned (.tuple #[.agg #[.int .i64 0, .slice none 0 0], .int .i64 c])) (hb : Below w.heap.size w w') : RegC R w e w' := by
  subst h
  exact ⟨none, 0, he, own_nil _ _ _ _, hb⟩
theorem regC_ok {R : Int × List Int × Int} {b : Int} {zs : List Int} {w w' : World} {A : Option Addr} {C lo hi : Nat} {e : Ending} (h : R = (b, zs, 0)) (he : e = .returned (.tuple #[.agg #[.int .i64 b, .slice A zs.length C], .int .i64 0]))
    (ho : Own 2 w' lo hi (.slice A zs.length C) zs) (hl : w.heap.size ≤ lo) (hh : hi ≤ w'.heap.size) (hb : Below w.heap.size w w') : RegC R w e w' := by
  subst h
  exact ⟨A, C, he, ho.wide hl hh, hb⟩

end Go.Proofs.YtlahobdopmdfmaaDoor

/- Plus -/
namespace Go.Proofs.YtlahobdopmdfmaaDoor
open Go.RowKit

theorem pad_one (n : Nat) : pad (n + 1) [0] = pad (n + 1) [] := by simp [pad, List.replicate_succ]
theorem pad_get {n : Nat} {f : Nat → Int} {k m : Nat} (hm : m ≤ n) (h : k < m) : nth (pad n (tab f m)) k = f k := by
  rw [nth_get (by rw [pad_len (by rw [tab_len]; exact hm)]; omega)]
  unfold pad
  rw [List.getElem_append_left (by rw [tab_len]; exact h)]
  have := tab_nth (f := f) (n := m) (i := k) h
  rwa [nth_get (by rw [tab_len]; exact h)] at this
theorem pad_tab_set {n m : Nat} {f : Nat → Int} (h : m < n) (z : Int) (hz : f m = z) : (pad n (tab f m)).set m z = pad n (tab f (m + 1)) := by
  have := pad_set (n := n) (zs := tab f m) (by rw [tab_len]; exact h) z
  rw [tab_len] at this
  rw [this, tab_succ, hz]
theorem pad_tab_all {n : Nat} {f : Nat → Int} : pad n (tab f n) = tab f n := pad_all (tab_len _ _)
theorem pad_tab_len {n m : Nat} {f : Nat → Int} (h : m ≤ n) : (pad n (tab f m)).length = n := pad_len (by rw [tab_len]; exact h)

set_option maxRecDepth 100000 in
set_option maxHeartbeats 2000000 in
theorem plus_any (B : Int) (a b : Option Addr) (c d : Nat) (xs ys : List Int) (w : World) (ha : Rd w a xs) (hb : Rd w b ys) (hB1 : 2 ≤ B) (hB2 : B ≤ 16) (hlen : xs.length ≤ 16) (hl : xs.length = ys.length)
    (hx : ∀ k, k < xs.length → 0 ≤ nth xs k ∧ nth xs k < B) (hy : ∀ k, k < xs.length → 0 ≤ nth ys k ∧ nth ys k < B) :
    Calls Tryd.prog 184 #[.slice a xs.length c, .slice b ys.length d, .int .i64 B] w fun e w' => ∃ A1 C1 A2 C2, e = .returned (.tuple #[.slice A1 xs.length C1, .slice A2 (xs.length + 1) C2]) ∧
      Own 2 w' w.heap.size w'.heap.size (.slice A1 xs.length C1) (tab (sumD B xs ys) xs.length) ∧ Own 2 w' w.heap.size w'.heap.size (.slice A2 (xs.length + 1) C2) (tab (cK B xs ys) (xs.length + 1)) ∧ Below w.heap.size w w' := by
  have HL := Lib.hid hl
  have HX := Lib.hid hx
  have HY := Lib.hid hy
  clear hl hx hy
  go_enter Tryd.func184, Tryd.ntmps184
  go_wp2_with (first | (at_make; refine wpList_makeI rfl (.tmp 13) (.tmp 13) 161 2 rfl Tryd.underlying161 info_int64 xs.length rfl rfl (by omega) ?_; intro w1 hown1 hb1) | (at_make; go_must (refine wpList_makeI rfl (.tmp 17) (.tmp 17) 24 2 rfl Tryd.underlying24 info_int64 (xs.length + 1) (by rw [show ((xs.length + 1 : Nat) : Int) = (xs.length : Int) + 1 by omega]; rfl) (by rw [show ((xs.length + 1 : Nat) : Int) = (xs.length : Int) + 1 by omega]; rfl) (by omega) ?_); intro w2 hown2 hb2))
  have hs1 : w.heap.size < w1.heap.size := hown1.block.2.2
  have hs2 : w1.heap.size < w2.heap.size := hown2.block.2.2
  replace hown1 := hown1.lo hb2 (Nat.le_refl _)
  replace hb1 := hb1.trans (hb2.mono (Nat.le_of_lt hs1))
  replace hown2 := hown2.wide (Nat.le_refl _) (Nat.le_refl _)
  rw [← pad_one] at hown2
  clear hb2
  go_wp2
  go_loopw [10, 21] (fun _ i wr => ∃ k : Nat, k ≤ xs.length ∧ i = .int .i64 k ∧ Own 2 wr w.heap.size w1.heap.size (.slice (some ⟨w.heap.size, 0, none⟩) xs.length xs.length) (pad xs.length (tab (sumD B xs ys) k)) ∧
      Own 2 wr w1.heap.size wr.heap.size (.slice (some ⟨w1.heap.size, 0, none⟩) (xs.length + 1) (xs.length + 1)) (pad (xs.length + 1) (tab (cK B xs ys) (k + 1))) ∧ Below w.heap.size w wr) (fun _ i _ => xs.length - (intOf i).toNat)
  case atStart => exact ⟨0, Nat.zero_le _, rfl, hown1, hown2, hb1⟩
  case round =>
    obtain ⟨k, hk, rfl, own1, own2, hbel⟩ := hrel
    by_cases hlt : k < xs.length
    · obtain ⟨p1, o1, rfl, hc1⟩ := ha.at_ hlt
      have hlt2 : k < ys.length := by rw [← HL.out]; exact hlt
      obtain ⟨p2, o2, rfl, hc2⟩ := hb.at_ hlt2
      have f1 := kept hbel hc1
      have f2 := kept hbel hc2
      have hx := HX.out k hlt
      have hy := HY.out k hlt
      have hcb := cK_bd hB1 HX.out HY.out k hk
      have hq : 0 ≤ (nth xs k + nth ys k + cK B xs ys k) / B ∧ (nth xs k + nth ys k + cK B xs ys k) / B ≤ 1 := cK_bd hB1 HX.out HY.out (k + 1) hlt
      have hb0 : ¬ B = 0 := by omega
      have hrem : (nth xs k + nth ys k + cK B xs ys k).tmod B = (nth xs k + nth ys k + cK B xs ys k) % B := Int.tmod_eq_emod_of_nonneg (by omega)
      have hdiv : (nth xs k + nth ys k + cK B xs ys k).tdiv B = (nth xs k + nth ys k + cK B xs ys k) / B := Int.tdiv_eq_ediv_of_nonneg (by omega)
      have hwr : wrap64 ((nth xs k + nth ys k + cK B xs ys k) / B) = (nth xs k + nth ys k + cK B xs ys k) / B := IntWalk.wrap64_in _ ⟨by omega, by omega⟩
      have hw1 : IntKind.i64.wrap (nth xs k + nth ys k) = nth xs k + nth ys k := IntWalk.i64_in _ (by omega)
      have hw2 : IntKind.i64.wrap (nth xs k + nth ys k + cK B xs ys k) = nth xs k + nth ys k + cK B xs ys k := IntWalk.i64_in _ (by omega)
      have hi3 : (k : Int) < (xs.length : Int) + 1 := by omega
      have g3 := own2.get (j := k) (by rw [pad_tab_len (by omega)]; omega)
      rw [pad_get (by omega) (by omega)] at g3
      have g1 := own1.get (j := k) (by rw [pad_tab_len (by omega)]; omega)
      have t1 := own1.thaw k
      have g2 := own2.get (j := k + 1) (by rw [pad_tab_len (by omega)]; omega)
      have t2 := own2.thaw (k + 1)
      go_wp2
      go_quiet (fail)
      go_wp2
      have q1 := (own1.drewN nq).put k ((nth xs k + nth ys k + cK B xs ys k) % B)
      rw [pad_tab_set hlt ((nth xs k + nth ys k + cK B xs ys k) % B) rfl] at q1
      have q2 := ((own2.drewN nq).setCell (p := ⟨w.heap.size, k, none⟩) (.inl hs1) (.int .i64 ((nth xs k + nth ys k + cK B xs ys k) % B))).put (k + 1) ((nth xs k + nth ys k + cK B xs ys k) / B)
      rw [pad_tab_set (by omega) ((nth xs k + nth ys k + cK B xs ys k) / B) rfl] at q2
      go_roundw
      case rel => exact ⟨k + 1, by omega, by go_num, q1.setCell (p := ⟨w1.heap.size, k + 1, none⟩) (.inr (Nat.le_refl _)) _, q2.wide (Nat.le_refl _) (by simp), ((bel_drewN hbel nq).setCell (p := ⟨w.heap.size, k, none⟩) (by simp) _).setCell (p := ⟨w1.heap.size, k + 1, none⟩) (by simp <;> omega) _⟩
      case measure => (simp [intOf]) <;> omega
    · obtain rfl : k = xs.length := by omega
      rw [pad_tab_all] at own1 own2
      go_wp2
      refine bodyPost_ret (v := .tuple #[.slice (some ⟨w.heap.size, 0, none⟩) xs.length xs.length, .slice (some ⟨w1.heap.size, 0, none⟩) (xs.length + 1) (xs.length + 1)]) (by simp [results, Tryd.results184, go_sem]) rfl ?_
      exact ⟨_, _, _, _, rfl, own1.wide (Nat.le_refl _) (Nat.le_of_lt own2.block.2.2), own2.wide (Nat.le_of_lt hs1) (Nat.le_refl _), hbel⟩
end Go.Proofs.YtlahobdopmdfmaaDoor

/- Minus -/
namespace Go.Proofs.YtlahobdopmdfmaaDoor
open Go.RowKit

set_option maxRecDepth 100000 in
set_option maxHeartbeats 2000000 in
theorem minus_any (B : Int) (a b : Option Addr) (c d : Nat) (xs ys : List Int) (w : World) (ha : Rd w a xs) (hb : Rd w b ys) (hB1 : 2 ≤ B) (hB2 : B ≤ 16) (hlen : xs.length ≤ 16) (hl : xs.length = ys.length)
    (hx : ∀ k, k < xs.length → 0 ≤ nth xs k ∧ nth xs k < B) (hy : ∀ k, k < xs.length → 0 ≤ nth ys k ∧ nth ys k < B) :
    Calls Tryd.prog 185 #[.slice a xs.length c, .slice b ys.length d, .int .i64 B] w fun e w' => ∃ A1 C1, e = .returned (.tuple #[.slice A1 xs.length C1, .int .i64 (bK B xs ys xs.length)]) ∧
      Own 2 w' w.heap.size w'.heap.size (.slice A1 xs.length C1) (tab (subD B xs ys) xs.length) ∧ Below w.heap.size w w' := by
  have HL := Lib.hid hl
  have HX := Lib.hid hx
  have HY := Lib.hid hy
  clear hl hx hy
  go_enter Tryd.func185, Tryd.ntmps185
  go_wp2_with (at_make; refine wpList_makeI rfl (.tmp 13) (.tmp 13) 161 2 rfl Tryd.underlying161 info_int64 xs.length rfl rfl (by omega) ?_; intro w1 hown1 hb1)
  go_wp2
  go_loopw [9, 10, 17] (fun br _ i wr => ∃ k : Nat, k ≤ xs.length ∧ br = .int .i64 (bK B xs ys k) ∧ i = .int .i64 k ∧ Own 2 wr w.heap.size wr.heap.size (.slice (some ⟨w.heap.size, 0, none⟩) xs.length xs.length) (pad xs.length (tab (subD B xs ys) k)) ∧
      Below w.heap.size w wr) (fun _ _ i _ => xs.length - (intOf i).toNat)
  case atStart => exact ⟨0, Nat.zero_le _, rfl, rfl, hown1, hb1⟩
  case round =>
    obtain ⟨k, hk, rfl, rfl, own1, hbel⟩ := hrel
    by_cases hlt : k < xs.length
    · obtain ⟨p1, o1, rfl, hc1⟩ := ha.at_ hlt
      have hlt2 : k < ys.length := by rw [← HL.out]; exact hlt
      obtain ⟨p2, o2, rfl, hc2⟩ := hb.at_ hlt2
      have f1 := kept hbel hc1
      have f2 := kept hbel hc2
      have hx := HX.out k hlt
      have hy := HY.out k hlt
      have hbb := bK_bd B xs ys k
      have hw1 : IntKind.i64.wrap (nth xs k - nth ys k) = nth xs k - nth ys k := IntWalk.i64_in _ (by omega)
      have hw2 : IntKind.i64.wrap (nth xs k - nth ys k - bK B xs ys k) = nth xs k - nth ys k - bK B xs ys k := IntWalk.i64_in _ (by omega)
      have g1 := own1.get (j := k) (by rw [pad_tab_len (by omega)]; omega)
      have t1 := own1.thaw k
      by_cases hneg : nth xs k - nth ys k - bK B xs ys k < 0
      · have HB := Lib.hid (show bK B xs ys (k + 1) = 1 from if_pos hneg)
        have HD := Lib.hid (show subD B xs ys k = nth xs k - nth ys k - bK B xs ys k + B from if_pos hneg)
        go_wp2
        go_quiet (fail)
        go_wp2
        have q1 := (own1.drewN nq).put k (nth xs k - nth ys k - bK B xs ys k + B)
        rw [pad_tab_set hlt (nth xs k - nth ys k - bK B xs ys k + B) HD.out] at q1
        go_roundw
        case rel => exact ⟨k + 1, by omega, by rw [HB.out], by go_num, q1.wide (Nat.le_refl _) (by simp), (bel_drewN hbel nq).setCell (p := ⟨w.heap.size, k, none⟩) (by simp) _⟩
        case measure => (simp [intOf]) <;> omega
      · have HB := Lib.hid (show bK B xs ys (k + 1) = 0 from if_neg hneg)
        have HD := Lib.hid (show subD B xs ys k = nth xs k - nth ys k - bK B xs ys k from if_neg hneg)
        go_wp2
        go_quiet (fail)
        go_wp2
        have q1 := (own1.drewN nq).put k (nth xs k - nth ys k - bK B xs ys k)
        rw [pad_tab_set hlt (nth xs k - nth ys k - bK B xs ys k) HD.out] at q1
        go_roundw
        case rel => exact ⟨k + 1, by omega, by rw [HB.out], by go_num, q1.wide (Nat.le_refl _) (by simp), (bel_drewN hbel nq).setCell (p := ⟨w.heap.size, k, none⟩) (by simp) _⟩
        case measure => (simp [intOf]) <;> omega
    · obtain rfl : k = xs.length := by omega
      rw [pad_tab_all] at own1
      go_wp2
      refine bodyPost_ret (v := .tuple #[.slice (some ⟨w.heap.size, 0, none⟩) xs.length xs.length, .int .i64 (bK B xs ys xs.length)]) (by simp [results, Tryd.results185, go_sem]) rfl ?_
      exact ⟨_, _, rfl, own1, hbel⟩

/-- What has been moved when the first n digits have been. -/
def mvD (xs : List Int) (m : Int) (n : Nat) (k : Nat) : Int := if 0 ≤ (k : Int) - m ∧ (k : Int) - m < (n : Int) then nth xs ((k : Int) - m).toNat else 0
theorem mvD_all (xs : List Int) (m : Int) : mvD xs m xs.length = shD xs m := by
  funext k
  unfold mvD shD
  by_cases h : 0 ≤ (k : Int) - m ∧ (k : Int) - m < (xs.length : Int)
  · rw [if_pos h, if_pos (by omega)]
  · rw [if_neg h, if_neg (by omega)]
theorem mvD_in {xs : List Int} {m : Int} {n j : Nat} (h : (n : Int) + m = j) (k : Nat) : mvD xs m (n + 1) k = if k = j then nth xs n else mvD xs m n k := by
  unfold mvD
  by_cases hk : k = j
  · subst hk
    rw [if_pos rfl, if_pos (by omega), show (k : Int) - m = n by omega]; rfl
  · rw [if_neg hk]
    by_cases h2 : 0 ≤ (k : Int) - m ∧ (k : Int) - m < (n : Int)
    · rw [if_pos h2, if_pos (by omega)]
    · rw [if_neg h2, if_neg (by omega)]
theorem mvD_out {xs : List Int} {m : Int} {n k : Nat} (h : (n : Int) + m ≠ k) : mvD xs m (n + 1) k = mvD xs m n k := by
  unfold mvD
  by_cases h2 : 0 ≤ (k : Int) - m ∧ (k : Int) - m < (n : Int)
  · rw [if_pos h2, if_pos (by omega)]
  · rw [if_neg h2, if_neg (by omega)]
theorem tab_ext {f g : Nat → Int} {n : Nat} (h : ∀ k, k < n → f k = g k) : tab f n = tab g n := by
  apply List.ext_getElem (by rw [tab_len, tab_len])
  intro k h1 h2
  rw [tab_len] at h1
  have e1 := tab_nth (f := f) (n := n) (i := k) h1
  have e2 := tab_nth (f := g) (n := n) (i := k) h1
  rw [nth_get (by rw [tab_len]; exact h1)] at e1 e2
  rw [e1, e2, h k h1]
theorem tab_set {f g : Nat → Int} {n j : Nat} {z : Int} (h : ∀ k, k < n → g k = if k = j then z else f k) : (tab f n).set j z = tab g n := by
  apply List.ext_getElem (by rw [List.length_set, tab_len, tab_len])
  intro k h1 h2
  rw [tab_len] at h2
  have e1 := tab_nth (f := f) (n := n) (i := k) h2
  have e2 := tab_nth (f := g) (n := n) (i := k) h2
  rw [nth_get (by rw [tab_len]; exact h2)] at e1 e2
  rw [e2, h k h2, List.getElem_set]
  by_cases hk : k = j
  · rw [if_pos hk, if_pos hk.symm]
  · rw [if_neg hk, if_neg (Ne.symm hk), e1]
theorem mvD_none (xs : List Int) (m : Int) (n : Nat) : tab (mvD xs m 0) n = List.replicate n 0 := by
  rw [← show tab (fun _ => (0 : Int)) n = List.replicate n 0 by
    apply List.ext_getElem (by simp [tab_len])
    intro k h1 h2
    rw [tab_len] at h1
    have e1 := tab_nth (f := fun _ => (0 : Int)) (n := n) (i := k) h1
    rw [nth_get (by rw [tab_len]; exact h1)] at e1
    rw [e1]; simp]
  apply tab_ext
  intro k _
  unfold mvD
  rw [if_neg (by omega)]

end Go.Proofs.YtlahobdopmdfmaaDoor

/- Fin -/
namespace Go.Proofs.YtlahobdopmdfmaaDoor
open Go.RowKit

set_option maxRecDepth 100000 in
set_option maxHeartbeats 1000000 in
theorem implValueOf (xB : Int) (xA : Option Addr) (xC : Nat) (xZ : List Int) (w : World) (ha : Rd w xA xZ) (z : All64 xZ) (b : I64 xB) :
    Calls Tryd.prog 167 #[.agg #[.int .i64 xB, .slice xA xZ.length xC]] w fun e w' => e = .returned (.tuple #[.int .i64 (vofR xB xZ).1, .int .i64 (vofR xB xZ).2]) ∧ Below w.heap.size w w' := by
  go_enter Tryd.func167, Tryd.ntmps167
  go_wp2_with fail
  obtain ⟨u, hu⟩ : ∃ u, u = w.alloc (.cells #[.int .i64 xB, .slice xA xZ.length xC] 26) := ⟨_, rfl⟩
  rw [← hu]
  have hbel : Below w.heap.size w u := by rw [hu]; exact (by repeat (first | exact Below.refl _ _ | refine Below.setCell ?_ (by first | omega | (simp <;> omega)) _ | refine Below.alloc ?_ (by first | omega | (simp <;> omega)) _ | refine Below.drew ?_))
  have ax : Bx u w.heap.size 26 #[.int .i64 xB, .slice xA xZ.length xC] := by rw [hu]; exact Bx.new _ _ _
  clear hu
  replace ha := ha.below hbel
  refine (implValidRegister xB xA xC xZ u ha z b).mono ?_
  rintro e v ⟨rfl, hb1⟩
  replace ha := ha.below hb1
  replace ax := ax.below hb1
  replace hbel := hbel.trans (hb1.mono hbel.size)
  clear hb1 u
  have c0 := ax.at_ 0 rfl
  have c1 := ax.at_ 1 rfl
  cases h : okB xB xZ with
  | false =>
    have HV := Lib.hid (show vofR xB xZ = (0, 1) by simp [vofR, h])
    go_wp2
    refine bodyPost_ret (v := .tuple #[.int .i64 0, .int .i64 1]) (by simp [results, Tryd.results167, go_sem]) rfl ?_
    exact ⟨by rw [HV.out], hbel⟩
  | true =>
    have HV := Lib.hid (show vofR xB xZ = (valR xB xZ, 0) by simp [vofR, h])
    have HO := Lib.hid (okB_spec h)
    clear h
    go_wp2_with fail
    refine (value_any xB xA xC xZ v HO.out.1 HO.out.2.1 HO.out.2.2.2.2.1 ha).mono ?_
    rintro e w2 ⟨rfl, hb3⟩
    rw [valOr_le HO.out.2.2.2.2.2]
    go_wp2
    refine bodyPost_ret (v := .tuple #[.int .i64 (valR xB xZ), .int .i64 0]) (by simp [results, Tryd.results167, go_sem]) rfl ?_
    exact ⟨by rw [HV.out], hbel.trans (hb3.mono hbel.size)⟩
end Go.Proofs.YtlahobdopmdfmaaDoor

/- NewReg -/
namespace Go.Proofs.YtlahobdopmdfmaaDoor
open Go.RowKit

set_option maxHeartbeats 1000000 in
set_option maxRecDepth 100000 in
theorem specl02New_any (b v : Int) (n : Nat) (w : World) (hb1 : 2 ≤ b) (hb2 : b ≤ 16) (hn : n ≤ 16) (hv1 : 0 ≤ v) (hv2 : v ≤ 1000000000000) :
    Calls Tryd.prog 129 #[.int .i64 b, .int .i64 n, .int .i64 v] w fun e w' => ∃ A C,
      e = .returned (.tuple #[.agg #[.int .i64 b, .slice A n C], .int .i64 (leftR b n v)]) ∧ Own 2 w' w.heap.size w'.heap.size (.slice A n C) (digsR b n v) ∧ Below w.heap.size w w' := by
  go_enter Tryd.func129, Tryd.ntmps129
  go_wp2
  go_loopw [2, 9] (fun q i wr => ∃ (k : Nat) (A : Option Addr) (C : Nat), k ≤ n ∧ q = .int .i64 (leftR b k v) ∧ i = .int .i64 k ∧ Bx wr w.heap.size 26 #[.int .i64 0, .slice none 0 0] ∧ Bx wr (w.heap.size + 1) 26 #[.int .i64 b, .slice A k C] ∧
      Own 2 wr (w.heap.size + 2) wr.heap.size (.slice A k C) (digsR b k v) ∧ Below w.heap.size w wr) (fun _ i _ => n - (intOf i).toNat)
  case atStart =>
    refine ⟨0, none, 0, Nat.zero_le _, rfl, rfl, (Bx.new _ _ _).alloc _, by simpa using Bx.new (w.alloc (.cells #[.int .i64 0, .slice none 0 0] 26)) #[.int .i64 b, .slice none 0 0] 26, own_nil _ _ _ _, ((Below.refl _ _).alloc (Nat.le_refl _) _).alloc (by simp) _⟩
  case round =>
    obtain ⟨k, A, C, hk, rfl, rfl, bx0, bx1, hown, hbel⟩ := hrel
    have hlb := leftR_bd (by omega : 1 ≤ b) k v hv1 hv2
    have hsz := bx1.lt
    by_cases hlt : k < n
    · have hb0 : ¬ b = 0 := by omega
      have hr : (leftR b k v).tmod b = leftR b k v % b := Int.tmod_eq_emod_of_nonneg hlb.1
      have c1 := bx1.cell 1
      simp only [List.getElem?_toArray, List.getElem?_cons_succ, List.getElem?_cons_zero] at c1
      go_wp2
      refine wp_region_marked (fun w' => w'.cell? ⟨w.heap.size + 1, 1, none⟩ = some (.slice A k C)) 8 (by kernel_rfl) ?_
      have hS : wr.drew.cell? ⟨w.heap.size + 1, 1, none⟩ = some (.slice A k C) := c1
      refine wpAnyM_take (i := 0) (v := ?_) rfl (by kernel_rfl) (by kernel_rfl) (by kernel_rfl) (by kernel_rfl) (by kernel_rfl) (fun _ _ _ h => h) hS (.inl ⟨by rfl, ?_⟩) ?_
      rotate_left 1
      · intro w' hS'; go_simp; try with_reducible rfl
      simp only [Act.put, List.setIfInBounds_toArray]
      refine wpAnyM_take (i := 1) (v := ?_) rfl (by kernel_rfl) (by kernel_rfl) (by kernel_rfl) (by kernel_rfl) (by kernel_rfl) (fun _ _ _ h => h) hS (.inl ⟨by rfl, ?_⟩) ?_
      rotate_left 1
      · intro w' hS'; go_simp; try with_reducible rfl
      simp only [Act.put]
      refine wpAnyM_take (i := 2) (v := ?_) rfl (by kernel_rfl) (by kernel_rfl) (by kernel_rfl) (by kernel_rfl) (by kernel_rfl) (fun _ _ _ h => h) hS (.inl ⟨by rfl, ?_⟩) ?_
      rotate_left 1
      · intro w' hS'; go_simp; try with_reducible rfl
      simp only [Act.put]
      refine wpAnyM_take (i := 3) (v := ?_) rfl (by kernel_rfl) (by kernel_rfl) (by kernel_rfl) (by kernel_rfl) (by kernel_rfl) (fun _ _ _ h => h) hS (.inl ⟨by rfl, ?_⟩) ?_
      rotate_left 1
      · intro w' hS'; go_simp; try with_reducible rfl
      simp only [Act.put]
      refine wpAnyM_take (i := 4) (v := ?_) rfl (by kernel_rfl) (by kernel_rfl) (by kernel_rfl) (by kernel_rfl) (by kernel_rfl) (fun _ _ _ h => h) hS (.inl ⟨by rfl, ?_⟩) ?_
      rotate_left 1
      · intro w' hS'; go_simp; try with_reducible rfl
      simp only [Act.put]
      refine wpAnyM_one (i := 5) (by kernel_rfl) rfl (by rfl) (fun K hK => ?_)
      go_simp
      replace hS := kept_alloc hS (.cells #[.int .i64 (leftR b k v % b)] 2)
      refine hK _ _ (.inr hS) ?_
      clear hK K
      refine wpAnyM_one (i := 6) (by kernel_rfl) rfl (by rfl) (fun K hK => ?_)
      refine wp_appI (.tmp 18) (.tmp 22) 24 2 rfl Tryd.underlying24 info_int64 rfl ((hown.drew).alloc _) (digsR_len _ _ _) ⟨wr.heap.size, 0, none⟩ 1 (leftR b k v % b) rfl (by go_simp) (by omega) (by simp; omega) ?_
      intro A' C' w1 hown1 ht1
      rw [← digsR_succ] at hown1
      have dx1 := ((bx1.drew).alloc (.cells #[.int .i64 (leftR b k v % b)] 2)).touch ht1 (by omega)
      have dx0 := ((bx0.drew).alloc (.cells #[.int .i64 (leftR b k v % b)] 2)).touch ht1 (by omega)
      have d1 : w1.cell? ⟨w.heap.size + 1, 1, none⟩ = some (.slice A k C) := dx1.cell 1
      have df1 := dx1.thaw 1
      refine hK _ _ (.inr d1) ?_
      clear hS
      have hS := d1
      simp only [Act.put, List.setIfInBounds_toArray]
      clear hK K c1
      refine wpAnyM_take (i := 7) (v := ?_) rfl (by kernel_rfl) (by kernel_rfl) (by kernel_rfl) (by kernel_rfl) (by kernel_rfl) (fun _ _ _ h => h) hS (.inl ⟨by rfl, ?_⟩) ?_
      rotate_left 1
      · intro w' hS'; go_simp; try with_reducible rfl
      simp only [Act.put]
      refine wpAnyM_one (i := 8) (by kernel_rfl) rfl (by rfl) (fun K hK => ?_)
      go_simp
      refine hK _ _ (.inl rfl) ?_
      clear hK K
      refine wpAnyM_done (by kernel_rfl) ?_ _
      go_wp2
      go_roundw
      case rel => exact ⟨k + 1, A', C', by omega, by rw [leftR_succ], by go_num, dx0.far (by simp) _, by simpa using dx1.set_ 1 (.slice A' (k + 1) C'), (hown1.setCell (p := ⟨w.heap.size + 1, 1, none⟩) (.inl (by simp)) _).wide (Nat.le_refl _) (by simp),
        ((hbel.drew.alloc hbel.size _).trans (ht1.below (by omega) (by simp; omega))).setCell (p := ⟨w.heap.size + 1, 1, none⟩) (by simp) _⟩
      case measure => simp [intOf]; omega
    · obtain rfl : k = n := by omega
      have c0 : wr.cell? ⟨w.heap.size + 1, 0, none⟩ = some (.int .i64 b) := bx1.cell 0
      have c1 : wr.cell? ⟨w.heap.size + 1, 1, none⟩ = some (.slice A k C) := bx1.cell 1
      have r0 : wr.cell? ⟨w.heap.size, 0, none⟩ = some (.int .i64 0) := bx0.cell 0
      have r1 : wr.cell? ⟨w.heap.size, 1, none⟩ = some (.slice none 0 0) := bx0.cell 1
      have f0 := bx0.thaw 0
      have f1 := bx0.thaw 1
      go_wp2
      refine bodyPost_ret (v := .tuple #[.agg #[.int .i64 b, .slice A k C], .int .i64 (leftR b k v)]) (by simp [results, Tryd.results129, go_sem, r0, r1]) rfl
        ⟨A, C, rfl, ((hown.setCell (p := ⟨w.heap.size, 0, none⟩) (.inl (by simp)) _).setCell (p := ⟨w.heap.size, 1, none⟩) (.inl (by simp)) _).wide (by simp) (by simp), (hbel.setCell (p := ⟨w.heap.size, 0, none⟩) (by simp) _).setCell (p := ⟨w.heap.size, 1, none⟩) (by simp) _⟩

/-- What a call of NewRegister leaves. -/
def NewRegPost (b n v : Int) (w : World) (e : Ending) (w' : World) : Prop := ∃ A C,
  e = .returned (.tuple #[.agg #[.int .i64 (nrR b n v).1, .slice A (nrR b n v).2.1.length C], .int .i64 (nrR b n v).2.2]) ∧ Own 2 w' w.heap.size w'.heap.size (.slice A (nrR b n v).2.1.length C) (nrR b n v).2.1 ∧ Below w.heap.size w w'

theorem newRegPost_err {b n v c : Int} {w w' : World} {e : Ending} (h : nrR b n v = (0, [], c)) (he : e = .returned (.tuple #[.agg #[.int .i64 0, .slice none 0 0], .int .i64 c])) (hb : Below w.heap.size w w') : NewRegPost b n v w e w' := by
  refine ⟨none, 0, ?_, ?_, hb⟩
  · rw [h]; exact he
  · rw [h]; exact own_nil _ _ _ _
theorem newRegPost_ok {b n v : Int} {zs : List Int} {m : Nat} {w w' : World} {A : Option Addr} {C lo hi : Nat} {e : Ending} (h : nrR b n v = (b, zs, 0)) (hm : zs.length = m) (he : e = .returned (.tuple #[.agg #[.int .i64 b, .slice A m C], .int .i64 0]))
    (ho : Own 2 w' lo hi (.slice A m C) zs) (hl : w.heap.size ≤ lo) (hh : hi ≤ w'.heap.size) (hb : Below w.heap.size w w') : NewRegPost b n v w e w' := by
  subst hm
  refine ⟨A, C, ?_, ?_, hb⟩
  · rw [h]; exact he
  · rw [h]; exact ho.wide hl hh

set_option maxRecDepth 100000 in
theorem implNewRegister (b n v : Int) (w : World) (_ : I64 b) (_ : I64 n) (_ : I64 v) : Calls Tryd.prog 136 #[.int .i64 b, .int .i64 n, .int .i64 v] w (NewRegPost b n v w) := by
  by_cases h : 2 ≤ b ∧ b ≤ 16 ∧ 1 ≤ n ∧ n ≤ 16 ∧ 0 ≤ v ∧ v ≤ 1000000000000
  · obtain ⟨h1, h2, h3, h4, h5, h6⟩ := h
    obtain ⟨n, rfl⟩ := Int.eq_ofNat_of_zero_le (show 0 ≤ n by omega)
    go_enter Tryd.func136, Tryd.ntmps136
    go_wp2_with (first | (at_make; refine wpList_makeI rfl _ _ _ 2 rfl Tryd.underlying161 info_int64 n rfl rfl (by omega) ?_; intro w1 hown hb; have bx := (Bx.new w #[.int .i64 0, .slice none 0 0] 26).below hb) | go_in)
    go_loopw [2, 9, 31] (fun q _ i wr => ∃ k : Nat, k ≤ n ∧ q = .int .i64 (leftR b k v) ∧ i = .int .i64 k ∧ Bx wr w.heap.size 26 #[.int .i64 0, .slice none 0 0] ∧
        Own 2 wr (w.heap.size + 1) wr.heap.size (.slice (some ⟨w.heap.size + 1, 0, none⟩) n n) (pad n (digsR b k v)) ∧ Below w.heap.size w wr) (fun _ _ i _ => n - (intOf i).toNat)
    case atStart => exact ⟨0, Nat.zero_le _, rfl, rfl, bx, by simpa [digsR] using hown, (by repeat (first | exact ((Below.refl _ _).alloc (Nat.le_refl _) _).trans (hb.mono (by simp)) | refine Below.setCell ?_ (by first | omega | (simp <;> omega)) _ | refine Below.alloc ?_ (by first | omega | (simp <;> omega)) _ | refine Below.drew ?_))⟩
    case round =>
      obtain ⟨k, hk, rfl, rfl, bx, hown, hbel⟩ := hrel
      have hlb := leftR_bd (by omega : 1 ≤ b) k v h5 h6
      have hlen := digsR_len b k v
      have HL := Lib.hid hlen
      clear hlen
      by_cases hlt : k < n
      · have hget := hown.get (j := k) (by rw [pad_len (by rw [HL.out]; omega)]; exact hlt)
        have hthaw := hown.thaw k
        have hput := hown.put k (leftR b k v % b)
        have e : (pad n (digsR b k v)).set k (leftR b k v % b) = pad n (digsR b (k + 1) v) := by
          have := pad_set (n := n) (zs := digsR b k v) (by rw [HL.out]; exact hlt) (leftR b k v % b)
          rw [HL.out] at this
          rw [this, digsR_succ]
        rw [e] at hput
        have HP := Lib.hid hput
        clear hput e
        go_wp2
        go_roundw
        case rel => exact ⟨k + 1, by omega, by rw [leftR_succ], by go_num, bx.far (by simp) _, HP.out.wide (Nat.le_refl _) (by simp), hbel.setCell (by simp) _⟩
        case measure => simp [intOf]; omega
      · obtain rfl : k = n := by omega
        rw [pad_all HL.out] at hown
        have c0 := bx.at_ 0 rfl
        have c1 := bx.at_ 1 rfl
        have f0 := bx.thaw 0
        have f1 := bx.thaw 1
        by_cases hl : 0 < leftR b k v
        · have HN := Lib.hid (nrR_full (by omega) hl)
          go_wp2
          exact bodyPost_ret (v := .tuple #[.agg #[.int .i64 0, .slice none 0 0], .int .i64 5]) (by simp [results, Tryd.results136, go_sem, c0, c1]) rfl
            (newRegPost_err HN.out rfl (by repeat (first | exact hbel | refine Below.setCell ?_ (by first | omega | (simp <;> omega)) _ | refine Below.alloc ?_ (by first | omega | (simp <;> omega)) _ | refine Below.drew ?_)))
        · have HN := Lib.hid (nrR_ok (by omega) hl)
          go_wp2
          exact bodyPost_ret (v := .tuple #[.agg #[.int .i64 b, .slice (some ⟨w.heap.size + 1, 0, none⟩) k k], .int .i64 0]) (by simp [results, Tryd.results136, go_sem, c0, c1]) rfl
            (newRegPost_ok HN.out HL.out rfl (lo := w.heap.size + 1) (hi := wr.heap.size) (by repeat (first | exact hown | refine Own.alloc ?_ _ | refine Own.setCell ?_ (.inl (by simp <;> omega)) _ | refine Own.drew ?_)) (by simp) (by simp) (by repeat (first | exact hbel | refine Below.setCell ?_ (by first | omega | (simp <;> omega)) _ | refine Below.alloc ?_ (by first | omega | (simp <;> omega)) _ | refine Below.drew ?_)))
  · have HN := Lib.hid (nrR_bad h)
    have hc : b < 2 ∨ (2 ≤ b ∧ 16 < b) ∨ (2 ≤ b ∧ b ≤ 16 ∧ n < 1) ∨ (2 ≤ b ∧ b ≤ 16 ∧ 1 ≤ n ∧ 16 < n) ∨ (2 ≤ b ∧ b ≤ 16 ∧ 1 ≤ n ∧ n ≤ 16 ∧ v < 0) ∨ (2 ≤ b ∧ b ≤ 16 ∧ 1 ≤ n ∧ n ≤ 16 ∧ 0 ≤ v ∧ 1000000000000 < v) := by omega
    clear h
    rcases hc with h1 | ⟨h1, h2⟩ | ⟨h1, h2, h3⟩ | ⟨h1, h2, h3, h4⟩ | ⟨h1, h2, h3, h4, h5⟩ | ⟨h1, h2, h3, h4, h5, h6⟩
    all_goals
      go_enter Tryd.func136, Tryd.ntmps136
      go_wp2
      exact bodyPost_ret (v := .tuple #[.agg #[.int .i64 0, .slice none 0 0], .int .i64 2]) (by simp [results, Tryd.results136, go_sem]) rfl
        (newRegPost_err HN.out rfl ((Below.refl _ _).alloc (Nat.le_refl _) _))
end Go.Proofs.YtlahobdopmdfmaaDoor

/- ShnI -/
namespace Go.Proofs.YtlahobdopmdfmaaDoor
open Go.RowKit

/-- The error of the bell, as a value. -/
def bellV (a : Addr) : Value := .iface 220 (.pointer (some a))
/-- errBell holds it. -/
def BellAt (w : World) (a : Addr) : Prop := w.cell? ⟨0, 0, none⟩ = some (bellV a)
/-- Whichever it is. -/
def BellD (w : World) : Prop := ∃ a, BellAt w a
theorem BellAt.below {w w' : World} {a : Addr} (h : BellAt w a) (hb : Below w.heap.size w w') : BellAt w' a := kept hb h
theorem BellD.below {w w' : World} (h : BellD w) (hb : Below w.heap.size w w') : BellD w' := h.elim fun a ha => ⟨a, ha.below hb⟩

set_option maxHeartbeats 4000000 in
theorem shown_in (B n N x : Int) (w : World) (h1 : 1 ≤ N) (h2 : N ≤ 1000000000001) (bx : I64 x) (hi : inA N x = true) :
    Calls Tryd.prog 106 #[.agg #[.int .i64 B, .int .i64 n, .int .i64 N], .int .i64 x] w fun e w' => e = .returned (.tuple #[.int .i64 x, .nilIface]) ∧ Below w.heap.size w w' := by
  have hs : shn N x = x := (shn_eq h1 x).2 hi
  obtain ⟨u, hu⟩ : ∃ u, u = w.alloc (.cells #[.int .i64 B, .int .i64 n, .int .i64 N] 113) := ⟨_, rfl⟩
  have bc : Bx u w.heap.size 113 #[.int .i64 B, .int .i64 n, .int .i64 N] := by rw [hu]; exact Bx.new _ _ _
  have hbel : Below w.heap.size w u := by rw [hu]; exact (by repeat (first | exact Below.refl _ _ | refine Below.setCell ?_ (by first | omega | (simp <;> omega)) _ | refine Below.alloc ?_ (by first | omega | (simp <;> omega)) _ | refine Below.drew ?_))
  have HU := Lib.hid hu
  have HM := Lib.hid (fun w => modulo_any x N w h1 h2)
  have HG := Lib.hid (fun w => greatest_any B n N w h1 h2)
  have q1 := Int.emod_nonneg x (show N ≠ 0 by omega)
  have q2 := Int.emod_lt_of_pos x (show 0 < N by omega)
  unfold shn at hs
  obtain ⟨q, hq⟩ : ∃ q, q = x % N := ⟨_, rfl⟩
  obtain ⟨g, hg⟩ : ∃ g, g = N - 1 + -(N / 2) := ⟨_, rfl⟩
  rw [← hq] at HM q1 q2
  rw [← hq, ← hg] at hs
  rw [← hg] at HG
  have HU := Lib.hid hu
  have c0 := bc.at_ 0 rfl
  have c1 := bc.at_ 1 rfl
  have c2 := bc.at_ 2 rfl
  clear hu hq hg hi
  by_cases hc : g < q
  · rw [if_pos hc] at hs
    have hne : (q - N == x) = true := by simp [hs]
    go_enter Tryd.func106, Tryd.ntmps106
    go_wp2_with fail
    rw [← HU.out]
    refine (HM.out _).mono ?_
    rintro e w1 ⟨rfl, hw⟩
    subst w1
    go_wp2_with fail
    refine (HG.out _).mono ?_
    rintro e w2 ⟨rfl, hb⟩
    have d2 := kept hb c2
    clear c0 c1 c2
    go_wp2
    exact bodyPost_ret (v := .tuple #[.int .i64 x, .nilIface]) (by simp [results, Tryd.results106, go_sem]) rfl ⟨rfl, hbel.trans (hb.mono hbel.size)⟩
  · rw [if_neg hc] at hs
    subst x
    go_enter Tryd.func106, Tryd.ntmps106
    go_wp2_with fail
    rw [← HU.out]
    refine (HM.out _).mono ?_
    rintro e w1 ⟨rfl, hw⟩
    subst w1
    go_wp2_with fail
    refine (HG.out _).mono ?_
    rintro e w2 ⟨rfl, hb⟩
    have d2 := kept hb c2
    clear c0 c1 c2
    go_wp2
    exact bodyPost_ret (v := .tuple #[.int .i64 q, .nilIface]) (by simp [results, Tryd.results106, go_sem]) rfl ⟨rfl, hbel.trans (hb.mono hbel.size)⟩

set_option maxHeartbeats 4000000 in
theorem shown_out (B n N x : Int) (a : Addr) (w : World) (h1 : 1 ≤ N) (h2 : N ≤ 1000000000001) (_ : I64 x) (hi : inA N x = false) (hl : BellAt w a) :
    Calls Tryd.prog 106 #[.agg #[.int .i64 B, .int .i64 n, .int .i64 N], .int .i64 x] w fun e w' => e = .returned (.tuple #[.int .i64 (shn N x), bellV a]) ∧ Below w.heap.size w w' := by
  have hs : ¬ shn N x = x := by rw [shn_eq h1 x, hi]; simp
  obtain ⟨u, hu⟩ : ∃ u, u = w.alloc (.cells #[.int .i64 B, .int .i64 n, .int .i64 N] 113) := ⟨_, rfl⟩
  have bc : Bx u w.heap.size 113 #[.int .i64 B, .int .i64 n, .int .i64 N] := by rw [hu]; exact Bx.new _ _ _
  have hbel : Below w.heap.size w u := by rw [hu]; exact (by repeat (first | exact Below.refl _ _ | refine Below.setCell ?_ (by first | omega | (simp <;> omega)) _ | refine Below.alloc ?_ (by first | omega | (simp <;> omega)) _ | refine Below.drew ?_))
  have HU := Lib.hid hu
  have HM := Lib.hid (fun w => modulo_any x N w h1 h2)
  have HG := Lib.hid (fun w => greatest_any B n N w h1 h2)
  have q1 := Int.emod_nonneg x (show N ≠ 0 by omega)
  have q2 := Int.emod_lt_of_pos x (show 0 < N by omega)
  obtain ⟨y, hy⟩ : ∃ y, y = shn N x := ⟨_, rfl⟩
  rw [← hy] at hs ⊢
  unfold shn at hy
  obtain ⟨q, hq⟩ : ∃ q, q = x % N := ⟨_, rfl⟩
  obtain ⟨g, hg⟩ : ∃ g, g = N - 1 + -(N / 2) := ⟨_, rfl⟩
  rw [← hq] at HM q1 q2
  rw [← hq, ← hg] at hy
  rw [← hg] at HG
  have c0 := bc.at_ 0 rfl
  have c1 := bc.at_ 1 rfl
  have c2 := bc.at_ 2 rfl
  replace hl := hl.below hbel
  clear hu hq hg hi
  by_cases hc : g < q
  · rw [if_pos hc] at hy
    subst y
    go_enter Tryd.func106, Tryd.ntmps106
    go_wp2_with fail
    rw [← HU.out]
    refine (HM.out _).mono ?_
    rintro e w1 ⟨rfl, hw⟩
    subst w1
    go_wp2_with fail
    refine (HG.out _).mono ?_
    rintro e w2 ⟨rfl, hb⟩
    have d2 := kept hb c2
    have d3 : ∀ u : After w2, u.now.cell? ⟨0, 0, none⟩ = some (bellV a) := kept_after (hl.below hb)
    clear c0 c1 c2
    go_wp2
    refine wp_region_after (by kernel_rfl) (by kernel_rfl) ?_
    repeat (go_big_quiet_step (fail))
    refine wpQuiet_nil ?_
    intro u2
    go_wp2
    exact bodyPost_ret (v := .tuple #[.int .i64 (q - N), bellV a]) (by simp [results, Tryd.results106, go_sem]) rfl ⟨rfl, (hbel.trans (hb.mono hbel.size)).trans (u2.ok.mono (hbel.trans (hb.mono hbel.size)).size)⟩
  · rw [if_neg hc] at hy
    subst y
    go_enter Tryd.func106, Tryd.ntmps106
    go_wp2_with fail
    rw [← HU.out]
    refine (HM.out _).mono ?_
    rintro e w1 ⟨rfl, hw⟩
    subst w1
    go_wp2_with fail
    refine (HG.out _).mono ?_
    rintro e w2 ⟨rfl, hb⟩
    have d2 := kept hb c2
    have d3 : ∀ u : After w2, u.now.cell? ⟨0, 0, none⟩ = some (bellV a) := kept_after (hl.below hb)
    clear c0 c1 c2
    go_wp2
    refine wp_region_after (by kernel_rfl) (by kernel_rfl) ?_
    repeat (go_big_quiet_step (fail))
    refine wpQuiet_nil ?_
    intro u2
    go_wp2
    exact bodyPost_ret (v := .tuple #[.int .i64 q, bellV a]) (by simp [results, Tryd.results106, go_sem]) rfl ⟨rfl, (hbel.trans (hb.mono hbel.size)).trans (u2.ok.mono (hbel.trans (hb.mono hbel.size)).size)⟩

/-- Whatever is shown. -/
theorem shown_any (B n N x : Int) (a : Addr) (w : World) (h1 : 1 ≤ N) (h2 : N ≤ 1000000000001) (bx : I64 x) (hl : BellAt w a) :
    Calls Tryd.prog 106 #[.agg #[.int .i64 B, .int .i64 n, .int .i64 N], .int .i64 x] w fun e w' => ∃ v, e = .returned (.tuple #[.int .i64 (shn N x), v]) ∧ Below w.heap.size w w' := by
  cases hi : inA N x with
  | true => exact (shown_in B n N x w h1 h2 bx hi).mono fun e w' h => ⟨.nilIface, by rw [(shn_eq h1 x).2 hi]; exact h.1, h.2⟩
  | false => exact (shown_out B n N x a w h1 h2 bx hi hl).mono fun e w' h => ⟨_, h.1, h.2⟩

set_option maxHeartbeats 4000000 in
set_option maxRecDepth 100000 in
theorem accOf_no (xB : Int) (xA : Option Addr) (xC : Nat) (xZ : List Int) (w : World) (ha : Rd w xA xZ) (z : All64 xZ) (b : I64 xB) (h : accB xB xZ = false) :
    Calls Tryd.prog 123 #[.agg #[.int .i64 xB, .slice xA xZ.length xC]] w fun e w' => e = .returned (.tuple #[.agg #[.int .i64 0, .int .i64 0, .int .i64 0], .int .i64 0, .bool false]) ∧ Below w.heap.size w w' := by
  have R := Tryd.results123
  have hbel : Below w.heap.size w w := Below.refl _ _
  cases ho : okB xB xZ with
  | false =>
    have HV := Lib.hid (show vofR xB xZ = (0, 1) by simp [vofR, ho])
    go_enter Tryd.func123, Tryd.ntmps123
    go_wp2_with fail
    obtain ⟨p, hp⟩ : ∃ g, g = w.heap.size := ⟨_, rfl⟩
    have hk_p : w.heap.size ≤ p := Nat.le_of_eq hp.symm
    obtain ⟨u, hu⟩ : ∃ V, V = (w.alloc (.cells #[.int .i64 xB, .slice xA xZ.length xC] 26)).alloc (.cells #[.int .i64 0, .int .i64 0, .int .i64 0] 113) := ⟨_, rfl⟩
    have b_p : Bx u p 26 #[.int .i64 xB, .slice xA xZ.length xC] := by rw [hu, hp]; exact (Bx.new _ _ _).alloc _
    have b_p1 : Bx u (p + 1) 113 #[.int .i64 0, .int .i64 0, .int .i64 0] := by rw [hu, hp]; simpa using Bx.new (w.alloc (.cells #[.int .i64 xB, .slice xA xZ.length xC] 26)) #[.int .i64 0, .int .i64 0, .int .i64 0] 113
    have hb : Below w.heap.size w u := by rw [hu]; exact ((Below.refl _ _).alloc (Nat.le_refl _) _).alloc (by simp) _
    rw [← hp, ← hu]
    clear hu hp
    replace ha := ha.below hb
    replace hbel := hbel.trans (hb.mono hbel.size)
    clear hb
    refine (implValueOf xB xA xC xZ u ha z b).mono ?_
    rintro e v ⟨rfl, hb⟩
    rw [HV.out]
    replace ha := ha.below hb
    replace b_p := b_p.below hb
    replace b_p1 := b_p1.below hb
    replace hbel := hbel.trans (hb.mono hbel.size)
    clear hb
    have r0 := b_p1.at_ 0 rfl
    have r1 := b_p1.at_ 1 rfl
    have r2 := b_p1.at_ 2 rfl
    have f0 := b_p1.thaw 0
    have f1 := b_p1.thaw 1
    have f2 := b_p1.thaw 2
    have hl := b_p1.lt
    go_wp2
    exact bodyPost_ret (v := .tuple #[.agg #[.int .i64 0, .int .i64 0, .int .i64 0], .int .i64 0, .bool false]) (by simp [results, go_sem, r0, r1, r2]) rfl ⟨rfl, (by repeat (first | with_reducible exact hbel | with_reducible refine Below.setCell ?_ (by first | omega | (simp <;> omega)) _ | with_reducible refine Below.alloc ?_ (by first | omega | (simp <;> omega)) _ | with_reducible refine Below.drew ?_))⟩
  | true =>
    have HV := Lib.hid (show vofR xB xZ = (valR xB xZ, 0) by simp [vofR, ho])
    have hf : fullB xB (xZ.length : Int) = false := by rw [← accB_of_full ho, h]
    go_enter Tryd.func123, Tryd.ntmps123
    go_wp2_with fail
    obtain ⟨p, hp⟩ : ∃ g, g = w.heap.size := ⟨_, rfl⟩
    have hk_p : w.heap.size ≤ p := Nat.le_of_eq hp.symm
    obtain ⟨u, hu⟩ : ∃ V, V = (w.alloc (.cells #[.int .i64 xB, .slice xA xZ.length xC] 26)).alloc (.cells #[.int .i64 0, .int .i64 0, .int .i64 0] 113) := ⟨_, rfl⟩
    have b_p : Bx u p 26 #[.int .i64 xB, .slice xA xZ.length xC] := by rw [hu, hp]; exact (Bx.new _ _ _).alloc _
    have b_p1 : Bx u (p + 1) 113 #[.int .i64 0, .int .i64 0, .int .i64 0] := by rw [hu, hp]; simpa using Bx.new (w.alloc (.cells #[.int .i64 xB, .slice xA xZ.length xC] 26)) #[.int .i64 0, .int .i64 0, .int .i64 0] 113
    have hb : Below w.heap.size w u := by rw [hu]; exact ((Below.refl _ _).alloc (Nat.le_refl _) _).alloc (by simp) _
    rw [← hp, ← hu]
    clear hu hp
    replace ha := ha.below hb
    replace hbel := hbel.trans (hb.mono hbel.size)
    clear hb
    refine (implValueOf xB xA xC xZ u ha z b).mono ?_
    rintro e v ⟨rfl, hb⟩
    rw [HV.out]
    replace ha := ha.below hb
    replace b_p := b_p.below hb
    replace b_p1 := b_p1.below hb
    replace hbel := hbel.trans (hb.mono hbel.size)
    clear hb
    have c0 := b_p.at_ 0 rfl
    have c1 := b_p.at_ 1 rfl
    go_wp2_with fail
    refine (circle_no xB xZ.length v hf).mono ?_
    rintro e v2 ⟨rfl, hb⟩
    replace ha := ha.below hb
    replace b_p := b_p.below hb
    replace b_p1 := b_p1.below hb
    replace hbel := hbel.trans (hb.mono hbel.size)
    clear hb
    have r0 := b_p1.at_ 0 rfl
    have r1 := b_p1.at_ 1 rfl
    have r2 := b_p1.at_ 2 rfl
    have f0 := b_p1.thaw 0
    have f1 := b_p1.thaw 1
    have f2 := b_p1.thaw 2
    have hl := b_p1.lt
    clear c0 c1 h ho hf
    go_upto_region 5 with fail
    obtain ⟨v3, hv3⟩ : ∃ v3, v3 = ((v2.setCell ⟨p + 1, 0, none⟩ (.int .i64 0)).setCell ⟨p + 1, 1, none⟩ (.int .i64 0)).setCell ⟨p + 1, 2, none⟩ (.int .i64 0) := ⟨_, rfl⟩
    have bq : Bx v3 (p + 1) 113 #[.int .i64 0, .int .i64 0, .int .i64 0] := by rw [hv3]; simpa using ((b_p1.set_ 0 (.int .i64 0)).set_ 1 (.int .i64 0)).set_ 2 (.int .i64 0)
    replace hbel : Below w.heap.size w v3 := by rw [hv3]; exact (by repeat (first | with_reducible exact hbel | with_reducible refine Below.setCell ?_ (by first | omega | (simp <;> omega)) _ | with_reducible refine Below.alloc ?_ (by first | omega | (simp <;> omega)) _ | with_reducible refine Below.drew ?_))
    first | rw [← hv3] | skip
    clear hv3 f0 f1 f2 hl r0 r1 r2
    have r0 := bq.at_ 0 rfl
    have r1 := bq.at_ 1 rfl
    have r2 := bq.at_ 2 rfl
    have f0 := bq.thaw 0
    have f1 := bq.thaw 1
    have f2 := bq.thaw 2
    have hl := bq.lt
    go_wp2
    exact bodyPost_ret (v := .tuple #[.agg #[.int .i64 0, .int .i64 0, .int .i64 0], .int .i64 0, .bool false]) (by simp [results, go_sem, r0, r1, r2]) rfl ⟨rfl, (by repeat (first | with_reducible exact hbel | with_reducible refine Below.setCell ?_ (by first | omega | (simp <;> omega)) _ | with_reducible refine Below.alloc ?_ (by first | omega | (simp <;> omega)) _ | with_reducible refine Below.drew ?_))⟩

set_option maxHeartbeats 4000000 in
set_option maxRecDepth 100000 in
theorem accOf_ok (a : Addr) (xB : Int) (xA : Option Addr) (xC : Nat) (xZ : List Int) (w : World) (ha : Rd w xA xZ) (z : All64 xZ) (b : I64 xB) (h : accB xB xZ = true) (hl : BellAt w a) :
    Calls Tryd.prog 123 #[.agg #[.int .i64 xB, .slice xA xZ.length xC]] w fun e w' => e = .returned (.tuple #[.agg #[.int .i64 xB, .int .i64 xZ.length, .int .i64 (cntA xB xZ.length)], .int .i64 (numA xB xZ), .bool true]) ∧ Below w.heap.size w w' := by
  have R := Tryd.results123
  have hbel : Below w.heap.size w w := Below.refl _ _
  have HV := Lib.hid (show vofR xB xZ = (valR xB xZ, 0) by simp [vofR, (accB_spec h).1])
  have HF := Lib.hid (accB_full h)
  have hc := cntA_bd HF.out
  have hv := valR_acc h
  have HE := Lib.hid (show numA xB xZ = shn (cntA xB xZ.length) (valR xB xZ) from rfl)
  have HO := Lib.hid (fun v => circle_ok xB xZ.length v HF.out)
  obtain ⟨N, hN⟩ : ∃ N, N = cntA xB xZ.length := ⟨_, rfl⟩
  rw [← hN] at HE HO hc ⊢
  obtain ⟨x, hx⟩ : ∃ x, x = valR xB xZ := ⟨_, rfl⟩
  rw [← hx] at HV HE hv
  rw [HE.out]
  have hx64 : I64 x := i64_of (by omega) (by omega)
  have hl1 := hl
  clear hN hx h
  go_enter Tryd.func123, Tryd.ntmps123
  go_wp2_with fail
  obtain ⟨p, hp⟩ : ∃ g, g = w.heap.size := ⟨_, rfl⟩
  have hk_p : w.heap.size ≤ p := Nat.le_of_eq hp.symm
  obtain ⟨u, hu⟩ : ∃ V, V = (w.alloc (.cells #[.int .i64 xB, .slice xA xZ.length xC] 26)).alloc (.cells #[.int .i64 0, .int .i64 0, .int .i64 0] 113) := ⟨_, rfl⟩
  have b_p : Bx u p 26 #[.int .i64 xB, .slice xA xZ.length xC] := by rw [hu, hp]; exact (Bx.new _ _ _).alloc _
  have b_p1 : Bx u (p + 1) 113 #[.int .i64 0, .int .i64 0, .int .i64 0] := by rw [hu, hp]; simpa using Bx.new (w.alloc (.cells #[.int .i64 xB, .slice xA xZ.length xC] 26)) #[.int .i64 0, .int .i64 0, .int .i64 0] 113
  have hb : Below w.heap.size w u := by rw [hu]; exact ((Below.refl _ _).alloc (Nat.le_refl _) _).alloc (by simp) _
  rw [← hp, ← hu]
  clear hu hp
  replace ha := ha.below hb
  replace hl := hl.below hb
  replace hbel := hbel.trans (hb.mono hbel.size)
  clear hb
  refine (implValueOf xB xA xC xZ u ha z b).mono ?_
  rintro e v ⟨rfl, hb⟩
  rw [HV.out]
  replace ha := ha.below hb
  replace hl := hl.below hb
  replace b_p := b_p.below hb
  replace b_p1 := b_p1.below hb
  replace hbel := hbel.trans (hb.mono hbel.size)
  clear hb
  have c0 := b_p.at_ 0 rfl
  have c1 := b_p.at_ 1 rfl
  have f0 := b_p1.thaw 0
  have f1 := b_p1.thaw 1
  have f2 := b_p1.thaw 2
  have hl0 := b_p1.lt
  go_wp2_with fail
  refine (HO.out v).mono ?_
  rintro e v2 ⟨rfl, hb⟩
  clear c0 c1 f0 f1 f2 hl0
  replace ha := ha.below hb
  replace hl := hl.below hb
  replace b_p := b_p.below hb
  replace b_p1 := b_p1.below hb
  replace hbel := hbel.trans (hb.mono hbel.size)
  clear hb
  have r0 := b_p1.at_ 0 rfl
  have r1 := b_p1.at_ 1 rfl
  have r2 := b_p1.at_ 2 rfl
  have f0 := b_p1.thaw 0
  have f1 := b_p1.thaw 1
  have f2 := b_p1.thaw 2
  have hl0 := b_p1.lt
  go_upto_region 5 with fail
  obtain ⟨v3, hv3⟩ : ∃ v3, v3 = ((v2.setCell ⟨p + 1, 0, none⟩ (.int .i64 xB)).setCell ⟨p + 1, 1, none⟩ (.int .i64 xZ.length)).setCell ⟨p + 1, 2, none⟩ (.int .i64 N) := ⟨_, rfl⟩
  have bq : Bx v3 (p + 1) 113 #[.int .i64 xB, .int .i64 xZ.length, .int .i64 N] := by rw [hv3]; simpa using ((b_p1.set_ 0 (.int .i64 xB)).set_ 1 (.int .i64 xZ.length)).set_ 2 (.int .i64 N)
  replace hbel : Below w.heap.size w v3 := by rw [hv3]; exact (by repeat (first | with_reducible exact hbel | with_reducible refine Below.setCell ?_ (by first | omega | (simp <;> omega)) _ | with_reducible refine Below.alloc ?_ (by first | omega | (simp <;> omega)) _ | with_reducible refine Below.drew ?_))
  replace hl : BellAt v3 a := hl1.below hbel
  first | rw [← hv3] | skip
  clear hv3 f0 f1 f2 hl0 b_p1 r0 r1 r2
  have r0 := bq.at_ 0 rfl
  have r1 := bq.at_ 1 rfl
  have r2 := bq.at_ 2 rfl
  have hl0 := bq.lt
  go_wp2_with fail
  refine (shown_any xB xZ.length N x a v3 (by omega) (by omega) hx64 hl).mono ?_
  rintro e v4 ⟨y, rfl, hb⟩
  replace bq := bq.below hb
  replace hbel := hbel.trans (hb.mono hbel.size)
  clear r0 r1 r2 hl0 hb
  have r0 := bq.at_ 0 rfl
  have r1 := bq.at_ 1 rfl
  have r2 := bq.at_ 2 rfl
  have f0 := bq.thaw 0
  have f1 := bq.thaw 1
  have f2 := bq.thaw 2
  have hl0 := bq.lt
  go_wp2
  exact bodyPost_ret (v := .tuple #[.agg #[.int .i64 xB, .int .i64 xZ.length, .int .i64 N], .int .i64 (shn N x), .bool true]) (by simp [results, go_sem, r0, r1, r2]) rfl ⟨rfl, (by repeat (first | with_reducible exact hbel | with_reducible refine Below.setCell ?_ (by first | omega | (simp <;> omega)) _ | with_reducible refine Below.alloc ?_ (by first | omega | (simp <;> omega)) _ | with_reducible refine Below.drew ?_))⟩

set_option maxHeartbeats 2000000 in
theorem numberOf_any (a : Addr) (xB : Int) (xA : Option Addr) (xC : Nat) (xZ : List Int) (w : World) (ha : Rd w xA xZ) (z : All64 xZ) (b : I64 xB) (hl : BellAt w a) :
    Calls Tryd.prog 42 #[.agg #[.int .i64 xB, .slice xA xZ.length xC]] w fun e w' => e = .returned (.tuple #[.int .i64 (numR xB xZ).1, .int .i64 (numR xB xZ).2]) ∧ Below w.heap.size w w' := by
  have R := Tryd.results42
  have hbel : Below w.heap.size w w := Below.refl _ _
  cases h : accB xB xZ with
  | false =>
    have HR := Lib.hid (show numR xB xZ = (0, 1) by simp [numR, h])
    go_enter Tryd.func42, Tryd.ntmps42
    go_wp2_with fail
    obtain ⟨p, hp⟩ : ∃ g, g = w.heap.size := ⟨_, rfl⟩
    have hk_p : w.heap.size ≤ p := Nat.le_of_eq hp.symm
    obtain ⟨u, hu⟩ : ∃ V, V = w.alloc (.cells #[.int .i64 xB, .slice xA xZ.length xC] 26) := ⟨_, rfl⟩
    have b_p : Bx u p 26 #[.int .i64 xB, .slice xA xZ.length xC] := by rw [hu, hp]; exact Bx.new _ _ _
    have hb : Below w.heap.size w u := by rw [hu]; exact (Below.refl _ _).alloc (Nat.le_refl _) _
    rw [← hp, ← hu]
    clear hu hp
    replace ha := ha.below hb
    replace hl := hl.below hb
    replace hbel := hbel.trans (hb.mono hbel.size)
    clear hb
    refine (accOf_no xB xA xC xZ u ha z b h).mono ?_
    rintro e v ⟨rfl, hb⟩
    replace hbel := hbel.trans (hb.mono hbel.size)
    have hs := hbel.size
    go_wp2
    exact bodyPost_ret (v := .tuple #[.int .i64 0, .int .i64 1]) (by simp [results, go_sem]) rfl ⟨by rw [HR.out], (by repeat (first | exact hbel | refine Below.setCell ?_ (by first | omega | (simp <;> omega)) _ | refine Below.alloc ?_ (by first | omega | (simp <;> omega)) _ | refine Below.drew ?_))⟩
  | true =>
    have HR := Lib.hid (show numR xB xZ = (numA xB xZ, 0) by simp [numR, h])
    go_enter Tryd.func42, Tryd.ntmps42
    go_wp2_with fail
    obtain ⟨p, hp⟩ : ∃ g, g = w.heap.size := ⟨_, rfl⟩
    have hk_p : w.heap.size ≤ p := Nat.le_of_eq hp.symm
    obtain ⟨u, hu⟩ : ∃ V, V = w.alloc (.cells #[.int .i64 xB, .slice xA xZ.length xC] 26) := ⟨_, rfl⟩
    have b_p : Bx u p 26 #[.int .i64 xB, .slice xA xZ.length xC] := by rw [hu, hp]; exact Bx.new _ _ _
    have hb : Below w.heap.size w u := by rw [hu]; exact (Below.refl _ _).alloc (Nat.le_refl _) _
    rw [← hp, ← hu]
    clear hu hp
    replace ha := ha.below hb
    replace hl := hl.below hb
    replace hbel := hbel.trans (hb.mono hbel.size)
    clear hb
    refine (accOf_ok a xB xA xC xZ u ha z b h hl).mono ?_
    rintro e v ⟨rfl, hb⟩
    replace hbel := hbel.trans (hb.mono hbel.size)
    have hs := hbel.size
    go_wp2
    exact bodyPost_ret (v := .tuple #[.int .i64 (numA xB xZ), .int .i64 0]) (by simp [results, go_sem]) rfl ⟨by rw [HR.out], (by repeat (first | exact hbel | refine Below.setCell ?_ (by first | omega | (simp <;> omega)) _ | refine Below.alloc ?_ (by first | omega | (simp <;> omega)) _ | refine Below.drew ?_))⟩
theorem implNumberOf (xB : Int) (xA : Option Addr) (xC : Nat) (xZ : List Int) (w : World) (ha : Rd w xA xZ) (z : All64 xZ) (b : I64 xB) (hD : BellD w) :
    Calls Tryd.prog 42 #[.agg #[.int .i64 xB, .slice xA xZ.length xC]] w fun e w' => e = .returned (.tuple #[.int .i64 (numR xB xZ).1, .int .i64 (numR xB xZ).2]) ∧ Below w.heap.size w w' :=
  hD.elim fun a hl => numberOf_any a xB xA xC xZ w ha z b hl
end Go.Proofs.YtlahobdopmdfmaaDoor

/- IsI -/
namespace Go.Proofs.YtlahobdopmdfmaaDoor
open Go.RowKit Go.Extern.Stop Go.Stop Go.Extern

theorem isTypeOf (v : Value) (w : World) : (Extern.ReflectliteType.typeOf #[.iface 220 v]).run Tryd.prog w = .ok (.iface 187 (.agg #[.pointer (some ⟨6, 220, none⟩)])) w := by kernel_rfl
/-- What stands behind the name. -/
def cmpX : Array Value → Sem Value := Extern.ReflectliteType.method fun t => do Go.Extern.Rtype.noPackHeld "Comparable" t; pure (.bool (← typeInfo t).comparable)
theorem isComparable (w : World) : (cmpX #[.agg #[.pointer (some ⟨6, 220, none⟩)]]).run Tryd.prog w = .ok (.bool true) w := by kernel_rfl
set_option maxRecDepth 100000 in
theorem isMethodComparable (n : Nat) (v : Value) (w : World) : (Go.method (n + 1) 187 v "Comparable").run Tryd.prog w = .ok (227, v) w := by kernel_rfl
theorem isComp : (Tryd.prog.info? 220).map (·.comparable) = some true := by kernel_rfl
theorem isSize : (Tryd.prog.info? 243).map (·.size) = some 1 := by kernel_rfl

set_option maxRecDepth 100000 in
set_option maxHeartbeats 1000000 in
/-- errors.Is(x, x), x a pointer to an errors.errorString. -/
theorem is_same (a : Addr) (w : World) :
    Calls Tryd.prog 107 #[.iface 220 (.pointer (some a)), .iface 220 (.pointer (some a))] w fun e w' => e = .returned (.bool true) ∧ w' = w := by
  obtain ⟨i, hi, hcmp⟩ := Option.map_eq_some_iff.1 isComp
  obtain ⟨j, hj, hjs⟩ := Option.map_eq_some_iff.1 isSize
  have h8 := @run_callFunc_extern Tryd.prog 162 _ Extern.ReflectliteType.typeOf Tryd.func162 (by kernel_rfl) (by kernel_rfl) (by kernel_rfl) (by kernel_rfl)
  have h32 := @run_callFunc_extern Tryd.prog 227 _ cmpX Tryd.func227 (by kernel_rfl) (by kernel_rfl) (by kernel_rfl) (by kernel_rfl)
  have tT := isTypeOf
  have cT := isComparable
  have mR := isMethodComparable
  have heq := run_eql_iface_ptr_same (P := Tryd.prog) w a Tryd.underlying117 Tryd.underlying220 hi hcmp hj
  go_enter Tryd.func107, Tryd.ntmps107
  go_wp2
  refine wp_loop_rounds 1 ?_
  rw [rounds_succ]
  go_wp2
  go_ret
  exact ⟨rfl, rfl⟩

set_option maxHeartbeats 1000000 in
/-- errors.Is(nil, x). -/
theorem is_nil (b : Addr) (w : World) :
    Calls Tryd.prog 107 #[.nilIface, .iface 220 (.pointer (some b))] w fun e w' => e = .returned (.bool false) ∧ w' = w := by
  have hn := run_eql_iface_nil_left (P := Tryd.prog) w 220 (.pointer (some b)) Tryd.underlying117
  go_enter Tryd.func107, Tryd.ntmps107
  go_wp2
  go_ret
  exact ⟨rfl, rfl⟩
end Go.Proofs.YtlahobdopmdfmaaDoor

/- Row -/
namespace Go.Proofs.YtlahobdopmdfmaaDoor
open Go.RowKit

/-- v is a slice of the call's own: n elements of s cells each, which hold cs; it lies among the blocks lo .. hi - 1. -/
structure Row (t : TypeId) (s : Nat) (w : World) (lo hi : Nat) (v : Value) (n : Nat) (cs : List Value) : Prop where
  row : w.ownsRow lo t s v n cs
  top : ∀ k, v.ownBlock = some k → k < hi

section
variable {t : TypeId} {s : Nat} {w w' : World} {lo hi n : Nat} {v : Value} {cs : List Value}
theorem Row.lo_le (h : Row t s w lo hi v n cs) {k : Nat} (hk : v.ownBlock = some k) : lo ≤ k ∧ k < hi ∧ k < w.heap.size := ⟨(h.row.lt k hk).1, h.top k hk, (h.row.lt k hk).2⟩
theorem Row.touch {a b : Nat} (h : Row t s w lo hi v n cs) (ht : Touch a b w w') (hd : hi ≤ a ∨ b ≤ lo) : Row t s w' lo hi v n cs :=
  ⟨ownsRow_same h.row fun k hk => ht.block k (h.lo_le hk).2.2 (by have := h.lo_le hk; omega), h.top⟩
theorem Row.below (h : Row t s w lo hi v n cs) (hb : Below w.heap.size w w') : Row t s w' lo hi v n cs :=
  ⟨ownsRow_same h.row fun k hk => hb.block k (h.lo_le hk).2.2, h.top⟩
theorem Row.drewN (h : Row t s w lo hi v n cs) (k : Nat) : Row t s (w.drewN k) lo hi v n cs := ⟨h.row, h.top⟩
theorem Row.drew (h : Row t s w lo hi v n cs) : Row t s w.drew lo hi v n cs := ⟨h.row, h.top⟩
theorem Row.alloc (h : Row t s w lo hi v n cs) (o : Obj) : Row t s (w.alloc o) lo hi v n cs := ⟨h.row.alloc o, h.top⟩
theorem Row.setCell (h : Row t s w lo hi v n cs) {p : Addr} (hp : p.block < lo ∨ hi ≤ p.block) (u : Value) : Row t s (w.setCell p u) lo hi v n cs :=
  ⟨ownsRow_same h.row fun k hk => Below.heap_setCell _ _ _ _ (by have := h.lo_le hk; omega), h.top⟩
theorem Row.wide {lo' hi' : Nat} (h : Row t s w lo hi v n cs) (hl : lo' ≤ lo) (hh : hi ≤ hi') : Row t s w lo' hi' v n cs := by
  obtain ⟨⟨h1, h2⟩, h3⟩ := h
  refine ⟨⟨h1, ?_⟩, fun k hk => Nat.lt_of_lt_of_le (h3 k hk) hh⟩
  rcases h2 with h2 | ⟨g, cap, cur, rfl, hg, r⟩
  · exact .inl h2
  · exact .inr ⟨g, cap, cur, rfl, by omega, r⟩
theorem Row.form (h : Row t s w lo hi v n cs) : ∃ a c, v = .slice a n c := by
  rcases h.row.2 with ⟨rfl, hn⟩ | ⟨g, cap, cur, rfl, _⟩
  · exact ⟨none, 0, by rw [hn]⟩
  · exact ⟨_, _, rfl⟩
theorem row_nil (t : TypeId) (s : Nat) (w : World) (lo hi : Nat) : Row t s w lo hi (.slice none 0 0) 0 [] := ⟨World.ownsRow_nil _ _ _ _, by simp [Value.ownBlock]⟩
/-- A new block whose cells are all of its elements. -/
theorem row_new (t : TypeId) (s : Nat) (w : World) (cs : Array Value) (n : Nat) (hn : cs.size = n * s) (hm : n ≤ 1000000000) : Row t s (w.alloc (.cells cs t)) w.heap.size (w.heap.size + 1) (.slice (some ⟨w.heap.size, 0, none⟩) n n) n cs.toList := by
  refine ⟨⟨by simpa using hn, .inr ⟨w.heap.size, n, cs, rfl, Nat.le_refl _, heap_alloc_new w _, Nat.le_refl _, by unfold maxLen; omega, hn, ?_⟩⟩, fun k hk => ?_⟩
  · rw [List.take_of_length_le (by simpa using Nat.le_of_eq hn)]
  · simp [Value.ownBlock] at hk; omega
/-- The cells of an owned row. -/
theorem Row.cell {a : Addr} {c : Nat} (h : Row t s w lo hi (.slice (some a) n c) n cs) {j : Nat} {u : Value} (hj : cs[j]? = some u) : w.cell? (a.add j) = some u := by
  rcases h.row.2 with ⟨hv, _⟩ | ⟨g, cap, cur, hv, hg, hh, _, _, _, htk⟩
  · cases hv
  · injection hv with ha _ _
    injection ha with ha
    subst ha
    have hj2 : j < n * s := by
      have := h.row.1
      rcases Nat.lt_or_ge j cs.length with h1 | h1
      · omega
      · rw [List.getElem?_eq_none h1] at hj; cases hj
    have e : (cur.toList.take (n * s))[j]? = some u := by rw [htk]; exact hj
    rw [List.getElem?_take_of_lt hj2, Array.getElem?_toList] at e
    have ea : (⟨g, 0, none⟩ : Addr).add j = ⟨g, j, none⟩ := by
      by_cases h0 : j = 0
      · subst h0; rfl
      · simp [Addr.add, h0]
    rw [ea, cell_of_row w g j cur t (0, 0) hh]
    exact e
theorem Row.none_ {c : Nat} (h : Row t s w lo hi (.slice none n c) n cs) : n = 0 ∧ c = 0 ∧ cs = [] := by
  rcases h.row.2 with ⟨hv, hn⟩ | ⟨g, cap, cur, hv, _⟩
  · injection hv with _ _ hc
    exact ⟨hn, hc, List.eq_nil_of_length_eq_zero (by rw [h.row.1, hn, Nat.zero_mul])⟩
  · cases hv
theorem Row.len (h : Row t s w lo hi v n cs) : cs.length = n * s := h.row.1

section
variable {P : Program} {ops : Array Oper} {rest : List Oper} {o : Oper} {a : Act} {Q : Exit → Act → World → Prop}
/-- Elements that can be read, appended to a row of the call's own. -/
theorem wpList_appR (hgd : o.guard = none) (x y : Operand) (t e : TypeId) (ho : o.op = .call { callee := .builtin .append, args := #[x, y], argTypes := #[t, t] }) (z0 : Value) (s bytes : Nat)
    (ht : P.underlying t = some (.slice e)) (hinfo : (P.info? e).map (fun i => (i.zero, i.size, i.bytes)) = some (some z0, s, bytes)) (hz1 : z0.cells.size = s) (hs0 : 0 < s) (hby : bytes ≤ 128) {lo hi n : Nat} {A : Option Addr} {C : Nat} {cs : List Value}
    (hx : a.eval x = .slice A n C) (row : Row e s w lo hi (.slice A n C) n cs)
    (ad : Addr) (m c : Nat) (news : List Value) (hy : a.eval y = .slice (some ad) m c) (hl : news.length = m * s) (hc : ∀ j u, news[j]? = some u → w.cell? (ad.add j) = some u) (h1 : ∀ u ∈ news, u.oneCell' = true) (hn : n + m ≤ 1000000000) (hlo : lo ≤ w.heap.size)
    (h : ∀ A' C' w', Row e s w' lo w'.heap.size (.slice A' (n + m) C') (n + m) (cs ++ news) → Touch lo hi w w' → wpList P ops Q rest (a.put o.dst (.slice A' (n + m) C')) w') :
    wpList P ops Q (o :: rest) a w := by
  obtain ⟨i, hi1, hi2, hi3, hi4⟩ := info_parts hinfo
  refine wpList_append_own w hgd x y t ho lo e i z0 s bytes ht hi1 hi2 hi3 hi4 hz1 hs0 _ n cs hx row.row ad m c news hy hl hc h1 (by unfold maxLen; omega) ?_ hlo ?_
  · have : (n + m) * bytes ≤ 1000000000 * 128 := Nat.mul_le_mul hn hby
    omega
  · intro v' w' hown hg _
    have hT : Touch lo hi w w' := ⟨hg.os, hg.tape, hg.output, hg.size, fun k hk ho' => hg.block k hk (by
      intro he
      have := row.lo_le he.symm
      omega)⟩
    have hform : ∃ A' C', v' = .slice A' (n + m) C' := by
      rcases hown.2 with ⟨h0, h0'⟩ | ⟨g, cap, cur, hv, _⟩
      · exact ⟨none, 0, by rw [h0, h0']⟩
      · exact ⟨_, _, hv⟩
    obtain ⟨A', C', rfl⟩ := hform
    exact h A' C' w' ⟨hown, fun k hk => (hown.lt k hk).2⟩ hT
end
end
theorem own_of_row {t : TypeId} {w : World} {lo hi n : Nat} {v : Value} {zs : List Int} (h : Row t 1 w lo hi v n (zs.map (Value.int .i64))) (hn : n = zs.length) (hl : zs.length ≤ 1000000000) : Own t w lo hi v zs := by
  subst hn; exact ⟨h.row, h.top, hl⟩
end Go.Proofs.YtlahobdopmdfmaaDoor

/- AllM -/
namespace Go.Proofs.YtlahobdopmdfmaaDoor
open Go.RowKit

theorem own_lit9 (e : TypeId) (w : World) : Own e (w.alloc (.cells #[] e)) w.heap.size (w.heap.size + 1) (.slice (some ⟨w.heap.size, 0, none⟩) 0 0) [] :=
  own_of_row (zs := []) (by simpa using row_new e 1 w #[] 0 (by simp) (by omega)) rfl (by simp)
theorem accB_set {B : Int} {m : Nat} (h : fullB B (m : Int) = true) (x : Int) : accB B (setA B (m : Int) x) = true ∧ (setA B (m : Int) x).length = m := by
  obtain ⟨h1, h2, n1, n2, h5⟩ := fullB_spec h
  have hl : (setA B (m : Int) x).length = m := by rw [setA_len]; simp
  have hv := setA_val h x
  have hb := modA_bd h x
  have hc := cntA_bd h
  have hd : digitsB B (setA B (m : Int) x) = true := by
    simp only [digitsB, decide_eq_true_eq]
    exact digsR_bd (by omega) _ _
  refine ⟨?_, hl⟩
  simp only [accB, okB, hl, hd, baseB, widthB, hv, Bool.and_eq_true, decide_eq_true_eq]
  exact ⟨⟨⟨⟨⟨h1, h2⟩, by omega, by omega⟩, trivial⟩, by omega⟩, by simpa using h5⟩
theorem numA_at {B : Int} {m : Nat} (h : fullB B (m : Int) = true) {s : Int} (hs : -(cntA B (m : Int) / 2) ≤ s ∧ s ≤ cntA B (m : Int) - 1 + -(cntA B (m : Int) / 2)) : numA B (setA B (m : Int) s) = s := by
  rw [numA_set h]
  exact shn_self (by have := cntA_bd h; omega) hs
theorem setA_shn {B n : Int} (h : fullB B n = true) (x : Int) : setA B n (shn (cntA B n) x) = setA B n x := setA_congr (shn_mod (by have := cntA_bd h; omega) x)
theorem mostB_at {l : List Int} (h : mostB l = true) {k : Nat} (hk : k < l.length) : -1000000000000 ≤ nth l k ∧ nth l k ≤ 1000000000000 := by
  rw [nth_get hk]
  exact (show ∀ x ∈ l, -1000000000000 ≤ x ∧ x ≤ 1000000000000 by simpa [mostB] using h) _ (List.getElem_mem hk)
theorem mostB_not {l : List Int} {k : Nat} (hk : k < l.length) (h : inB (nth l k) (-1000000000000) 1000000000000 = false) : mostB l = false := by
  cases hm : mostB l with
  | false => rfl
  | true =>
    have := mostB_at hm hk
    have := inB_false h
    omega
theorem mostB_all {l : List Int} (h : ∀ k, k < l.length → inB (nth l k) (-1000000000000) 1000000000000 = true) : mostB l = true := by
  simp only [mostB, decide_eq_true_eq]
  intro x hx
  obtain ⟨k, hk, rfl⟩ := List.getElem_of_mem hx
  have := inB_true (h k hk)
  rwa [nth_get hk] at this
theorem runA_one (N s : Int) (l : List Int) (k : Nat) : (runA N s l (k + 1)).1 = shn N ((runA N s l k).1 + nth l k) := rfl
theorem runA_bell {N s : Int} {l : List Int} {k : Nat} (h : inA N ((runA N s l k).1 + nth l k) = false) : (runA N s l (k + 1)).2 = (runA N s l k).2 ++ [(k : Int)] := by
  show _ ++ (if _ then _ else _) = _
  rw [if_neg (by simp [h])]
theorem runA_none {N s : Int} {l : List Int} {k : Nat} (h : inA N ((runA N s l k).1 + nth l k) = true) : (runA N s l (k + 1)).2 = (runA N s l k).2 := by
  show _ ++ (if _ then _ else _) = _
  rw [if_pos h, List.append_nil]
theorem runA_len (N s : Int) (l : List Int) : ∀ k, (runA N s l k).2.length ≤ k
  | 0 => by simp [runA]
  | k + 1 => by
    have := runA_len N s l k
    cases h : inA N ((runA N s l k).1 + nth l k) with
    | false => rw [runA_bell h]; simp; omega
    | true => rw [runA_none h]; omega

/-- A register and a list of its own, and a code: the list first made. -/
def RegLisC (R : Int × List Int × List Int × Int) (w : World) (e : Ending) (w' : World) : Prop := ∃ (A : Option Addr) (C : Nat) (D : Option Addr) (E m : Nat),
  e = .returned (.tuple #[.agg #[.int .i64 R.1, .slice A R.2.1.length C], .slice D R.2.2.1.length E, .int .i64 R.2.2.2]) ∧
  Own 2 w' m w'.heap.size (.slice A R.2.1.length C) R.2.1 ∧ Own 2 w' w.heap.size m (.slice D R.2.2.1.length E) R.2.2.1 ∧ w.heap.size ≤ m ∧ m ≤ w'.heap.size ∧ Below w.heap.size w w'
/-- The same, in whatever order. -/
def RegLisL (R : Int × List Int × List Int × Int) (w : World) (e : Ending) (w' : World) : Prop := ∃ (A : Option Addr) (C : Nat) (D : Option Addr) (E : Nat),
  e = .returned (.tuple #[.agg #[.int .i64 R.1, .slice A R.2.1.length C], .slice D R.2.2.1.length E, .int .i64 R.2.2.2]) ∧
  Own 2 w' w.heap.size w'.heap.size (.slice A R.2.1.length C) R.2.1 ∧ Own 2 w' w.heap.size w'.heap.size (.slice D R.2.2.1.length E) R.2.2.1 ∧ Below w.heap.size w w'
theorem regLisC_err {R : Int × List Int × List Int × Int} {c : Int} {w w' : World} {e : Ending} (h : R = (0, [], [], c)) (he : e = .returned (.tuple #[.agg #[.int .i64 0, .slice none 0 0], .slice none 0 0, .int .i64 c])) (hb : Below w.heap.size w w') : RegLisC R w e w' := by
  subst h
  exact ⟨none, 0, none, 0, w.heap.size, he, own_nil _ _ _ _, own_nil _ _ _ _, Nat.le_refl _, hb.size, hb⟩
theorem regLisL_err {R : Int × List Int × List Int × Int} {c : Int} {w w' : World} {e : Ending} (h : R = (0, [], [], c)) (he : e = .returned (.tuple #[.agg #[.int .i64 0, .slice none 0 0], .slice none 0 0, .int .i64 c])) (hb : Below w.heap.size w w') : RegLisL R w e w' := by
  subst h
  exact ⟨none, 0, none, 0, he, own_nil _ _ _ _, own_nil _ _ _ _, hb⟩
theorem regLisC_ok {R : Int × List Int × List Int × Int} {b : Int} {zs bs : List Int} {w w' : World} {A D : Option Addr} {C E lo hi l2 h2 n k : Nat} {e : Ending} (h : R = (b, zs, bs, 0)) (hn : zs.length = n) (hk : bs.length = k)
    (he : e = .returned (.tuple #[.agg #[.int .i64 b, .slice A n C], .slice D k E, .int .i64 0]))
    (ho : Own 2 w' lo hi (.slice A n C) zs) (ho2 : Own 2 w' l2 h2 (.slice D k E) bs) (a1 : w.heap.size ≤ l2) (a2 : h2 ≤ lo) (a3 : w.heap.size ≤ lo) (a4 : hi ≤ w'.heap.size) (a5 : lo ≤ w'.heap.size) (hb : Below w.heap.size w w') : RegLisC R w e w' := by
  subst h hn hk
  exact ⟨A, C, D, E, lo, he, ho.wide (Nat.le_refl _) a4, ho2.wide a1 a2, a3, a5, hb⟩
theorem regLisL_ok {R : Int × List Int × List Int × Int} {b : Int} {zs bs : List Int} {w w' : World} {A D : Option Addr} {C E lo hi l2 h2 n k : Nat} {e : Ending} (h : R = (b, zs, bs, 0)) (hn : zs.length = n) (hk : bs.length = k)
    (he : e = .returned (.tuple #[.agg #[.int .i64 b, .slice A n C], .slice D k E, .int .i64 0]))
    (ho : Own 2 w' lo hi (.slice A n C) zs) (ho2 : Own 2 w' l2 h2 (.slice D k E) bs) (a1 : w.heap.size ≤ l2) (a2 : h2 ≤ w'.heap.size) (a3 : w.heap.size ≤ lo) (a4 : hi ≤ w'.heap.size) (hb : Below w.heap.size w w') : RegLisL R w e w' := by
  subst h hn hk
  exact ⟨A, C, D, E, he, ho.wide a3 a4, ho2.wide a1 a2, hb⟩
end Go.Proofs.YtlahobdopmdfmaaDoor

/- RgsI -/
namespace Go.Proofs.YtlahobdopmdfmaaDoor
open Go.RowKit

/-- A register of its own. -/
def RegVI (B : Int) (zs : List Int) (w : World) (e : Ending) (w' : World) : Prop := ∃ A C,
  e = .returned (.agg #[.int .i64 B, .slice A zs.length C]) ∧ Own 2 w' w.heap.size w'.heap.size (.slice A zs.length C) zs ∧ Below w.heap.size w w'

set_option maxRecDepth 100000 in
set_option maxHeartbeats 8000000 in
theorem register_any (B n x : Int) (w : World) (h : fullB B n = true) :
    Calls Tryd.prog 108 #[.agg #[.int .i64 B, .int .i64 n, .int .i64 (cntA B n)], .int .i64 x] w (RegVI B (setA B n x) w) := by
  have R := Tryd.results108
  have hbel : Below w.heap.size w w := Below.refl _ _
  obtain ⟨h1, h2, n1, n2, h5⟩ := fullB_spec h
  have hc := cntA_bd h
  have hm := modA_bd h x
  have HM := Lib.hid (fun w => modulo_any x (cntA B n) w (by omega) (by omega))
  have HN : Hid (∀ v : World, Calls Tryd.prog 136 #[.int .i64 B, .int .i64 n, .int .i64 (x % cntA B n)] v fun e w' => ∃ A C,
      e = .returned (.tuple #[.agg #[.int .i64 B, .slice A (setA B n x).length C], .int .i64 0]) ∧ Own 2 w' v.heap.size w'.heap.size (.slice A (setA B n x).length C) (setA B n x) ∧ Below v.heap.size v w') := Lib.hid fun v => by
    have := implNewRegister B n (x % cntA B n) v (i64_of (by omega) (by omega)) (i64_of (by omega) (by omega)) (i64_of (by omega) (by omega))
    unfold NewRegPost at this
    rw [nrR_set h] at this
    exact this
  obtain ⟨q, hq⟩ : ∃ q, q = x % cntA B n := ⟨_, rfl⟩
  rw [← hq] at HM HN
  obtain ⟨c, hcc⟩ : ∃ c, c = cntA B n := ⟨_, rfl⟩
  rw [← hcc] at HM ⊢
  clear hq hcc h5 h hm hc
  go_enter Tryd.func108, Tryd.ntmps108
  go_upto_region 1 with fail
  have hsu0 : ((w.alloc (.cells #[.int .i64 B, .int .i64 n, .int .i64 c] 113)).alloc (.cells #[.int .i64 0, .slice none 0 0] 26)).heap.size = w.heap.size + 2 := by simp
  obtain ⟨p, hp⟩ : ∃ g, g = w.heap.size := ⟨_, rfl⟩
  have hk_p : w.heap.size ≤ p := Nat.le_of_eq hp.symm
  obtain ⟨u, hu⟩ : ∃ V, V = (w.alloc (.cells #[.int .i64 B, .int .i64 n, .int .i64 c] 113)).alloc (.cells #[.int .i64 0, .slice none 0 0] 26) := ⟨_, rfl⟩
  have b_p : Bx u p 113 #[.int .i64 B, .int .i64 n, .int .i64 c] := by rw [hu, hp]; exact (Bx.new _ _ _).alloc _
  have b_p1 : Bx u (p + 1) 26 #[.int .i64 0, .slice none 0 0] := by rw [hu, hp]; simpa using Bx.new (w.alloc (.cells #[.int .i64 B, .int .i64 n, .int .i64 c] 113)) #[.int .i64 0, .slice none 0 0] 26
  have hb : Below w.heap.size w u := by rw [hu]; exact ((Below.refl _ _).alloc (Nat.le_refl _) _).alloc (by simp) _
  rw [← hp, ← hu]
  clear hu hp
  replace hbel := hbel.trans (hb.mono hbel.size)
  clear hb
  have hsu : w.heap.size + 2 ≤ u.heap.size := by have := b_p1.lt; omega
  have hpu : p + 1 < u.heap.size := b_p1.lt
  clear hsu0
  have k0 := kept_all (b_p.at_ 0 rfl)
  have k1 := kept_all (b_p.at_ 1 rfl)
  have k2 := kept_all (b_p.at_ 2 rfl)
  have hS : Below u.heap.size u u.drew := (Below.refl _ _).drew
  refine wp_region_marked (fun w' => Below u.heap.size u w') 14 (by kernel_rfl) ?_
  refine wpAnyM_take (i := 0) (v := ?_) rfl (by kernel_rfl) (by kernel_rfl) (by kernel_rfl) (by kernel_rfl) (by kernel_rfl) (fun _ _ _ h => h) hS (.inl ⟨by rfl, ?_⟩) ?_
  rotate_left 1
  · intro w' hS'; go_simp; try with_reducible rfl
  simp only [Act.put, List.setIfInBounds_toArray, List.set_cons_succ, List.set_cons_zero, List.getElem_toArray, List.getElem_cons_zero]
  refine wpAnyM_take (i := 1) (v := ?_) rfl (by kernel_rfl) (by kernel_rfl) (by kernel_rfl) (by kernel_rfl) (by kernel_rfl) (fun _ _ _ h => h) hS (.inl ⟨by rfl, ?_⟩) ?_
  rotate_left 1
  · intro w' hS'; go_simp; try with_reducible rfl
  simp only [Act.put, List.setIfInBounds_toArray, List.set_cons_succ, List.set_cons_zero, List.getElem_toArray, List.getElem_cons_succ, List.getElem_cons_zero]
  refine wpAnyM_take (i := 2) (v := ?_) rfl (by kernel_rfl) (by kernel_rfl) (by kernel_rfl) (by kernel_rfl) (by kernel_rfl) (fun _ _ _ h => h) hS (.inl ⟨by rfl, ?_⟩) ?_
  rotate_left 1
  · intro w' hS'; go_simp; try with_reducible rfl
  simp only [Act.put, List.setIfInBounds_toArray, List.set_cons_succ, List.set_cons_zero, List.getElem_toArray, List.getElem_cons_succ, List.getElem_cons_zero]
  refine wpAnyM_take (i := 3) (v := ?_) rfl (by kernel_rfl) (by kernel_rfl) (by kernel_rfl) (by kernel_rfl) (by kernel_rfl) (fun _ _ _ h => h) hS (.inl ⟨by rfl, ?_⟩) ?_
  rotate_left 1
  · intro w' hS'; go_simp; try with_reducible rfl
  simp only [Act.put, List.setIfInBounds_toArray, List.set_cons_succ, List.set_cons_zero, List.getElem_toArray, List.getElem_cons_succ, List.getElem_cons_zero]
  refine wpAnyM_take (i := 4) (v := ?_) rfl (by kernel_rfl) (by kernel_rfl) (by kernel_rfl) (by kernel_rfl) (by kernel_rfl) (fun _ _ _ h => h) hS (.inl ⟨by rfl, ?_⟩) ?_
  rotate_left 1
  · intro w' hS'; go_simp; try with_reducible rfl
  simp only [Act.put, List.setIfInBounds_toArray, List.set_cons_succ, List.set_cons_zero, List.getElem_toArray, List.getElem_cons_succ, List.getElem_cons_zero]
  refine wpAnyM_take (i := 5) (v := ?_) rfl (by kernel_rfl) (by kernel_rfl) (by kernel_rfl) (by kernel_rfl) (by kernel_rfl) (fun _ _ _ h => h) hS (.inl ⟨by rfl, ?_⟩) ?_
  rotate_left 1
  · intro w' hS'; go_simp; try with_reducible rfl
  simp only [Act.put, List.setIfInBounds_toArray, List.set_cons_succ, List.set_cons_zero, List.getElem_toArray, List.getElem_cons_succ, List.getElem_cons_zero]
  refine wpAnyM_take (i := 6) (v := ?_) rfl (by kernel_rfl) (by kernel_rfl) (by kernel_rfl) (by kernel_rfl) (by kernel_rfl) (fun _ _ _ h => h) hS (.inl ⟨by rfl, ?_⟩) ?_
  rotate_left 1
  · intro w' hS'; go_simp; try with_reducible rfl
  simp only [Act.put, List.setIfInBounds_toArray, List.set_cons_succ, List.set_cons_zero, List.getElem_toArray, List.getElem_cons_succ, List.getElem_cons_zero]
  refine wpAnyM_two (i := 7) (j := 12) (by kernel_rfl) rfl rfl (by rfl) (by rfl) (fun K hK => ?_) (fun K hK => ?_)
  · go_simp
    refine (HM.out _).mono ?_
    rintro e X ⟨rfl, hX⟩
    subst X
    refine hK _ _ (.inr hS) ?_
    try simp only [Act.put, List.setIfInBounds_toArray, List.set_cons_succ, List.set_cons_zero, List.getElem_toArray, List.getElem_cons_succ, List.getElem_cons_zero]
    clear hK K
    refine wpAnyM_two (i := 8) (j := 12) (by kernel_rfl) rfl rfl (by rfl) (by rfl) (fun K hK => ?_) (fun K hK => ?_)
    · go_simp
      refine (HN.out u.drew).mono ?_
      rintro e M ⟨A, C, rfl, own, hb⟩
      have hlo := hS.size
      replace hS : Below u.heap.size u M := hS.trans (hb.mono (by simp))
      refine hK _ _ (.inr hS) ?_
      try simp only [Act.put, List.setIfInBounds_toArray, List.set_cons_succ, List.set_cons_zero, List.getElem_toArray, List.getElem_cons_succ, List.getElem_cons_zero]
      clear hK K
      refine wpAnyM_take (i := 9) (v := ?_) rfl (by kernel_rfl) (by kernel_rfl) (by kernel_rfl) (by kernel_rfl) (by kernel_rfl) (fun _ _ _ h => h) hS (.inl ⟨by rfl, ?_⟩) ?_
      rotate_left 1
      · intro w' hS'; go_simp; try with_reducible rfl
      simp only [Act.put, List.setIfInBounds_toArray, List.set_cons_succ, List.set_cons_zero, List.getElem_toArray, List.getElem_cons_succ, List.getElem_cons_zero]
      refine wpAnyM_take (i := 10) (v := ?_) rfl (by kernel_rfl) (by kernel_rfl) (by kernel_rfl) (by kernel_rfl) (by kernel_rfl) (fun _ _ _ h => h) hS (.inl ⟨by rfl, ?_⟩) ?_
      rotate_left 1
      · intro w' hS'; go_simp; try with_reducible rfl
      simp only [Act.put, List.setIfInBounds_toArray, List.set_cons_succ, List.set_cons_zero, List.getElem_toArray, List.getElem_cons_succ, List.getElem_cons_zero]
      refine wpAnyM_take (i := 11) (v := ?_) rfl (by kernel_rfl) (by kernel_rfl) (by kernel_rfl) (by kernel_rfl) (by kernel_rfl) (fun _ _ _ h => h) hS (.inl ⟨by rfl, ?_⟩) ?_
      rotate_left 1
      · intro w' hS'; go_simp; try with_reducible rfl
      simp only [Act.put, List.setIfInBounds_toArray, List.set_cons_succ, List.set_cons_zero, List.getElem_toArray, List.getElem_cons_succ, List.getElem_cons_zero]
      refine wpAnyM_one (i := 12) (by kernel_rfl) rfl (by rfl) (fun K hK => ?_)
      go_simp
      have b5 : Bx (M.alloc (.cells #[.int .i64 0, .slice none 0 0] 26)) M.heap.size 26 #[.int .i64 0, .slice none 0 0] := Bx.new _ _ _
      have hsM : u.heap.size ≤ M.heap.size := hS.size
      replace hS := hS.alloc hsM (.cells #[.int .i64 0, .slice none 0 0] 26)
      obtain ⟨N, hN⟩ : ∃ N, N = M.alloc (.cells #[.int .i64 0, .slice none 0 0] 26) := ⟨_, rfl⟩
      obtain ⟨g, hg⟩ : ∃ g, g = M.heap.size := ⟨_, rfl⟩
      obtain ⟨lo, hlo2⟩ : ∃ lo, lo = u.heap.size := ⟨_, rfl⟩
      obtain ⟨hi, hhi⟩ : ∃ hi, hi = M.heap.size := ⟨_, rfl⟩
      replace own : Own 2 N lo hi (.slice A (setA B n x).length C) (setA B n x) := by rw [hN, hlo2, hhi]; simpa using own.alloc _
      have hgo : lo ≤ g ∧ hi ≤ g := by omega
      rw [← hN] at hS b5 ⊢
      rw [← hg] at b5 ⊢
      have hlw : w.heap.size + 2 ≤ lo := by rw [hlo2]; exact hsu
      have hlu : u.heap.size ≤ lo := by omega
      have hhN : hi ≤ N.heap.size := by rw [hN, hhi]; simp
      have hgu : u.heap.size ≤ g := by omega
      clear hN hg hlo2 hhi
      refine hK _ _ (.inr hS) ?_
      try simp only [Act.put, List.setIfInBounds_toArray, List.set_cons_succ, List.set_cons_zero, List.getElem_toArray, List.getElem_cons_succ, List.getElem_cons_zero]
      clear hK K
      have hg5 := b5.lt
      have hg6 := b5.thaw 0
      have hg7 := b5.thaw 1
      have hg8 := b5.at_ 0 rfl
      have hg9 := b5.at_ 1 rfl
      refine wpAnyM_one (i := 13) (by kernel_rfl) rfl (by rfl) (fun K hK => ?_)
      go_simp
      refine hK _ _ (.inr ((hS.setCell (p := ⟨g, 0, none⟩) (by simp <;> omega) _).setCell (p := ⟨g, 1, none⟩) (by simp <;> omega) _)) ?_
      try simp only [Act.put, List.setIfInBounds_toArray, List.set_cons_succ, List.set_cons_zero, List.getElem_toArray, List.getElem_cons_succ, List.getElem_cons_zero]
      clear hK K
      refine wpAnyM_one (i := 14) (by kernel_rfl) rfl (by rfl) (fun K hK => ?_)
      go_simp
      refine hK _ _ (.inl rfl) ?_
      clear hK K
      refine wpAnyM_done (by kernel_rfl) ?_ _
      try simp only [Act.put, List.setIfInBounds_toArray, List.set_cons_succ, List.set_cons_zero, List.getElem_toArray, List.getElem_cons_succ, List.getElem_cons_zero]
      replace b_p1 := b_p1.below hS
      replace hbel : Below w.heap.size w N := hbel.trans (hS.mono hbel.size)
      have r0 := b_p1.at_ 0 rfl
      have r1 := b_p1.at_ 1 rfl
      have f0 := b_p1.thaw 0
      have f1 := b_p1.thaw 1
      have hl := b_p1.lt
      have hne : ¬ p + 1 = g := by omega
      have hne2 : ¬ g = p + 1 := fun h => hne h.symm
      have hbs := hbel.size
      have og : g < lo ∨ hi ≤ g := by omega
      have op : p + 1 < lo ∨ hi ≤ p + 1 := .inl (by omega)
      go_wp2
      exact bodyPost_ret (v := .agg #[.int .i64 B, .slice A (setA B n x).length C]) (by simp [results, go_sem, r0, r1]) rfl
        ⟨A, C, rfl, (show Own 2 _ lo hi (.slice A (setA B n x).length C) (setA B n x) from (((own.setCell (p := ⟨g, 0, none⟩) og _).setCell (p := ⟨g, 1, none⟩) og _).setCell (p := ⟨p + 1, 0, none⟩) op _).setCell (p := ⟨p + 1, 1, none⟩) op _).wide (by omega) (by simp; omega), (by repeat (first | with_reducible exact hbel | with_reducible refine Below.setCell ?_ (by first | omega | (simp <;> omega)) _ | with_reducible refine Below.alloc ?_ (by first | omega | (simp <;> omega)) _ | with_reducible refine Below.drew ?_))⟩
    · go_simp
      obtain ⟨g, hg⟩ : ∃ g, g = u.heap.size := ⟨_, rfl⟩
      obtain ⟨V, hV⟩ : ∃ V, V = (u.alloc (.cells #[.int .i64 0, .slice none 0 0] 26)).drew := ⟨_, rfl⟩
      have b5 : Bx V g 26 #[.int .i64 0, .slice none 0 0] := by rw [hV, hg]; exact (Bx.new u _ _).drew
      replace hS : Below u.heap.size u V := by rw [hV]; exact ((Below.refl _ _).alloc (Nat.le_refl _) _).drew
      first | rw [← hV] | skip
      first | rw [← hg] | skip
      have hgu : u.heap.size ≤ g := by omega
      have hgV : g + 1 ≤ V.heap.size := by rw [hV, hg]; simp
      clear hV hg
      refine hK _ _ (.inr hS) ?_
      try simp only [Act.put, List.setIfInBounds_toArray, List.set_cons_succ, List.set_cons_zero, List.getElem_toArray, List.getElem_cons_succ, List.getElem_cons_zero]
      clear hK K
      refine wpAnyM_one (i := 8) (by kernel_rfl) rfl (by rfl) (fun K hK => ?_)
      go_simp
      refine (HN.out V).mono ?_
      rintro e M ⟨A, C, rfl, own, hb⟩
      have hlo := hS.size
      replace b5 := b5.below hb
      replace hS : Below u.heap.size u M := hS.trans (hb.mono hS.size)
      obtain ⟨lo, hlo2⟩ : ∃ lo, lo = V.heap.size := ⟨_, rfl⟩
      obtain ⟨hi, hhi⟩ : ∃ hi, hi = M.heap.size := ⟨_, rfl⟩
      rw [← hlo2, ← hhi] at own
      have hgo : g < lo := by omega
      have hlw : w.heap.size + 2 ≤ lo := by omega
      have hlu : u.heap.size ≤ lo := by omega
      have hhN : hi ≤ M.heap.size := by omega
      clear hlo2 hhi
      refine hK _ _ (.inr hS) ?_
      try simp only [Act.put, List.setIfInBounds_toArray, List.set_cons_succ, List.set_cons_zero, List.getElem_toArray, List.getElem_cons_succ, List.getElem_cons_zero]
      clear hK K
      refine wpAnyM_take (i := 9) (v := ?_) rfl (by kernel_rfl) (by kernel_rfl) (by kernel_rfl) (by kernel_rfl) (by kernel_rfl) (fun _ _ _ h => h) hS (.inl ⟨by rfl, ?_⟩) ?_
      rotate_left 1
      · intro w' hS'; go_simp; try with_reducible rfl
      simp only [Act.put, List.setIfInBounds_toArray, List.set_cons_succ, List.set_cons_zero, List.getElem_toArray, List.getElem_cons_succ, List.getElem_cons_zero]
      refine wpAnyM_take (i := 10) (v := ?_) rfl (by kernel_rfl) (by kernel_rfl) (by kernel_rfl) (by kernel_rfl) (by kernel_rfl) (fun _ _ _ h => h) hS (.inl ⟨by rfl, ?_⟩) ?_
      rotate_left 1
      · intro w' hS'; go_simp; try with_reducible rfl
      simp only [Act.put, List.setIfInBounds_toArray, List.set_cons_succ, List.set_cons_zero, List.getElem_toArray, List.getElem_cons_succ, List.getElem_cons_zero]
      refine wpAnyM_take (i := 11) (v := ?_) rfl (by kernel_rfl) (by kernel_rfl) (by kernel_rfl) (by kernel_rfl) (by kernel_rfl) (fun _ _ _ h => h) hS (.inl ⟨by rfl, ?_⟩) ?_
      rotate_left 1
      · intro w' hS'; go_simp; try with_reducible rfl
      simp only [Act.put, List.setIfInBounds_toArray, List.set_cons_succ, List.set_cons_zero, List.getElem_toArray, List.getElem_cons_succ, List.getElem_cons_zero]
      have hg5 := b5.lt
      have hg6 := b5.thaw 0
      have hg7 := b5.thaw 1
      have hg8 := b5.at_ 0 rfl
      have hg9 := b5.at_ 1 rfl
      refine wpAnyM_one (i := 13) (by kernel_rfl) rfl (by rfl) (fun K hK => ?_)
      go_simp
      refine hK _ _ (.inr ((hS.setCell (p := ⟨g, 0, none⟩) (by simp <;> omega) _).setCell (p := ⟨g, 1, none⟩) (by simp <;> omega) _)) ?_
      try simp only [Act.put, List.setIfInBounds_toArray, List.set_cons_succ, List.set_cons_zero, List.getElem_toArray, List.getElem_cons_succ, List.getElem_cons_zero]
      clear hK K
      refine wpAnyM_one (i := 14) (by kernel_rfl) rfl (by rfl) (fun K hK => ?_)
      go_simp
      refine hK _ _ (.inl rfl) ?_
      clear hK K
      refine wpAnyM_done (by kernel_rfl) ?_ _
      try simp only [Act.put, List.setIfInBounds_toArray, List.set_cons_succ, List.set_cons_zero, List.getElem_toArray, List.getElem_cons_succ, List.getElem_cons_zero]
      replace b_p1 := b_p1.below hS
      replace hbel : Below w.heap.size w M := hbel.trans (hS.mono hbel.size)
      have r0 := b_p1.at_ 0 rfl
      have r1 := b_p1.at_ 1 rfl
      have f0 := b_p1.thaw 0
      have f1 := b_p1.thaw 1
      have hl := b_p1.lt
      have hne : ¬ p + 1 = g := by omega
      have hne2 : ¬ g = p + 1 := fun h => hne h.symm
      have hbs := hbel.size
      have og : g < lo ∨ hi ≤ g := by omega
      have op : p + 1 < lo ∨ hi ≤ p + 1 := .inl (by omega)
      go_wp2
      exact bodyPost_ret (v := .agg #[.int .i64 B, .slice A (setA B n x).length C]) (by simp [results, go_sem, r0, r1]) rfl
        ⟨A, C, rfl, (show Own 2 _ lo hi (.slice A (setA B n x).length C) (setA B n x) from (((own.setCell (p := ⟨g, 0, none⟩) og _).setCell (p := ⟨g, 1, none⟩) og _).setCell (p := ⟨p + 1, 0, none⟩) op _).setCell (p := ⟨p + 1, 1, none⟩) op _).wide (by omega) (by simp; omega), (by repeat (first | with_reducible exact hbel | with_reducible refine Below.setCell ?_ (by first | omega | (simp <;> omega)) _ | with_reducible refine Below.alloc ?_ (by first | omega | (simp <;> omega)) _ | with_reducible refine Below.drew ?_))⟩
  · go_simp
    obtain ⟨g, hg⟩ : ∃ g, g = u.heap.size := ⟨_, rfl⟩
    obtain ⟨V, hV⟩ : ∃ V, V = (u.alloc (.cells #[.int .i64 0, .slice none 0 0] 26)).drew := ⟨_, rfl⟩
    have b5 : Bx V g 26 #[.int .i64 0, .slice none 0 0] := by rw [hV, hg]; exact (Bx.new u _ _).drew
    replace hS : Below u.heap.size u V := by rw [hV]; exact ((Below.refl _ _).alloc (Nat.le_refl _) _).drew
    first | rw [← hV] | skip
    first | rw [← hg] | skip
    have hgu : u.heap.size ≤ g := by omega
    have hgV : g + 1 ≤ V.heap.size := by rw [hV, hg]; simp
    clear hV hg
    refine hK _ _ (.inr hS) ?_
    try simp only [Act.put, List.setIfInBounds_toArray, List.set_cons_succ, List.set_cons_zero, List.getElem_toArray, List.getElem_cons_succ, List.getElem_cons_zero]
    clear hK K
    refine wpAnyM_one (i := 7) (by kernel_rfl) rfl (by rfl) (fun K hK => ?_)
    go_simp
    refine (HM.out _).mono ?_
    rintro e X ⟨rfl, hX⟩
    subst X
    refine hK _ _ (.inr hS) ?_
    try simp only [Act.put, List.setIfInBounds_toArray, List.set_cons_succ, List.set_cons_zero, List.getElem_toArray, List.getElem_cons_succ, List.getElem_cons_zero]
    clear hK K
    refine wpAnyM_one (i := 8) (by kernel_rfl) rfl (by rfl) (fun K hK => ?_)
    go_simp
    refine (HN.out V).mono ?_
    rintro e M ⟨A, C, rfl, own, hb⟩
    have hlo := hS.size
    replace b5 := b5.below hb
    replace hS : Below u.heap.size u M := hS.trans (hb.mono hS.size)
    obtain ⟨lo, hlo2⟩ : ∃ lo, lo = V.heap.size := ⟨_, rfl⟩
    obtain ⟨hi, hhi⟩ : ∃ hi, hi = M.heap.size := ⟨_, rfl⟩
    rw [← hlo2, ← hhi] at own
    have hgo : g < lo := by omega
    have hlw : w.heap.size + 2 ≤ lo := by omega
    have hlu : u.heap.size ≤ lo := by omega
    have hhN : hi ≤ M.heap.size := by omega
    clear hlo2 hhi
    refine hK _ _ (.inr hS) ?_
    try simp only [Act.put, List.setIfInBounds_toArray, List.set_cons_succ, List.set_cons_zero, List.getElem_toArray, List.getElem_cons_succ, List.getElem_cons_zero]
    clear hK K
    refine wpAnyM_take (i := 9) (v := ?_) rfl (by kernel_rfl) (by kernel_rfl) (by kernel_rfl) (by kernel_rfl) (by kernel_rfl) (fun _ _ _ h => h) hS (.inl ⟨by rfl, ?_⟩) ?_
    rotate_left 1
    · intro w' hS'; go_simp; try with_reducible rfl
    simp only [Act.put, List.setIfInBounds_toArray, List.set_cons_succ, List.set_cons_zero, List.getElem_toArray, List.getElem_cons_succ, List.getElem_cons_zero]
    refine wpAnyM_take (i := 10) (v := ?_) rfl (by kernel_rfl) (by kernel_rfl) (by kernel_rfl) (by kernel_rfl) (by kernel_rfl) (fun _ _ _ h => h) hS (.inl ⟨by rfl, ?_⟩) ?_
    rotate_left 1
    · intro w' hS'; go_simp; try with_reducible rfl
    simp only [Act.put, List.setIfInBounds_toArray, List.set_cons_succ, List.set_cons_zero, List.getElem_toArray, List.getElem_cons_succ, List.getElem_cons_zero]
    refine wpAnyM_take (i := 11) (v := ?_) rfl (by kernel_rfl) (by kernel_rfl) (by kernel_rfl) (by kernel_rfl) (by kernel_rfl) (fun _ _ _ h => h) hS (.inl ⟨by rfl, ?_⟩) ?_
    rotate_left 1
    · intro w' hS'; go_simp; try with_reducible rfl
    simp only [Act.put, List.setIfInBounds_toArray, List.set_cons_succ, List.set_cons_zero, List.getElem_toArray, List.getElem_cons_succ, List.getElem_cons_zero]
    have hg5 := b5.lt
    have hg6 := b5.thaw 0
    have hg7 := b5.thaw 1
    have hg8 := b5.at_ 0 rfl
    have hg9 := b5.at_ 1 rfl
    refine wpAnyM_one (i := 13) (by kernel_rfl) rfl (by rfl) (fun K hK => ?_)
    go_simp
    refine hK _ _ (.inr ((hS.setCell (p := ⟨g, 0, none⟩) (by simp <;> omega) _).setCell (p := ⟨g, 1, none⟩) (by simp <;> omega) _)) ?_
    try simp only [Act.put, List.setIfInBounds_toArray, List.set_cons_succ, List.set_cons_zero, List.getElem_toArray, List.getElem_cons_succ, List.getElem_cons_zero]
    clear hK K
    refine wpAnyM_one (i := 14) (by kernel_rfl) rfl (by rfl) (fun K hK => ?_)
    go_simp
    refine hK _ _ (.inl rfl) ?_
    clear hK K
    refine wpAnyM_done (by kernel_rfl) ?_ _
    try simp only [Act.put, List.setIfInBounds_toArray, List.set_cons_succ, List.set_cons_zero, List.getElem_toArray, List.getElem_cons_succ, List.getElem_cons_zero]
    replace b_p1 := b_p1.below hS
    replace hbel : Below w.heap.size w M := hbel.trans (hS.mono hbel.size)
    have r0 := b_p1.at_ 0 rfl
    have r1 := b_p1.at_ 1 rfl
    have f0 := b_p1.thaw 0
    have f1 := b_p1.thaw 1
    have hl := b_p1.lt
    have hne : ¬ p + 1 = g := by omega
    have hne2 : ¬ g = p + 1 := fun h => hne h.symm
    have hbs := hbel.size
    have og : g < lo ∨ hi ≤ g := by omega
    have op : p + 1 < lo ∨ hi ≤ p + 1 := .inl (by omega)
    go_wp2
    exact bodyPost_ret (v := .agg #[.int .i64 B, .slice A (setA B n x).length C]) (by simp [results, go_sem, r0, r1]) rfl
      ⟨A, C, rfl, (show Own 2 _ lo hi (.slice A (setA B n x).length C) (setA B n x) from (((own.setCell (p := ⟨g, 0, none⟩) og _).setCell (p := ⟨g, 1, none⟩) og _).setCell (p := ⟨p + 1, 0, none⟩) op _).setCell (p := ⟨p + 1, 1, none⟩) op _).wide (by omega) (by simp; omega), (by repeat (first | with_reducible exact hbel | with_reducible refine Below.setCell ?_ (by first | omega | (simp <;> omega)) _ | with_reducible refine Below.alloc ?_ (by first | omega | (simp <;> omega)) _ | with_reducible refine Below.drew ?_))⟩
end Go.Proofs.YtlahobdopmdfmaaDoor

/- Flat -/
namespace Go.Proofs.YtlahobdopmdfmaaDoor
open Go.RowKit

/-- How an element lies in cells. -/
structure Flat (α : Type) where
  sz : Nat
  cells : α → List Value
  zero : α
  len : ∀ x, (cells x).length = sz
  one : ∀ x, ∀ v ∈ cells x, v.oneCell' = true
  pos : 0 < sz

def pairF : Flat (Int × Int) := ⟨2, fun z => [.int .i64 z.1, .int .i64 z.2], (0, 0), fun _ => rfl, fun _ v hv => by simp at hv; rcases hv with rfl | rfl <;> rfl, by omega⟩
def tripF : Flat (Int × Int × Int) := ⟨3, fun z => [.int .i64 z.1, .int .i64 z.2.1, .int .i64 z.2.2], (0, 0, 0), fun _ => rfl, fun _ v hv => by simp at hv; rcases hv with rfl | rfl | rfl <;> rfl, by omega⟩
def textF : Flat ByteArray := ⟨1, fun s => [.string s], ByteArray.empty, fun _ => rfl, fun _ v hv => by simp at hv; subst hv; rfl, by omega⟩

section
variable {α : Type} (F : Flat α)
/-- The cells of a row, one element behind the other. -/
def flat (xs : List α) : List Value := xs.flatMap F.cells
/-- The k-th element (a word that the walk does not open). -/
def elt (xs : List α) (k : Nat) : α := xs[k]?.getD F.zero
variable {F}
theorem elt_get {xs : List α} {k : Nat} (h : k < xs.length) : elt F xs k = xs[k] := by simp [elt, h]
theorem elt_some {xs : List α} {k : Nat} (h : k < xs.length) : xs[k]? = some (elt F xs k) := by rw [elt_get h]; exact List.getElem?_eq_getElem h
theorem flat_len (xs : List α) : (flat F xs).length = xs.length * F.sz := by
  induction xs with
  | nil => simp [flat]
  | cons x xs ih => simp only [flat, List.flatMap_cons, List.length_append, F.len, List.length_cons] at ih ⊢; rw [ih, Nat.succ_mul, Nat.add_comm]
theorem flat_nil : flat F ([] : List α) = [] := rfl
theorem flat_append (xs ys : List α) : flat F (xs ++ ys) = flat F xs ++ flat F ys := by simp [flat]
theorem flat_one (x : α) : flat F [x] = F.cells x := by simp [flat]
theorem flat_cons (x : α) (xs : List α) : flat F (x :: xs) = F.cells x ++ flat F xs := by simp [flat]
theorem flat_get {xs : List α} {i j : Nat} {x : α} {v : Value} (h : xs[i]? = some x) (hj : (F.cells x)[j]? = some v) : (flat F xs)[i * F.sz + j]? = some v := by
  induction xs generalizing i with
  | nil => simp at h
  | cons y ys ih =>
    rw [flat_cons]
    have hj' : j < F.sz := by have := (List.getElem?_eq_some_iff.1 hj).1; rwa [F.len] at this
    cases i with
    | zero =>
      simp only [List.getElem?_cons_zero, Option.some.injEq] at h
      subst h
      rw [Nat.zero_mul, Nat.zero_add, List.getElem?_append_left (by rw [F.len]; exact hj')]
      exact hj
    | succ i =>
      rw [List.getElem?_append_right (by rw [F.len, Nat.succ_mul]; omega), F.len, show (i + 1) * F.sz + j - F.sz = i * F.sz + j by rw [Nat.succ_mul]; omega]
      exact ih (by simpa using h)
theorem flat_mem {xs : List α} : ∀ v ∈ flat F xs, v.oneCell' = true := by
  intro v hv
  simp only [flat, List.mem_flatMap] at hv
  obtain ⟨x, _, hx⟩ := hv
  exact F.one x v hx
/-- One cell of an element is written. -/
theorem flat_set {xs : List α} {i j : Nat} {x y : α} {v : Value} (h : xs[i]? = some x) (hj : j < F.sz) (hy : F.cells y = (F.cells x).set j v) : (flat F xs).set (i * F.sz + j) v = flat F (xs.set i y) := by
  induction xs generalizing i with
  | nil => simp at h
  | cons z zs ih =>
    cases i with
    | zero =>
      simp only [List.getElem?_cons_zero, Option.some.injEq] at h
      subst h
      rw [flat_cons, List.set_cons_zero, flat_cons, Nat.zero_mul, Nat.zero_add, List.set_append_left _ _ (by rw [F.len]; exact hj), hy]
    | succ i =>
      rw [flat_cons, List.set_cons_succ, flat_cons, List.set_append_right _ _ (by rw [F.len, Nat.succ_mul]; omega), F.len, show (i + 1) * F.sz + j - F.sz = i * F.sz + j by rw [Nat.succ_mul]; omega, ih (by simpa using h)]

theorem list_ext_elt {xs ys : List α} (hl : xs.length = ys.length) (h : ∀ k, k < xs.length → elt F xs k = elt F ys k) : xs = ys := by
  apply List.ext_getElem hl
  intro k h1 h2
  have := h k h1
  rwa [elt_get h1, elt_get h2] at this
theorem takeE_snoc {xs ys : List α} {k : Nat} (hk : k < xs.length) (hl : xs.length = ys.length) (h : xs.take k = ys.take k) (he : elt F xs k = elt F ys k) : xs.take (k + 1) = ys.take (k + 1) := by
  have hk' : k < ys.length := by omega
  rw [elt_get hk, elt_get hk'] at he
  rw [List.take_succ_eq_append_getElem hk, List.take_succ_eq_append_getElem hk', h, he]
theorem neE_of_at {xs ys : List α} {k : Nat} (he : ¬ elt F xs k = elt F ys k) : ¬ xs = ys := by rintro rfl; exact he rfl
theorem takeE_all {xs ys : List α} (hl : xs.length = ys.length) (h : xs.take xs.length = ys.take xs.length) : xs = ys := by
  rw [List.take_of_length_le (Nat.le_refl _), hl, List.take_of_length_le (Nat.le_refl _)] at h
  exact h
theorem takeE_succ {xs : List α} {k : Nat} (hk : k < xs.length) : xs.take (k + 1) = xs.take k ++ [elt F xs k] := by rw [List.take_succ_eq_append_getElem hk, elt_get hk]
theorem dropE {xs : List α} {k : Nat} (hk : k < xs.length) : xs.drop k = elt F xs k :: xs.drop (k + 1) := by rw [List.drop_eq_getElem_cons hk, elt_get hk]
theorem elt_mem {xs : List α} {k : Nat} (hk : k < xs.length) : elt F xs k ∈ xs := by rw [elt_get hk]; exact List.getElem_mem _
theorem allE_succ {p : α → Prop} {xs : List α} {k : Nat} (hk : k < xs.length) (h : ∀ x ∈ xs.take k, p x) (he : p (elt F xs k)) : ∀ x ∈ xs.take (k + 1), p x := by
  rw [takeE_succ (F := F) hk]
  intro x hx
  rcases List.mem_append.1 hx with h1 | h1
  · exact h x h1
  · rw [List.mem_singleton] at h1; subst h1; exact he
theorem elt_set_eq {xs : List α} {k : Nat} (hk : k < xs.length) (x : α) : elt F (xs.set k x) k = x := by simp [elt, hk]
theorem elt_set_ne {xs : List α} {k j : Nat} (h : j ≠ k) (x : α) : elt F (xs.set j x) k = elt F xs k := by simp [elt, List.getElem?_set_ne h]
theorem elt_append_left {xs ys : List α} {k : Nat} (h : k < xs.length) : elt F (xs ++ ys) k = elt F xs k := by simp [elt, List.getElem?_append_left h]

/-- The cells from this address on read as these elements, which are not too many. -/
structure RdF (F : Flat α) (w : World) (a : Option Addr) (xs : List α) : Prop where
  len : xs.length ≤ 1000000000
  cells : xs ≠ [] → ∃ b off, a = some ⟨b, off, none⟩ ∧ ∀ (i : Nat) (x : α), xs[i]? = some x → ∀ (j : Nat) (v : Value), (F.cells x)[j]? = some v → w.cell? ⟨b, off + i * F.sz + j, none⟩ = some v

theorem RdF.at_ {w : World} {a : Option Addr} {xs : List α} (h : RdF F w a xs) {k : Nat} (hk : k < xs.length) :
    ∃ b off, a = some ⟨b, off, none⟩ ∧ ∀ (j : Nat) (v : Value), (F.cells (elt F xs k))[j]? = some v → w.cell? ⟨b, off + k * F.sz + j, none⟩ = some v := by
  obtain ⟨b, off, rfl, hc⟩ := h.cells (by rintro rfl; simp at hk)
  exact ⟨b, off, rfl, fun j v hv => hc k _ (elt_some hk) j v hv⟩
theorem RdF.drewN {w : World} {a : Option Addr} {xs : List α} (h : RdF F w a xs) (n : Nat) : RdF F (w.drewN n) a xs := ⟨h.len, h.cells⟩
theorem RdF.drew {w : World} {a : Option Addr} {xs : List α} (h : RdF F w a xs) : RdF F w.drew a xs := ⟨h.len, h.cells⟩
theorem RdF.below {w w' : World} {a : Option Addr} {xs : List α} (h : RdF F w a xs) (hb : Below w.heap.size w w') : RdF F w' a xs := by
  refine ⟨h.len, fun hne => ?_⟩
  obtain ⟨b, off, rfl, hc⟩ := h.cells hne
  exact ⟨b, off, rfl, fun i x hx j v hv => (hb.cell (p := ⟨b, _, none⟩) (World.block_lt_of_cell? _ _ (hc i x hx j v hv))).trans (hc i x hx j v hv)⟩

/-- All numbers fit an int64. -/
def All2 (xs : List (Int × Int)) : Prop := ∀ x ∈ xs, I64 x.1 ∧ I64 x.2
def All3 (xs : List (Int × Int × Int)) : Prop := ∀ x ∈ xs, I64 x.1 ∧ I64 x.2.1 ∧ I64 x.2.2
/-- Elements that came in: of whatever number. -/
structure RawF (F : Flat α) (p : α → Prop) (w : World) (a : Option Addr) (xs : List α) : Prop where
  len : xs.length ≤ 9223372036854775807
  wf : ∀ x ∈ xs, p x
  cells : xs ≠ [] → ∃ b off, a = some ⟨b, off, none⟩ ∧ ∀ (i : Nat) (x : α), xs[i]? = some x → ∀ (j : Nat) (v : Value), (F.cells x)[j]? = some v → w.cell? ⟨b, off + i * F.sz + j, none⟩ = some v
theorem RawF.rd {p : α → Prop} {w : World} {a : Option Addr} {xs : List α} (h : RawF F p w a xs) (hl : xs.length ≤ 1000000000) : RdF F w a xs := ⟨hl, h.cells⟩

/-- v is a slice of the call's own that holds these elements; it lies among the blocks lo .. hi - 1. -/
structure OwnF (F : Flat α) (t : TypeId) (w : World) (lo hi : Nat) (v : Value) (xs : List α) : Prop where
  row : Row t F.sz w lo hi v xs.length (flat F xs)
  len : xs.length ≤ 1000000000

section
variable {t : TypeId} {w w' : World} {lo hi : Nat} {v : Value} {xs : List α}
theorem OwnF.lo_le (h : OwnF F t w lo hi v xs) {k : Nat} (hk : v.ownBlock = some k) : lo ≤ k ∧ k < hi ∧ k < w.heap.size := h.row.lo_le hk
theorem OwnF.touch {a b : Nat} (h : OwnF F t w lo hi v xs) (ht : Touch a b w w') (hd : hi ≤ a ∨ b ≤ lo) : OwnF F t w' lo hi v xs := ⟨h.row.touch ht hd, h.len⟩
theorem OwnF.below (h : OwnF F t w lo hi v xs) (hb : Below w.heap.size w w') : OwnF F t w' lo hi v xs := ⟨h.row.below hb, h.len⟩
theorem OwnF.drewN (h : OwnF F t w lo hi v xs) (n : Nat) : OwnF F t (w.drewN n) lo hi v xs := ⟨h.row.drewN n, h.len⟩
theorem OwnF.drew (h : OwnF F t w lo hi v xs) : OwnF F t w.drew lo hi v xs := ⟨h.row.drew, h.len⟩
theorem OwnF.alloc (h : OwnF F t w lo hi v xs) (o : Obj) : OwnF F t (w.alloc o) lo hi v xs := ⟨h.row.alloc o, h.len⟩
theorem OwnF.setCell (h : OwnF F t w lo hi v xs) {p : Addr} (hp : p.block < lo ∨ hi ≤ p.block) (u : Value) : OwnF F t (w.setCell p u) lo hi v xs := ⟨h.row.setCell hp u, h.len⟩
theorem OwnF.wide {lo' hi' : Nat} (h : OwnF F t w lo hi v xs) (hl : lo' ≤ lo) (hh : hi ≤ hi') : OwnF F t w lo' hi' v xs := ⟨h.row.wide hl hh, h.len⟩
theorem OwnF.form (h : OwnF F t w lo hi v xs) : ∃ a c, v = .slice a xs.length c := h.row.form
theorem OwnF.low {L : Nat} (h : OwnF F t w lo hi v xs) (hb : Below L w w') (hg : hi ≤ L) : OwnF F t w' lo hi v xs :=
  ⟨⟨ownsRow_same h.row.row fun k hk => hb.block k (by have := h.lo_le hk; omega), h.row.top⟩, h.len⟩
theorem ownF_nil (F : Flat α) (t : TypeId) (w : World) (lo hi : Nat) : OwnF F t w lo hi (.slice none 0 0) [] := ⟨row_nil _ _ _ _ _, by simp⟩
/-- What is owned can be read. -/
theorem OwnF.rd {a : Option Addr} {n c : Nat} (h : OwnF F t w lo hi (.slice a n c) xs) : RdF F w a xs := by
  refine ⟨h.len, fun hne => ?_⟩
  have hn : n = xs.length := by
    obtain ⟨a', c', e⟩ := h.form
    injection e
  subst hn
  rcases h.row.row.2 with ⟨_, h0⟩ | ⟨g, cap, cur, hv, hg, hh, hc, _, _, htk⟩
  · exact absurd (List.eq_nil_of_length_eq_zero h0) hne
  · injection hv with ha _ _
    subst ha
    refine ⟨g, 0, rfl, fun i x hx j v hv => ?_⟩
    have h1 := flat_get hx hv
    have hi : i * F.sz + j < xs.length * F.sz := by rw [← flat_len (F := F)]; exact (List.getElem?_eq_some_iff.1 h1).1
    rw [Nat.zero_add, h.row.row.cellAt _ hi, h1]
theorem OwnF.blk {g n c : Nat} (h : OwnF F t w lo hi (.slice (some ⟨g, 0, none⟩) n c) xs) : lo ≤ g ∧ g < hi ∧ g < w.heap.size := h.lo_le rfl
theorem OwnF.num {a : Option Addr} {n c : Nat} (h : OwnF F t w lo hi (.slice a n c) xs) : n = xs.length := by
  obtain ⟨a', c', e⟩ := h.form
  injection e
/-- A row that is not empty begins a block. -/
theorem OwnF.head {a : Option Addr} {n c : Nat} (h : OwnF F t w lo hi (.slice a n c) xs) (hne : 0 < xs.length) : ∃ g, a = some ⟨g, 0, none⟩ ∧ lo ≤ g ∧ g < hi ∧ g < w.heap.size := by
  rcases h.row.row.2 with ⟨_, h0⟩ | ⟨g, cap, cur, hv, _⟩
  · omega
  · injection hv with ha _ _
    subst ha
    exact ⟨g, rfl, h.lo_le rfl⟩
theorem OwnF.get {g n c : Nat} (h : OwnF F t w lo hi (.slice (some ⟨g, 0, none⟩) n c) xs) {k j : Nat} {u : Value} (hk : k < xs.length) (hv : (F.cells (elt F xs k))[j]? = some u) : w.cell? ⟨g, k * F.sz + j, none⟩ = some u := by
  obtain ⟨b, off, e, hc⟩ := h.rd.at_ hk
  have h1 := flat_get (F := F) (elt_some (F := F) hk) hv
  obtain rfl := h.num
  rw [h.row.row.cellAt _ (by rw [← flat_len (F := F)]; exact (List.getElem?_eq_some_iff.1 h1).1), h1]
theorem OwnF.thaw {g n c : Nat} (h : OwnF F t w lo hi (.slice (some ⟨g, 0, none⟩) n c) xs) (j : Nat) : w.frozen? ⟨g, j, none⟩ = false := by
  obtain rfl := h.num
  exact h.row.row.frozenAt j
/-- One cell of an element is written. -/
theorem OwnF.put {g n c : Nat} (h : OwnF F t w lo hi (.slice (some ⟨g, 0, none⟩) n c) xs) {k j : Nat} {y : α} {u : Value} (hk : k < xs.length) (hj : j < F.sz) (hy : F.cells y = (F.cells (elt F xs k)).set j u) :
    OwnF F t (w.setCell ⟨g, k * F.sz + j, none⟩ u) lo hi (.slice (some ⟨g, 0, none⟩) n c) (xs.set k y) := by
  obtain rfl := h.num
  have hs := (h.row.row.stored (k * F.sz + j) u).1
  rw [flat_set (elt_some hk) hj hy] at hs
  exact ⟨⟨by simpa using hs, by simpa using h.row.top⟩, by simpa using h.len⟩
theorem ownF_first {n c : Nat} (h : OwnF F t w lo hi (.slice (some ⟨lo, 0, none⟩) n c) xs) : OwnF F t w lo (lo + 1) (.slice (some ⟨lo, 0, none⟩) n c) xs :=
  ⟨⟨h.row.row, fun k hk => by simp [Value.ownBlock] at hk; omega⟩, h.len⟩
end
end

/-- Elements with empty ones behind them, up to n. -/
def padF {α : Type} (F : Flat α) (n : Nat) (xs : List α) : List α := xs ++ List.replicate (n - xs.length) F.zero
section
variable {α : Type} {F : Flat α}
theorem padF_len {n : Nat} {xs : List α} (h : xs.length ≤ n) : (padF F n xs).length = n := by simp [padF]; omega
theorem padF_set {n : Nat} {xs : List α} (h : xs.length < n) (x : α) : (padF F n xs).set xs.length x = padF F n (xs ++ [x]) := by
  unfold padF
  rw [List.set_append_right _ _ (Nat.le_refl _), Nat.sub_self]
  have : n - xs.length = (n - (xs ++ [x]).length) + 1 := by simp; omega
  rw [this, List.replicate_succ, List.set_cons_zero, List.append_assoc, List.singleton_append]
theorem padF_all {n : Nat} {xs : List α} (h : xs.length = n) : padF F n xs = xs := by simp [padF, h]
theorem elt_padF {n : Nat} {xs : List α} (h : xs.length < n) : elt F (padF F n xs) xs.length = F.zero := by
  unfold elt padF
  rw [List.getElem?_append_right (Nat.le_refl _), Nat.sub_self, List.getElem?_replicate, if_pos (by omega)]; rfl

theorem made_flat (F : Flat α) (z : Array Value) (n : Nat) (hz : z.toList = F.cells F.zero) : (madeCells z (n * F.sz)).toList = flat F (padF F n []) := by
  have hs : z.size = F.sz := by rw [← F.len F.zero, ← hz, Array.length_toList]
  apply List.ext_getElem?
  intro j
  by_cases hj : j < n * F.sz
  · have hq : j / F.sz < n := (Nat.div_lt_iff_lt_mul F.pos).2 hj
    have hr : j % F.sz < F.sz := Nat.mod_lt _ F.pos
    have h0 : (padF F n [])[j / F.sz]? = some F.zero := by simp [padF, hq]
    have hc : (F.cells F.zero)[j % F.sz]? = some (z[j % F.sz]'(by omega)) := by
      rw [← hz, Array.getElem?_toList]; exact Array.getElem?_eq_getElem (by omega)
    have := flat_get (F := F) h0 hc
    rw [show j / F.sz * F.sz + j % F.sz = j by rw [Nat.mul_comm]; exact Nat.div_add_mod j F.sz] at this
    rw [this]
    have hb : z[j % z.size]! = z[j % F.sz]'(by omega) := by
      have e : z[j % z.size]! = z[j % z.size]'(by rw [hs]; omega) := getElem!_pos z _ _
      rw [e]
      congr 1
      rw [hs]
    simp [madeCells, hj, hb]
  · rw [List.getElem?_eq_none (by rw [Array.length_toList, size_madeCells]; omega), List.getElem?_eq_none (by rw [flat_len, padF_len (by simp)]; omega)]

/-- make([]T, n). -/
theorem wpList_makeF (F : Flat α) {P : Program} {w : World} {ops : Array Oper} {rest : List Oper} {o : Oper} {a : Act} {Q : Exit → Act → World → Prop}
    (hg : o.guard = none) (l c : Operand) (t e : TypeId) (hop : o.op = Op.makeSlice t l c) (h1 : P.underlying t = some (.slice e)) (z0 : Value) (bytes : Nat)
    (hinfo : (P.info? e).map (fun i => (i.zero, i.size, i.bytes)) = some (some z0, F.sz, bytes)) (hz0 : z0.cells.toList = F.cells F.zero) (hby : bytes ≤ 128)
    (n : Nat) (hl : a.eval l = .int .i64 n) (hc : a.eval c = .int .i64 n) (hn : n ≤ 1000000000)
    (hK : ∀ w', OwnF F e w' w.heap.size w'.heap.size (.slice (some ⟨w.heap.size, 0, none⟩) n n) (padF F n []) → Below w.heap.size w w' → wpList P ops Q rest (a.put o.dst (.slice (some ⟨w.heap.size, 0, none⟩) n n)) w') :
    wpList P ops Q (o :: rest) a w := by
  obtain ⟨i, hi1, hi2, hi3, hi4⟩ := info_parts hinfo
  have hb : i.bytes * n ≤ 128 * 1000000000 := Nat.mul_le_mul (by omega) hn
  refine wpList_make_full w hg l c t hop w.heap.size e i _ F.sz h1 hi1 hi2 hi3 .i64 .i64 n n n hl hc rfl rfl (by omega) (by unfold maxLen; omega) (Nat.le_refl _) fun w' hown hgr => ?_
  rw [made_flat F _ n hz0] at hown
  exact hK w' ⟨⟨by rw [padF_len (by simp)]; exact hown, fun k hk => (hown.lt k hk).2⟩, by rw [padF_len (by simp)]; exact hn⟩ ((Below.refl _ _).grown hgr (Nat.le_refl _) (by simp))
end

theorem flat_split {α : Type} {F : Flat α} {xs : List α} {j : Nat} {v : Value} (h : (flat F xs)[j]? = some v) : ∃ x, xs[j / F.sz]? = some x ∧ (F.cells x)[j % F.sz]? = some v := by
  have hj : j < xs.length * F.sz := by rw [← flat_len (F := F)]; exact (List.getElem?_eq_some_iff.1 h).1
  have hq : j / F.sz < xs.length := (Nat.div_lt_iff_lt_mul F.pos).2 hj
  have hr : j % F.sz < (F.cells xs[j / F.sz]).length := by rw [F.len]; exact Nat.mod_lt _ F.pos
  refine ⟨xs[j / F.sz], List.getElem?_eq_getElem hq, ?_⟩
  have h2 := flat_get (F := F) (List.getElem?_eq_getElem hq) (List.getElem?_eq_getElem hr)
  rw [show j / F.sz * F.sz + j % F.sz = j by rw [Nat.mul_comm]; exact Nat.div_add_mod j F.sz, h] at h2
  rw [List.getElem?_eq_getElem hr]
  exact h2.symm
/-- All cells of a row that can be read. -/
theorem RdF.news {α : Type} {F : Flat α} {w : World} {b off : Nat} {xs : List α} (h : RdF F w (some ⟨b, off, none⟩) xs) : ∀ j u, (flat F xs)[j]? = some u → w.cell? ((⟨b, off, none⟩ : Addr).add j) = some u := by
  intro j u hj
  obtain ⟨x, hx, hv⟩ := flat_split hj
  have hne : xs ≠ [] := by rintro rfl; simp at hx
  obtain ⟨b', off', e, hc⟩ := h.cells hne
  injection e with e
  injection e with e1 e2 _
  subst e1 e2
  have := hc _ x hx _ u hv
  rw [show off + j / F.sz * F.sz + j % F.sz = off + j by rw [Nat.add_assoc, Nat.mul_comm (j / F.sz), Nat.div_add_mod]] at this
  have ea : (⟨b, off, none⟩ : Addr).add j = ⟨b, off + j, none⟩ := by
    by_cases h0 : j = 0
    · subst h0; rfl
    · simp [Addr.add, h0]
  rw [ea]
  exact this
section
variable {t : TypeId} {w : World} {lo hi g n c k : Nat}
theorem RdF.at2 {a : Option Addr} {xs : List (Int × Int)} (h : RdF pairF w a xs) (hk : k < xs.length) :
    ∃ b off, a = some ⟨b, off, none⟩ ∧ w.cell? ⟨b, off + k * 2, none⟩ = some (.int .i64 (elt pairF xs k).1) ∧ w.cell? ⟨b, off + k * 2 + 1, none⟩ = some (.int .i64 (elt pairF xs k).2) := by
  obtain ⟨b, off, rfl, hc⟩ := h.at_ hk
  exact ⟨b, off, rfl, hc 0 _ rfl, hc 1 _ rfl⟩
theorem RdF.at3 {a : Option Addr} {xs : List (Int × Int × Int)} (h : RdF tripF w a xs) (hk : k < xs.length) :
    ∃ b off, a = some ⟨b, off, none⟩ ∧ w.cell? ⟨b, off + k * 3, none⟩ = some (.int .i64 (elt tripF xs k).1) ∧ w.cell? ⟨b, off + k * 3 + 1, none⟩ = some (.int .i64 (elt tripF xs k).2.1) ∧
      w.cell? ⟨b, off + k * 3 + 2, none⟩ = some (.int .i64 (elt tripF xs k).2.2) := by
  obtain ⟨b, off, rfl, hc⟩ := h.at_ hk
  exact ⟨b, off, rfl, hc 0 _ rfl, hc 1 _ rfl, hc 2 _ rfl⟩
theorem OwnF.get2 {xs : List (Int × Int)} (h : OwnF pairF t w lo hi (.slice (some ⟨g, 0, none⟩) n c) xs) (hk : k < xs.length) :
    w.cell? ⟨g, k * 2, none⟩ = some (.int .i64 (elt pairF xs k).1) ∧ w.cell? ⟨g, k * 2 + 1, none⟩ = some (.int .i64 (elt pairF xs k).2) :=
  ⟨h.get (j := 0) hk rfl, h.get (j := 1) hk rfl⟩
theorem OwnF.get3 {xs : List (Int × Int × Int)} (h : OwnF tripF t w lo hi (.slice (some ⟨g, 0, none⟩) n c) xs) (hk : k < xs.length) :
    w.cell? ⟨g, k * 3, none⟩ = some (.int .i64 (elt tripF xs k).1) ∧ w.cell? ⟨g, k * 3 + 1, none⟩ = some (.int .i64 (elt tripF xs k).2.1) ∧ w.cell? ⟨g, k * 3 + 2, none⟩ = some (.int .i64 (elt tripF xs k).2.2) :=
  ⟨h.get (j := 0) hk rfl, h.get (j := 1) hk rfl, h.get (j := 2) hk rfl⟩
theorem OwnF.put20 {xs : List (Int × Int)} (h : OwnF pairF t w lo hi (.slice (some ⟨g, 0, none⟩) n c) xs) (hk : k < xs.length) (u : Int) :
    OwnF pairF t (w.setCell ⟨g, k * 2, none⟩ (.int .i64 u)) lo hi (.slice (some ⟨g, 0, none⟩) n c) (xs.set k (u, (elt pairF xs k).2)) := h.put (j := 0) hk (by decide) rfl
theorem OwnF.put21 {xs : List (Int × Int)} (h : OwnF pairF t w lo hi (.slice (some ⟨g, 0, none⟩) n c) xs) (hk : k < xs.length) (u : Int) :
    OwnF pairF t (w.setCell ⟨g, k * 2 + 1, none⟩ (.int .i64 u)) lo hi (.slice (some ⟨g, 0, none⟩) n c) (xs.set k ((elt pairF xs k).1, u)) := h.put (j := 1) hk (by decide) rfl
theorem OwnF.put30 {xs : List (Int × Int × Int)} (h : OwnF tripF t w lo hi (.slice (some ⟨g, 0, none⟩) n c) xs) (hk : k < xs.length) (u : Int) :
    OwnF tripF t (w.setCell ⟨g, k * 3, none⟩ (.int .i64 u)) lo hi (.slice (some ⟨g, 0, none⟩) n c) (xs.set k (u, (elt tripF xs k).2)) := h.put (j := 0) hk (by decide) rfl
theorem OwnF.put31 {xs : List (Int × Int × Int)} (h : OwnF tripF t w lo hi (.slice (some ⟨g, 0, none⟩) n c) xs) (hk : k < xs.length) (u : Int) :
    OwnF tripF t (w.setCell ⟨g, k * 3 + 1, none⟩ (.int .i64 u)) lo hi (.slice (some ⟨g, 0, none⟩) n c) (xs.set k ((elt tripF xs k).1, u, (elt tripF xs k).2.2)) := h.put (j := 1) hk (by decide) rfl
theorem OwnF.put32 {xs : List (Int × Int × Int)} (h : OwnF tripF t w lo hi (.slice (some ⟨g, 0, none⟩) n c) xs) (hk : k < xs.length) (u : Int) :
    OwnF tripF t (w.setCell ⟨g, k * 3 + 2, none⟩ (.int .i64 u)) lo hi (.slice (some ⟨g, 0, none⟩) n c) (xs.set k ((elt tripF xs k).1, (elt tripF xs k).2.1, u)) := h.put (j := 2) hk (by decide) rfl
/-- All cells of an element are written. -/
theorem OwnF.put2 {xs : List (Int × Int)} (h : OwnF pairF t w lo hi (.slice (some ⟨g, 0, none⟩) n c) xs) (hk : k < xs.length) (x : Int × Int) :
    OwnF pairF t ((w.setCell ⟨g, k * 2, none⟩ (.int .i64 x.1)).setCell ⟨g, k * 2 + 1, none⟩ (.int .i64 x.2)) lo hi (.slice (some ⟨g, 0, none⟩) n c) (xs.set k x) := by
  have := (h.put20 hk x.1).put21 (k := k) (by simpa using hk) x.2
  rwa [elt_set_eq hk, List.set_set] at this
theorem OwnF.put3 {xs : List (Int × Int × Int)} (h : OwnF tripF t w lo hi (.slice (some ⟨g, 0, none⟩) n c) xs) (hk : k < xs.length) (x : Int × Int × Int) :
    OwnF tripF t (((w.setCell ⟨g, k * 3, none⟩ (.int .i64 x.1)).setCell ⟨g, k * 3 + 1, none⟩ (.int .i64 x.2.1)).setCell ⟨g, k * 3 + 2, none⟩ (.int .i64 x.2.2)) lo hi (.slice (some ⟨g, 0, none⟩) n c) (xs.set k x) := by
  have := ((h.put30 hk x.1).put31 (k := k) (by simpa using hk) x.2.1).put32 (k := k) (by simpa using hk) x.2.2
  simpa only [List.set_set, elt_set_eq (F := tripF) hk] using this
end
theorem padF_copy {α : Type} {F : Flat α} {xs : List α} {k : Nat} (hk : k < xs.length) : (padF F xs.length (xs.take k)).set k (elt F xs k) = padF F xs.length (xs.take (k + 1)) := by
  have hl : (xs.take k).length = k := by rw [List.length_take]; omega
  have := padF_set (F := F) (n := xs.length) (xs := xs.take k) (by omega) (elt F xs k)
  rw [hl] at this
  rw [this, takeE_succ (F := F) hk]
theorem padF_copied {α : Type} {F : Flat α} {xs : List α} : padF F xs.length (xs.take xs.length) = xs := by rw [List.take_of_length_le (Nat.le_refl _)]; exact padF_all rfl
theorem padF_take_len {α : Type} {F : Flat α} {xs : List α} {k : Nat} (hk : k ≤ xs.length) : (padF F xs.length (xs.take k)).length = xs.length := padF_len (by rw [List.length_take]; omega)

/-- The first j elements marked, the others as they were. -/
def mrkF {α : Type} (f : Nat → α) (xs : List α) (j : Nat) : List α := (List.range j).map f ++ xs.drop j
section
variable {α : Type} {F : Flat α} {f : Nat → α} {xs : List α} {j : Nat}
theorem mrkF_len (h : j ≤ xs.length) : (mrkF f xs j).length = xs.length := by simp [mrkF]; omega
theorem mrkF_zero : mrkF f xs 0 = xs := by simp [mrkF]
theorem mrkF_all : mrkF f xs xs.length = (List.range xs.length).map f := by simp [mrkF]
theorem mrkF_set (h : j < xs.length) : (mrkF f xs j).set j (f j) = mrkF f xs (j + 1) := by
  unfold mrkF
  rw [List.set_append_right _ _ (by simp), List.length_map, List.length_range, Nat.sub_self, List.drop_eq_getElem_cons h, List.set_cons_zero, List.range_succ, List.map_append, List.map_singleton, List.append_assoc, List.singleton_append]
theorem elt_range {n : Nat} (h : j < n) : elt F ((List.range n).map f) j = f j := by rw [elt_get (by simpa using h)]; simp
end
/-- Marks from k on, two for an element. -/
def seq2 (k : Int) (n : Nat) : List (Int × Int) := (List.range n).map fun i : Nat => (k + 2 * (i : Int), k + 2 * (i : Int) + 1)
def seq3 (k : Int) (n : Nat) : List (Int × Int × Int) := (List.range n).map fun i : Nat => (k + 3 * (i : Int), k + 3 * (i : Int) + 1, k + 3 * (i : Int) + 1 + 1)
theorem seq2_len (k : Int) (n : Nat) : (seq2 k n).length = n := by simp [seq2]
theorem seq3_len (k : Int) (n : Nat) : (seq3 k n).length = n := by simp [seq3]
theorem seq2_at {k : Int} {n i : Nat} (h : i < n) : elt pairF (seq2 k n) i = (k + 2 * (i : Int), k + 2 * (i : Int) + 1) := elt_range h
theorem seq3_at {k : Int} {n i : Nat} (h : i < n) : elt tripF (seq3 k n) i = (k + 3 * (i : Int), k + 3 * (i : Int) + 1, k + 3 * (i : Int) + 1 + 1) := elt_range h
theorem ownF_row {α : Type} {F : Flat α} {t : TypeId} {w : World} {lo hi n : Nat} {v : Value} {xs : List α} (h : Row t F.sz w lo hi v n (flat F xs)) (hn : n = xs.length) (hl : xs.length ≤ 1000000000) : OwnF F t w lo hi v xs := by
  subst hn; exact ⟨h, hl⟩
end Go.Proofs.YtlahobdopmdfmaaDoor
