/-
  laws: Signal and []Signal: copies, equality, sizes, marks.
-/
import Derived.Test.YtmdngcoccekdgaaProg
import Derived.Test.YtmdngcoccekdgaaFlat
import Derived.Test.YtmdngcoccekdgaaLeft
import Derived.IntWalk
namespace Go.Proofs.Ytmdngcoccekdgaa
open Go.RowKit

/-- A struct of two bools. -/
def sigF : Flat (Bool × Bool) := ⟨2, fun z => [.bool z.1, .bool z.2], (false, false), fun _ => rfl, fun _ v hv => by simp at hv; rcases hv with rfl | rfl <;> rfl, by omega⟩
section
variable {t : TypeId} {w : World} {lo hi g n c k : Nat}
theorem RdF.atS {a : Option Addr} {xs : List (Bool × Bool)} (h : RdF sigF w a xs) (hk : k < xs.length) :
    ∃ b off, a = some ⟨b, off, none⟩ ∧ w.cell? ⟨b, off + k * 2, none⟩ = some (.bool (elt sigF xs k).1) ∧ w.cell? ⟨b, off + k * 2 + 1, none⟩ = some (.bool (elt sigF xs k).2) := by
  obtain ⟨b, off, rfl, hc⟩ := h.at_ hk
  exact ⟨b, off, rfl, hc 0 _ rfl, hc 1 _ rfl⟩
theorem OwnF.getS {xs : List (Bool × Bool)} (h : OwnF sigF t w lo hi (.slice (some ⟨g, 0, none⟩) n c) xs) (hk : k < xs.length) :
    w.cell? ⟨g, k * 2, none⟩ = some (.bool (elt sigF xs k).1) ∧ w.cell? ⟨g, k * 2 + 1, none⟩ = some (.bool (elt sigF xs k).2) :=
  ⟨h.get (j := 0) hk rfl, h.get (j := 1) hk rfl⟩
theorem OwnF.putS {xs : List (Bool × Bool)} (h : OwnF sigF t w lo hi (.slice (some ⟨g, 0, none⟩) n c) xs) (hk : k < xs.length) (x : Bool × Bool) :
    OwnF sigF t ((w.setCell ⟨g, k * 2, none⟩ (.bool x.1)).setCell ⟨g, k * 2 + 1, none⟩ (.bool x.2)) lo hi (.slice (some ⟨g, 0, none⟩) n c) (xs.set k x) := by
  have h1 := h.put (j := 0) hk (y := (x.1, (elt sigF xs k).2)) (u := .bool x.1) (by decide) rfl
  have h2 := h1.put (k := k) (j := 1) (by simpa using hk) (y := (x.1, x.2)) (u := .bool x.2) (by decide) (by rw [elt_set_eq hk]; rfl)
  rwa [List.set_set] at h2
end
/-- A mark. -/
def m3 (z : Int) : Bool := z.tmod 3 == 0
/-- Marks from k on, two for an element. -/
def seqS (k : Int) (n : Nat) : List (Bool × Bool) := (List.range n).map fun i : Nat => (m3 (k + 2 * (i : Int)), m3 (k + 2 * (i : Int) + 1))
theorem seqS_len (k : Int) (n : Nat) : (seqS k n).length = n := by simp [seqS]
theorem seqS_at {k : Int} {n i : Nat} (h : i < n) : elt sigF (seqS k n) i = (m3 (k + 2 * (i : Int)), m3 (k + 2 * (i : Int) + 1)) := elt_range h

theorem info_Signal : (Try.prog.info? 122).map (fun i => (i.zero, i.size, i.bytes)) = some (some (.agg #[.bool false, .bool false]), 2, 2) := by kernel_rfl

set_option maxHeartbeats 400000 in
theorem toSignal_any (x : (Bool × Bool)) (w : World) : Calls Try.prog 95 #[.agg #[.bool x.1, .bool x.2]] w fun e w' => e = .returned (.agg #[.bool x.1, .bool x.2]) ∧ Below w.heap.size w w' := by
  go_enter Try.func95, Try.ntmps95
  go_wp2
  exact bodyPost_ret (v := .agg #[.bool x.1, .bool x.2]) (by simp [results, Try.results95, go_sem]) rfl ⟨rfl, (by repeat (first | exact Below.refl _ _ | refine Below.setCell ?_ (by first | omega | (simp <;> omega)) _ | refine Below.alloc ?_ (by first | omega | (simp <;> omega)) _ | refine Below.drew ?_))⟩

set_option maxHeartbeats 1000000 in
theorem eqSignal_any (x y : (Bool × Bool)) (w : World) : Calls Try.prog 98 #[.agg #[.bool x.1, .bool x.2], .agg #[.bool y.1, .bool y.2]] w fun e w' => e = .returned (.bool (decide (x = y))) ∧ Below w.heap.size w w' := by
  obtain ⟨x0, x1⟩ := x
  obtain ⟨y0, y1⟩ := y
  cases x0 <;> cases x1 <;> cases y0 <;> cases y1
  all_goals
    go_enter Try.func98, Try.ntmps98
    go_wp2
    go_ret
    exact ⟨rfl, (by repeat (first | exact Below.refl _ _ | refine Below.setCell ?_ (by first | omega | (simp <;> omega)) _ | refine Below.alloc ?_ (by first | omega | (simp <;> omega)) _ | refine Below.drew ?_))⟩

set_option maxHeartbeats 1000000 in
theorem toSignalS_any (a : Option Addr) (c : Nat) (xs : List (Bool × Bool)) (w : World) (ha : RdF sigF w a xs) :
    Calls Try.prog 52 #[.slice a xs.length c] w fun e w' => ∃ A C, e = .returned (.slice A xs.length C) ∧ OwnF sigF 122 w' w.heap.size w'.heap.size (.slice A xs.length C) xs ∧ Below w.heap.size w w' := by
  have hx1 := ha.len
  go_enter Try.func52, Try.ntmps52
  go_wp2_with (at_make; refine wpList_makeF sigF rfl _ _ _ 122 rfl Try.underlying73 _ 2 info_Signal rfl (by omega) xs.length rfl rfl (by omega) ?_; intro w1 hown1 hb1)
  go_loopw [4] (fun i wr => ∃ k : Nat, k ≤ xs.length ∧ i = .int .i64 k ∧ OwnF sigF 122 wr w.heap.size (w.heap.size + 1) (.slice (some ⟨w.heap.size, 0, none⟩) xs.length xs.length) (padF sigF xs.length (xs.take k)) ∧ Below w.heap.size w wr) (fun i _ => xs.length - (intOf i).toNat)
  case atStart => exact ⟨0, Nat.zero_le _, rfl, by simpa using ownF_first hown1, hb1⟩
  case round =>
    obtain ⟨k, hk, rfl, hown, hbel⟩ := hrel
    by_cases hlt : k < xs.length
    · obtain ⟨b, off, rfl, hc0, hc1⟩ := (ha.below hbel).atS hlt
      go_wp2_with fail
      refine (toSignal_any (elt sigF xs k) wr).mono ?_
      rintro e w2 ⟨rfl, hb2⟩
      replace hown := hown.below hb2
      replace hbel := hbel.trans (hb2.mono hbel.size)
      obtain ⟨g0, g1⟩ := hown.getS (k := k) (by rw [padF_take_len hk]; exact hlt)
      have hz := hown.blk
      have f0 := hown.thaw (k * 2)
      have f1 := hown.thaw (k * 2 + 1)
      have HP := Lib.hid (hown.putS (k := k) (by rw [padF_take_len hk]; exact hlt) (elt sigF xs k))
      go_wp2
      go_roundw
      case rel => exact ⟨k + 1, by omega, by go_num, by have := HP.out; rwa [padF_copy hlt] at this, (by repeat (first | exact hbel | refine Below.setCell ?_ (by first | omega | (simp <;> omega)) _ | refine Below.alloc ?_ (by first | omega | (simp <;> omega)) _ | refine Below.drew ?_))⟩
      case measure => (simp [intOf]) <;> omega
    · obtain rfl : k = xs.length := by omega
      rw [padF_copied] at hown
      go_wp2
      go_ret
      exact ⟨_, _, rfl, hown.wide (Nat.le_refl _) hown.blk.2.2, hbel⟩

set_option maxHeartbeats 400000 in
theorem szSignalS_any (a : Option Addr) (n c : Nat) (left : Int) (w : World) (hn : n ≤ 9223372036854775807) (hl : 0 ≤ left) (hl' : left ≤ 1048576) :
    Calls Try.prog 50 #[.slice a n c, .int .i64 left] w fun e w' => e = .returned (.int .i64 (leftOf n left)) ∧ w = w' := by
  by_cases h : left - (n : Int) < 0
  · go_enter Try.func50, Try.ntmps50
    go_wp2
    go_ret
    exact ⟨ret_int (by rw [leftOf, if_pos h]), rfl⟩
  · go_enter Try.func50, Try.ntmps50
    go_wp2
    go_ret
    exact ⟨ret_int (by rw [leftOf, if_neg (by omega)]), rfl⟩

set_option maxHeartbeats 1000000 in
theorem eqSignalS_any (a b : Option Addr) (c d : Nat) (xs ys : List (Bool × Bool)) (w : World) (ha : RdF sigF w a xs) (hb : RdF sigF w b ys) :
    Calls Try.prog 54 #[.slice a xs.length c, .slice b ys.length d] w fun e w' => e = .returned (.bool (decide (xs = ys))) ∧ Below w.heap.size w w' := by
  have hx1 := ha.len
  have hy1 := hb.len
  by_cases hl : xs.length = ys.length
  · have ht : ((xs.length : Int) != (ys.length : Int)) = false := by simp [hl]
    have HL := Lib.hid hl
    clear hl
    go_enter Try.func54, Try.ntmps54
    go_wp2
    go_loopw [5] (fun i wr => ∃ k : Nat, k ≤ xs.length ∧ i = .int .i64 k ∧ Below w.heap.size w wr ∧ Hid (xs.take k = ys.take k)) (fun i _ => xs.length - (intOf i).toNat)
    case atStart => exact ⟨0, Nat.zero_le _, rfl, Below.refl _ _, Lib.hid (by simp)⟩
    case round =>
      obtain ⟨k, hk, rfl, hbel, HT⟩ := hrel
      by_cases hlt : k < xs.length
      · have hlt' : k < ys.length := by rw [← HL.out]; exact hlt
        obtain ⟨b1, o1, rfl, p0, p1⟩ := (ha.below hbel).atS hlt
        obtain ⟨b2, o2, rfl, q0, q1⟩ := (hb.below hbel).atS hlt'
        have p0' := kept_after p0
        clear p0
        have p1' := kept_after p1
        clear p1
        have q0' := kept_after q0
        clear q0
        have q1' := kept_after q1
        clear q1
        by_cases he : elt sigF xs k = elt sigF ys k
        · have hd : decide (elt sigF xs k = elt sigF ys k) = true := decide_eq_true he
          have HE := Lib.hid he
          clear he
          go_wp2
          refine wp_region_after (by kernel_rfl) (by kernel_rfl) ?_
          repeat (go_big_quiet_step ((go_at_call 98; exact calls_after (eqSignal_any _ _ _))))
          refine wpQuiet_nil ?_
          intro u
          go_wp2
          go_roundw
          case rel => exact ⟨k + 1, by omega, by go_num, hbel.trans (u.ok.mono hbel.size), Lib.hid (takeE_snoc (F := sigF) hlt HL.out HT.out HE.out)⟩
          case measure => (simp [intOf]) <;> omega
        · have hd : decide (elt sigF xs k = elt sigF ys k) = false := decide_eq_false he
          have HE := Lib.hid he
          clear he
          go_wp2
          refine wp_region_after (by kernel_rfl) (by kernel_rfl) ?_
          repeat (go_big_quiet_step ((go_at_call 98; exact calls_after (eqSignal_any _ _ _))))
          refine wpQuiet_nil ?_
          intro u
          go_wp2
          go_ret
          exact ⟨ret_bool (decide_eq_false (neE_of_at HE.out)).symm, hbel.trans (u.ok.mono hbel.size)⟩
      · obtain rfl : k = xs.length := by omega
        go_wp2
        go_ret
        exact ⟨ret_bool (decide_eq_true (takeE_all HL.out HT.out)).symm, hbel⟩
  · have ht : ((xs.length : Int) != (ys.length : Int)) = true := by simp; omega
    have HL := Lib.hid hl
    clear hl
    go_enter Try.func54, Try.ntmps54
    go_wp2
    go_ret
    exact ⟨ret_bool (decide_eq_false (by rintro rfl; exact HL.out rfl)).symm, Below.refl _ _⟩

theorem m3_name (z : Int) : ∃ r : Int, z.tmod 3 = r ∧ (r == 0) = m3 z ∧ -3 < r ∧ r < 3 := by
  refine ⟨_, rfl, rfl, ?_, ?_⟩ <;> rcases Int.le_total 0 z with h | h
  · rw [Int.tmod_eq_emod_of_nonneg h]; omega
  · obtain ⟨m, rfl⟩ : ∃ m : Nat, z = -(m : Int) := ⟨z.natAbs, by omega⟩
    rw [Int.neg_tmod, Int.tmod_eq_emod_of_nonneg (by omega)]; omega
  · rw [Int.tmod_eq_emod_of_nonneg h]; omega
  · obtain ⟨m, rfl⟩ : ∃ m : Nat, z = -(m : Int) := ⟨z.natAbs, by omega⟩
    rw [Int.neg_tmod, Int.tmod_eq_emod_of_nonneg (by omega)]; omega

set_option maxHeartbeats 1000000 in
theorem markSignalS_any (t : TypeId) (lo hi : Nat) (A : Option Addr) (C : Nat) (k : Int) (xs : List (Bool × Bool)) (w : World) (ho : OwnF sigF t w lo hi (.slice A xs.length C) xs) (h0 : 0 ≤ k) (h1 : k ≤ 1000000000000) :
    Calls Try.prog 55 #[.slice A xs.length C, .int .i64 k] w fun e w' => e = .returned (.int .i64 (k + 2 * (xs.length : Int))) ∧
      OwnF sigF t w' lo hi (.slice A xs.length C) (seqS k xs.length) ∧ Touch lo hi w w' := by
  have hx1 := ho.len
  go_enter Try.func55, Try.ntmps55
  go_wp2
  go_loopw [1, 5] (fun q i wr => ∃ j : Nat, j ≤ xs.length ∧ i = .int .i64 j ∧ q = .int .i64 (k + 2 * (j : Int)) ∧ OwnF sigF t wr lo hi (.slice A xs.length C) (mrkF (fun j : Nat => (m3 (k + 2 * (j : Int)), m3 (k + 2 * (j : Int) + 1))) xs j) ∧ Touch lo hi w wr) (fun _ i _ => xs.length - (intOf i).toNat)
  case atStart => exact ⟨0, Nat.zero_le _, rfl, by go_num, by rw [mrkF_zero]; exact ho, Touch.refl _ _ _⟩
  case round =>
    obtain ⟨j, hj, rfl, rfl, hown, htou⟩ := hrel
    by_cases hlt : j < xs.length
    · obtain ⟨g, rfl, hg1, hg2, hg3⟩ := hown.head (by rw [mrkF_len hj]; omega)
      obtain ⟨g0, g1⟩ := hown.getS (k := j) (by rw [mrkF_len hj]; exact hlt)
      have f0 := hown.thaw (j * 2)
      have f1 := hown.thaw (j * 2 + 1)
      obtain ⟨r0, hr0, hb0, _, _⟩ := m3_name (k + 2 * (j : Int))
      obtain ⟨r1, hr1, hb1, _, _⟩ := m3_name (k + 2 * (j : Int) + 1)
      have HP := Lib.hid (hown.putS (k := j) (by rw [mrkF_len hj]; exact hlt) (m3 (k + 2 * (j : Int)), m3 (k + 2 * (j : Int) + 1)))
      go_wp2
      go_roundw
      case rel => exact ⟨j + 1, by omega, by go_num, by first | go_num | (congr 1; omega), by have := HP.out; rw [mrkF_set (f := fun j : Nat => (m3 (k + 2 * (j : Int)), m3 (k + 2 * (j : Int) + 1))) hlt] at this; exact this, ((htou.setCell hg1 hg2 _).setCell hg1 hg2 _)⟩
      case measure => (simp [intOf]) <;> omega
    · obtain rfl : j = xs.length := by omega
      rw [mrkF_all] at hown
      go_wp2
      go_ret
      exact ⟨rfl, hown, htou⟩

set_option maxHeartbeats 1000000 in
theorem heldSignalS_any (A : Option Addr) (C : Nat) (k : Int) (n : Nat) (w : World) (ha : RdF sigF w A (seqS k n)) (h0 : 0 ≤ k) (h1 : k ≤ 1000000000000) :
    Calls Try.prog 56 #[.slice A n C, .int .i64 k] w fun e w' => e = .returned (.int .i64 (k + 2 * (n : Int))) ∧ w = w' := by
  have hx := ha.len
  rw [seqS_len] at hx
  go_enter Try.func56, Try.ntmps56
  go_wp2
  go_loop [1, 5] (fun q i => ∃ j : Nat, j ≤ n ∧ i = .int .i64 j ∧ q = .int .i64 (k + 2 * (j : Int))) (fun _ i => n - (intOf i).toNat)
  case atStart => exact ⟨0, Nat.zero_le _, rfl, by go_num⟩
  case round =>
    obtain ⟨j, hj, rfl, rfl⟩ := hrel
    by_cases hlt : j < n
    · obtain ⟨b, off, rfl, hc0, hc1⟩ := ha.atS (k := j) (by rw [seqS_len]; exact hlt)
      rw [seqS_at hlt] at hc0 hc1
      simp only at hc0 hc1
      obtain ⟨r0, hr0, hb0, _, _⟩ := m3_name (k + 2 * (j : Int))
      obtain ⟨r1, hr1, hb1, _, _⟩ := m3_name (k + 2 * (j : Int) + 1)
      have b0 : (m3 (k + 2 * (j : Int)) != m3 (k + 2 * (j : Int))) = false := by simp
      have b1 : (m3 (k + 2 * (j : Int) + 1) != m3 (k + 2 * (j : Int) + 1)) = false := by simp
      go_wp2
      go_round
      case rel => exact ⟨j + 1, by omega, by go_num, by first | go_num | (congr 1; omega)⟩
      case measure => (simp [intOf]) <;> omega
    · obtain rfl : j = n := by omega
      go_wp2
      go_ret
      exact ⟨rfl, rfl⟩

end Go.Proofs.Ytmdngcoccekdgaa
