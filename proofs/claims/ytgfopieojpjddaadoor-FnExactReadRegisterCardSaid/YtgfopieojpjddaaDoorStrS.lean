/-
  laws: []string: equality, marks.
-/
import Derived.Test.YtgfopieojpjddaaDoorFlat
import Derived.Test.YtgfopieojpjddaaDoorMarkT
import Derived.Test.YtgfopieojpjddaaDoorLeft
import Derived.Lib.SmallJoins
import Derived.Lib.Strings
namespace Go.Proofs.YtgfopieojpjddaaDoor
open Go.RowKit Go.BigFrame

theorem info_string : (Tryd.prog.info? 9).map (fun i => (i.zero, i.size, i.bytes)) = some (some (.string ByteArray.empty), 1, 16) := by kernel_rfl
/-- The texts of marks from k on. -/
def seqT (k : Int) (n : Nat) : List ByteArray := (List.range n).map fun i : Nat => mtx (k + (i : Int))
theorem seqT_len (k : Int) (n : Nat) : (seqT k n).length = n := by simp [seqT]
theorem seqT_at {k : Int} {n i : Nat} (h : i < n) : elt textF (seqT k n) i = mtx (k + (i : Int)) := elt_range h
section
variable {w : World} {t : TypeId} {lo hi g n c k : Nat}
theorem RdF.atT {a : Option Addr} {xs : List ByteArray} (h : RdF textF w a xs) (hk : k < xs.length) : ∃ b off, a = some ⟨b, off, none⟩ ∧ w.cell? ⟨b, off + k, none⟩ = some (.string (elt textF xs k)) := by
  obtain ⟨b, off, rfl, hc⟩ := h.at_ hk
  refine ⟨b, off, rfl, ?_⟩
  have := hc 0 (.string (elt textF xs k)) rfl
  simpa [textF] using this
theorem OwnF.getT {xs : List ByteArray} (h : OwnF textF t w lo hi (.slice (some ⟨g, 0, none⟩) n c) xs) (hk : k < xs.length) : w.cell? ⟨g, k, none⟩ = some (.string (elt textF xs k)) := by
  have := h.get (k := k) (j := 0) (u := .string (elt textF xs k)) hk rfl
  simpa [textF] using this
theorem OwnF.putT {xs : List ByteArray} (h : OwnF textF t w lo hi (.slice (some ⟨g, 0, none⟩) n c) xs) (hk : k < xs.length) (x : ByteArray) : OwnF textF t (w.setCell ⟨g, k, none⟩ (.string x)) lo hi (.slice (some ⟨g, 0, none⟩) n c) (xs.set k x) := by
  have := h.put (k := k) (j := 0) (y := x) (u := .string x) hk (by decide) rfl
  simpa [textF] using this
end
theorem str_eqB {a b : ByteArray} (h : a = b) : (a.toList == b.toList) = true := by rw [h]; simp
theorem str_neB {a b : ByteArray} (h : ¬ a = b) : (a.toList == b.toList) = false := by
  rw [beq_eq_false_iff_ne]
  intro e
  rw [Lib.toList_data, Lib.toList_data] at e
  exact h (bs_ext e)

set_option maxHeartbeats 1000000 in
theorem eqStringS_any (a b : Option Addr) (c d : Nat) (xs ys : List ByteArray) (w : World) (ha : RdF textF w a xs) (hb : RdF textF w b ys) :
    Calls Tryd.prog 16 #[.slice a xs.length c, .slice b ys.length d] w fun e w' => e = .returned (.bool (decide (xs = ys))) ∧ Below w.heap.size w w' := by
  have hx1 := ha.len
  have hy1 := hb.len
  by_cases hl : xs.length = ys.length
  · have ht : ((xs.length : Int) != (ys.length : Int)) = false := by simp [hl]
    have HL := Lib.hid hl
    clear hl
    go_enter Tryd.func16, Tryd.ntmps16
    go_wp2
    go_loopw [5] (fun i wr => ∃ k n : Nat, k ≤ xs.length ∧ i = .int .i64 k ∧ wr = w.drewN n ∧ Hid (xs.take k = ys.take k)) (fun i _ => xs.length - (intOf i).toNat)
    case atStart => exact ⟨0, 0, Nat.zero_le _, rfl, rfl, Lib.hid (by simp)⟩
    case round =>
      obtain ⟨k, n, hk, rfl, rfl, HT⟩ := hrel
      by_cases hlt : k < xs.length
      · have hlt' : k < ys.length := by rw [← HL.out]; exact hlt
        obtain ⟨b1, o1, rfl, hc1⟩ := ha.atT hlt
        obtain ⟨b2, o2, rfl, hc2⟩ := hb.atT hlt'
        by_cases he : elt textF xs k = elt textF ys k
        · have hbe := str_eqB he
          have HE := Lib.hid he
          clear he
          go_wp2
          go_quiet (fail)
          go_wp2
          go_roundw
          case rel => exact ⟨k + 1, _, by omega, by go_num, rfl, Lib.hid (takeE_snoc (F := textF) hlt HL.out HT.out HE.out)⟩
          case measure => (simp [intOf]) <;> omega
        · have hbe := str_neB he
          have HE := Lib.hid he
          clear he
          go_wp2
          go_quiet (fail)
          go_wp2
          go_ret
          exact ⟨ret_bool (decide_eq_false (neE_of_at HE.out)).symm, bel_drewN (bel_drewN (Below.refl _ _) _) _⟩
      · obtain rfl : k = xs.length := by omega
        go_wp2
        go_ret
        exact ⟨ret_bool (decide_eq_true (takeE_all HL.out HT.out)).symm, bel_drewN (Below.refl _ _) _⟩
  · have ht : ((xs.length : Int) != (ys.length : Int)) = true := by simp; omega
    have HL := Lib.hid hl
    clear hl
    go_enter Tryd.func16, Tryd.ntmps16
    go_wp2
    go_ret
    exact ⟨ret_bool (decide_eq_false (by rintro rfl; exact HL.out rfl)).symm, Below.refl _ _⟩

set_option maxHeartbeats 1000000 in
theorem markStringS_any (t : TypeId) (lo hi : Nat) (A : Option Addr) (C : Nat) (k : Int) (xs : List ByteArray) (w : World) (ho : OwnF textF t w lo hi (.slice A xs.length C) xs) (h0 : 0 ≤ k) (h1 : k ≤ 900000000000) :
    Calls Tryd.prog 20 #[.slice A xs.length C, .int .i64 k] w fun e w' => e = .returned (.int .i64 (k + (xs.length : Int))) ∧
      OwnF textF t w' lo hi (.slice A xs.length C) (seqT k xs.length) ∧ Touch lo hi w w' := by
  have hx1 := ho.len
  go_enter Tryd.func20, Tryd.ntmps20
  go_wp2
  go_loopw [1, 5] (fun q i wr => ∃ j : Nat, j ≤ xs.length ∧ i = .int .i64 j ∧ q = .int .i64 (k + (j : Int)) ∧ OwnF textF t wr lo hi (.slice A xs.length C) (mrkF (fun j : Nat => mtx (k + (j : Int))) xs j) ∧ Touch lo hi w wr) (fun _ i _ => xs.length - (intOf i).toNat)
  case atStart => exact ⟨0, Nat.zero_le _, rfl, by go_num, by rw [mrkF_zero]; exact ho, Touch.refl _ _ _⟩
  case round =>
    obtain ⟨j, hj, rfl, rfl, hown, htou⟩ := hrel
    by_cases hlt : j < xs.length
    · obtain ⟨g, rfl, hg1, hg2, hg3⟩ := hown.head (by rw [mrkF_len hj]; omega)
      go_wp2_with fail
      refine (markText_any (k + (j : Int)) wr (by omega) (by omega)).mono ?_
      rintro e w1 ⟨rfl, hb⟩
      replace hown := hown.below hb
      have htou1 := htou.trans (Below.touch hb)
      have hg4 := hb.size
      have f0 := hown.thaw j
      have g0 := hown.getT (k := j) (by rw [mrkF_len hj]; exact hlt)
      have HP := Lib.hid (hown.putT (k := j) (by rw [mrkF_len hj]; exact hlt) (mtx (k + (j : Int))))
      have hg5 : g < w1.heap.size := by omega
      go_wp2
      go_roundw
      case rel => exact ⟨j + 1, by omega, by go_num, by first | go_num | (congr 1; omega), by have := HP.out; rw [mrkF_set (f := fun j : Nat => mtx (k + (j : Int))) hlt] at this; exact this, htou1.setCell hg1 hg2 _⟩
      case measure => (simp [intOf]) <;> omega
    · obtain rfl : j = xs.length := by omega
      rw [mrkF_all] at hown
      go_wp2
      go_ret
      exact ⟨rfl, hown, htou⟩

set_option maxHeartbeats 1000000 in
theorem heldStringS_any (A : Option Addr) (C : Nat) (k : Int) (n : Nat) (w : World) (ha : RdF textF w A (seqT k n)) (h0 : 0 ≤ k) (h1 : k ≤ 900000000000) :
    Calls Tryd.prog 27 #[.slice A n C, .int .i64 k] w fun e w' => e = .returned (.int .i64 (k + (n : Int))) ∧ Below w.heap.size w w' := by
  have hx := ha.len
  rw [seqT_len] at hx
  go_enter Tryd.func27, Tryd.ntmps27
  go_wp2
  go_loopw [1, 5] (fun q i wr => ∃ j : Nat, j ≤ n ∧ i = .int .i64 j ∧ q = .int .i64 (k + (j : Int)) ∧ Below w.heap.size w wr) (fun _ i _ => n - (intOf i).toNat)
  case atStart => exact ⟨0, Nat.zero_le _, rfl, by go_num, Below.refl _ _⟩
  case round =>
    obtain ⟨j, hj, rfl, rfl, hbel⟩ := hrel
    by_cases hlt : j < n
    · obtain ⟨b, off, rfl, hc⟩ := (ha.below hbel).atT (k := j) (by rw [seqT_len]; exact hlt)
      rw [seqT_at hlt] at hc
      obtain ⟨y, hy⟩ : ∃ y, y = mtx (k + (j : Int)) := ⟨_, rfl⟩
      have hcall := markText_any (k + (j : Int))
      rw [← hy] at hc hcall
      clear hy
      have hbe := str_eqB (rfl : y = y)
      have hc' := kept_after hc
      clear hc
      go_wp2
      refine wp_region_after (by kernel_rfl) (by kernel_rfl) ?_
      repeat (go_big_quiet_step ((go_at_call 63; exact calls_after (hcall _ (by omega) (by omega)))))
      refine wpQuiet_nil ?_
      intro u
      go_wp2
      go_roundw
      case rel => exact ⟨j + 1, by omega, by go_num, by first | go_num | (congr 1; omega), hbel.trans (u.ok.mono hbel.size)⟩
      case measure => (simp [intOf]) <;> omega
    · obtain rfl : j = n := by omega
      go_wp2
      go_ret
      exact ⟨rfl, hbel⟩
end Go.Proofs.YtgfopieojpjddaaDoor
