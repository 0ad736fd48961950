/-
  laws.toInt64S: a copy of a slice of int64.
-/
import Derived.Test.YtlahobdopmdfmaaDoorProg
import Derived.Test.YtlahobdopmdfmaaDoorBase
namespace Go.Proofs.YtlahobdopmdfmaaDoor
open Go.RowKit

theorem info_int64 : (Tryd.prog.info? 2).map (fun i => (i.zero, i.size, i.bytes)) = some (some (.int .i64 0), 1, 8) := by kernel_rfl

/-- What has been copied when k rounds are over. -/
def cop (zs : List Int) (k : Nat) : List Int := zs.take k ++ List.replicate (zs.length - k) 0
theorem cop_len {zs : List Int} {k : Nat} (h : k ≤ zs.length) : (cop zs k).length = zs.length := by simp [cop, Nat.min_eq_left h]; omega
theorem cop_set {zs : List Int} {k : Nat} (h : k < zs.length) : (cop zs k).set k (nth zs k) = cop zs (k + 1) := by
  unfold cop
  rw [List.set_append_right _ _ (by simp; omega), nth_get h]
  have : zs.length - k = (zs.length - (k + 1)) + 1 := by omega
  rw [this, List.replicate_succ, List.take_succ_eq_append_getElem h, List.length_take, Nat.min_eq_left (Nat.le_of_lt h), Nat.sub_self, List.set_cons_zero, List.append_assoc, List.singleton_append]
theorem cop_all (zs : List Int) : cop zs zs.length = zs := by simp [cop]

set_option maxHeartbeats 400000 in
theorem toInt64S_any (a : Option Addr) (c : Nat) (zs : List Int) (w : World) (ha : Rd w a zs) :
    Calls Tryd.prog 72 #[.slice a zs.length c] w fun e w' => ∃ A C, e = .returned (.slice A zs.length C) ∧
      Own 2 w' w.heap.size w'.heap.size (.slice A zs.length C) zs ∧ Below w.heap.size w w' := by
  have hx1 := ha.len
  obtain ⟨i0, hi, hz0, hz1, hz2⟩ := info_parts info_int64
  go_enter Tryd.func72, Tryd.ntmps72
  go_wp2_with (at_make; refine wpList_make_full _ rfl _ _ _ rfl w.heap.size 2 i0 (.int .i64 0) 1 Tryd.underlying24 hi hz0 hz1 _ _ _ _ zs.length rfl rfl rfl rfl ?_ ?_ (Nat.le_refl _) ?_)
  · rw [hz2]; omega
  · unfold maxLen; omega
  · intro w1 hown1 hg1
    go_wp2
    go_loopw [4] (fun i wr => ∃ k : Nat, k ≤ zs.length ∧ i = .int .i64 k ∧ wr.ownsRow w.heap.size 2 1 (.slice (some ⟨w.heap.size, 0, none⟩) zs.length zs.length) zs.length ((cop zs k).map (Value.int .i64)) ∧ Below w.heap.size w wr) (fun i _ => zs.length - (intOf i).toNat)
    case atStart => exact ⟨0, Nat.zero_le _, rfl, by simpa [cop, toList_madeCells_one, Value.cells] using hown1, (Below.refl _ _).grown hg1 (Nat.le_refl _) (by simp)⟩
    case round =>
      obtain ⟨k, hk, rfl, hown, hbel⟩ := hrel
      by_cases hlt : k < zs.length
      · obtain ⟨b, off, rfl, hc0⟩ := ha.at_ hlt
        have hc1 := (hbel.cell (p := ⟨b, off + k, none⟩) (World.block_lt_of_cell? _ _ hc0)).trans hc0
        have hcell : wr.cell? ⟨w.heap.size, k, none⟩ = some (.int .i64 (nth (cop zs k) k)) := by
          rw [hown.cellAt k (by omega), List.getElem?_map, List.getElem?_eq_getElem (by rw [cop_len hk]; exact hlt), nth_get (by rw [cop_len hk]; exact hlt)]; rfl
        have hfr := hown.frozenAt k
        have hst := hown.stored k (.int .i64 (nth zs k))
        rw [← List.map_set, cop_set hlt] at hst
        have HST := Lib.hid hst
        clear hst hc0 hown1 hg1
        go_wp2
        go_roundw
        case rel => exact ⟨k + 1, by omega, by go_num, HST.out.1, hbel.setCell (by simp) _⟩
        case measure => simp [intOf]; omega
      · obtain rfl : k = zs.length := by omega
        rw [cop_all] at hown
        go_wp2
        go_ret
        exact ⟨_, _, rfl, ⟨hown, fun k hk => (hown.lt k hk).2, hx1⟩, hbel⟩
end Go.Proofs.YtlahobdopmdfmaaDoor
