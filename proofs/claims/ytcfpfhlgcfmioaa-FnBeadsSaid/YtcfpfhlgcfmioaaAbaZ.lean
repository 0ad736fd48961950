/-
  impl.digitsOf, SetAbacus, PlainAbacus.
-/
import Derived.Test.YtcfpfhlgcfmioaaArr
import Derived.Test.YtcfpfhlgcfmioaaAbaY
import Derived.Test.YtcfpfhlgcfmioaaAbaW
namespace Go.Proofs.Ytcfpfhlgcfmioaa
open Go.RowKit

theorem info_i64 : (Try.prog.info? 2).map (fun i => (i.zero, i.size, i.bytes)) = some (some (.int .i64 0), 1, 8) := by kernel_rfl

set_option maxRecDepth 100000 in
set_option maxHeartbeats 4000000 in
theorem digitsOf_any (v : Int) (w : World) (v0 : 0 ≤ v) (v1 : v ≤ 1000000000000) :
    Calls Try.prog 72 #[.int .i64 v] w fun e w' => e = .returned (.agg ((digsR 10 13 v).map (Value.int .i64)).toArray) ∧ Below w.heap.size w w' := by
  go_enter Try.func72, Try.ntmps72
  go_wp2
  go_loopw [0, 4, 5] (fun q _ i wr => ∃ k : Nat, k ≤ 13 ∧ i = .int .i64 k ∧ q = .int .i64 (leftR 10 k v) ∧ Bx wr w.heap.size 103 ((pad 13 []).map (Value.int .i64)).toArray ∧ Bx wr (w.heap.size + 1) 103 ((pad 13 (digsR 10 k v)).map (Value.int .i64)).toArray ∧ Below w.heap.size w wr) (fun _ _ i _ => 13 - (intOf i).toNat)
  case atStart =>
    have e : ((pad 13 (digsR 10 0 v)).map (Value.int .i64)).toArray = #[.int .i64 0, .int .i64 0, .int .i64 0, .int .i64 0, .int .i64 0, .int .i64 0, .int .i64 0, .int .i64 0, .int .i64 0, .int .i64 0, .int .i64 0, .int .i64 0, .int .i64 0] := rfl
    refine ⟨0, Nat.zero_le _, rfl, rfl, (Bx.new _ _ _).alloc _, ?_, (by repeat (first | exact Below.refl _ _ | refine Below.setCell ?_ (by first | omega | (simp <;> omega)) _ | refine Below.alloc ?_ (by first | omega | (simp <;> omega)) _ | refine Below.drew ?_))⟩
    rw [e]
    simpa using Bx.new (w.alloc (.cells #[.int .i64 0, .int .i64 0, .int .i64 0, .int .i64 0, .int .i64 0, .int .i64 0, .int .i64 0, .int .i64 0, .int .i64 0, .int .i64 0, .int .i64 0, .int .i64 0, .int .i64 0] 103)) #[.int .i64 0, .int .i64 0, .int .i64 0, .int .i64 0, .int .i64 0, .int .i64 0, .int .i64 0, .int .i64 0, .int .i64 0, .int .i64 0, .int .i64 0, .int .i64 0, .int .i64 0] 103
  case round =>
    obtain ⟨k, hk, rfl, rfl, bx0, bx1, hb⟩ := hrel
    have hlb := leftR_bd (by omega : (1 : Int) ≤ 10) k v v0 v1
    have hzs := bx1.lt
    by_cases hlt : k < 13
    · have hlen := digsR_len 10 k v
      have HL := Lib.hid hlen
      have c1 : wr.cell? ⟨w.heap.size + 1, k, none⟩ = some (.int .i64 (nth (pad 13 (digsR 10 k v)) k)) := by
        rw [bx1.cell k, List.getElem?_toArray, List.getElem?_map, List.getElem?_eq_getElem (by rw [pad_len (by omega)]; exact hlt), nth_get (by rw [pad_len (by omega)]; exact hlt)]; rfl
      have f1 := bx1.thaw k
      have HS := Lib.hid (bx1.set_ k (.int .i64 (leftR 10 k v % 10)))
      have hr : (leftR 10 k v).tmod 10 = leftR 10 k v % 10 := Int.tmod_eq_emod_of_nonneg hlb.1
      clear hlen
      go_wp2
      go_roundw
      case rel =>
        refine ⟨k + 1, by omega, by go_num, by rw [leftR_succ], bx0.far (by simp) _, ?_, (by repeat (first | exact hb | refine Below.setCell ?_ (by first | omega | (simp <;> omega)) _ | refine Below.alloc ?_ (by first | omega | (simp <;> omega)) _ | refine Below.drew ?_))⟩
        have := HS.out
        rwa [arr_put HL.out hlt, ← digsR_succ] at this
      case measure => (simp [intOf]) <;> omega
    · obtain rfl : k = 13 := by omega
      obtain ⟨D, hD⟩ : ∃ D, D = digsR 10 13 v := ⟨_, rfl⟩
      have hlen : D.length = 13 := by rw [hD, digsR_len]
      rw [pad_all (digsR_len _ _ _), ← hD] at bx1
      have HD := Lib.hid hD
      have hsz : (D.map (Value.int .i64)).toArray.size = 13 := by simp [hlen]
      have hone : (D.map (Value.int .i64)).toArray.all (·.oneCell') = true := by
        simp
        intro x _
        rfl
      have hi13 : (Try.prog.info? 103).map (·.size) = some 13 := by kernel_rfl
      clear hD hlen
      go_wp2_with (first | (refine wpList_load_row rfl 103 (.tmp 3) rfl (w.heap.size + 1) rfl 103 (D.map (Value.int .i64)).toArray (0, 0) _ bx1 Try.underlying103 rfl (by rw [hsz]; exact hi13) ?_) | (refine wpList_store_row rfl 103 (.tmp 2) (.tmp 15) rfl w.heap.size (D.map (Value.int .i64)).toArray rfl rfl 103 _ bx0 (by rw [hsz]; exact hi13) (by rw [hsz]; rfl) hone ?_))
      refine bodyPost_ret (v := .agg (D.map (Value.int .i64)).toArray) ?_ rfl ⟨by rw [HD.out], below_setRow hb (Nat.le_refl _) _⟩
      exact results_cell_row (p := 2) (ty := 103) rfl _ _ w.heap.size 103 _ (0, 0) _ rfl (setRow_heap _ _ _ _ _ _ bx0) Try.underlying103 rfl (by rw [hsz]; exact hi13)

theorem vcC_bad {U L W : Int} {rs : List (Int × Int)} {v : Int} (h : abaB U L W rs = false) : vcC U L W rs v = 1 := by simp [vcC, h]
theorem vcC_range {U L W : Int} {rs : List (Int × Int)} {v : Int} (h : abaB U L W rs = true) (hv : ¬ (0 ≤ v ∧ v ≤ 1000000000000)) : vcC U L W rs v = 2 := by rw [vcC, if_pos h, if_neg hv]
theorem vcC_ok {U L W : Int} {rs : List (Int × Int)} {v : Int} (h : abaB U L W rs = true) (hv : 0 ≤ v ∧ v ≤ 1000000000000) : vcC U L W rs v = 0 := by rw [vcC, if_pos h, if_pos hv]

end Go.Proofs.Ytcfpfhlgcfmioaa
