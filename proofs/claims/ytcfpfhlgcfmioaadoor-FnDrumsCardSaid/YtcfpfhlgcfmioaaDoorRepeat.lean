/-
  bytes.Repeat of one byte, not too often.
-/
import Derived.Test.YtcfpfhlgcfmioaaDoorProg
import Derived.Test.YtcfpfhlgcfmioaaDoorBase
import Derived.Test.YtcfpfhlgcfmioaaDoorByteF
import Derived.Test.YtcfpfhlgcfmioaaDoorOrd
import Derived.Test.YtcfpfhlgcfmioaaDoorShMul
import Derived.Lib.MakeNoZero
import Derived.Lib.MinMax
import Derived.Lib.SlBuf
import Derived.Laws.CopyRow
import Derived.Laws.CopyOwn
import Derived.Laws.Slices
namespace Go.Proofs.YtcfpfhlgcfmioaaDoor
open Go.RowKit

/-- The first n cells of block g are these bytes. -/
def BRow (w : World) (g n : Nat) (xs : List UInt8) : Prop := ∃ cur : Array Value, Bx w g 5 cur ∧ xs.length = n ∧ cur.toList.take n = xs.map fun b => Value.int .u8 (b.toNat : Int)
section
variable {w w' : World} {g n : Nat} {xs : List UInt8}
theorem BRow.lt (h : BRow w g n xs) : g < w.heap.size := by obtain ⟨_, h, _⟩ := h; exact h.lt
theorem BRow.below (h : BRow w g n xs) (hb : Below w.heap.size w w') : BRow w' g n xs := by obtain ⟨c, h, r⟩ := h; exact ⟨c, h.below hb, r⟩
theorem BRow.cell (h : BRow w g n xs) {i : Nat} (hi : i < n) : w.cell? ⟨g, i, none⟩ = some (.int .u8 ((elt byteF xs i).toNat : Int)) := by
  obtain ⟨c, h, hl, ht⟩ := h
  refine h.at_ i ?_
  have e : (c.toList.take n)[i]? = (xs.map fun b => Value.int .u8 (b.toNat : Int))[i]? := by rw [ht]
  rw [List.getElem?_take, if_pos hi, List.getElem?_map, elt_some (F := byteF) (by omega)] at e
  simpa using e
theorem BRow.thaw (h : BRow w g n xs) (i : Nat) : w.frozen? ⟨g, i, none⟩ = false := by obtain ⟨_, h, _⟩ := h; exact h.thaw i
theorem BRow.put (h : BRow w g n xs) {i : Nat} (_ : i < n) (b : UInt8) : BRow (w.setCell ⟨g, i, none⟩ (.int .u8 (b.toNat : Int))) g n (xs.set i b) := by
  obtain ⟨c, h, hl, ht⟩ := h
  refine ⟨_, h.set_ i _, by simpa using hl, ?_⟩
  rw [Array.toList_setIfInBounds, List.take_set, ht, List.map_set]
theorem BRow.text (h : BRow w g n xs) {P : Program} (c : Nat) (src dst e : TypeId) (hs : P.underlying src = some (.slice e)) (he : P.underlying e = some (.int .u8)) (hd : P.underlying dst = some .string) :
    (convert src dst (.slice (some ⟨g, 0, none⟩) n c)).run P w = .ok (.string ⟨xs.toArray⟩) w := by
  have hl : xs.length = n := by obtain ⟨_, _, hl, _⟩ := h; exact hl
  subst hl
  refine run_convert_bytes_back w src dst e ⟨g, 0, none⟩ c xs hs he hd fun j hj => ?_
  have := h.cell (i := j) hj
  rw [elt_get hj] at this
  rw [show (⟨g, 0, none⟩ : Addr).add j = ⟨g, j, none⟩ by simp [Addr.add]; exact fun e => e.symm]
  exact this
end

/-- The first k cells of block g, which has n of them or more, are dots. -/
def RepAt (w : World) (g n k : Nat) : Prop := ∃ cur : Array Value, Bx w g 5 cur ∧ n ≤ cur.size ∧ ∀ i, i < k → cur[i]? = some (.int .u8 46)
theorem RepAt.row {w : World} {g n : Nat} (h : RepAt w g n n) : BRow w g n (List.replicate n 46) := by
  obtain ⟨c, h, hn, hc⟩ := h
  refine ⟨c, h, by simp, ?_⟩
  apply List.ext_getElem?
  intro i
  rw [List.getElem?_take, List.map_replicate, List.getElem?_replicate]
  by_cases hi : i < n
  · rw [if_pos hi, if_pos hi, Array.getElem?_toList, hc i hi]; rfl
  · rw [if_neg hi, if_neg hi]
/-- More dots are laid behind those that are there. -/
theorem RepAt.copied {w : World} {g n k m : Nat} {cur : Array Value} (h : Bx w g 5 cur) (hn : n ≤ cur.size) (hc : ∀ i, i < k → cur[i]? = some (.int .u8 46)) (hkm : k + m ≤ n) :
    RepAt (w.setRow g (cur.toList.take k ++ List.replicate m (Value.int .u8 46) ++ cur.toList.drop (k + m)).toArray) g n (k + m) := by
  refine ⟨_, setRow_heap w g cur _ 5 _ h, ?_, fun i hi => ?_⟩
  · simp; omega
  · simp only [List.getElem?_toArray]
    by_cases h1 : i < k
    · rw [List.append_assoc, List.getElem?_append_left (by simp; omega), List.getElem?_take, if_pos h1, Array.getElem?_toList]
      exact hc i h1
    · have hk : (cur.toList.take k).length = k := by rw [List.length_take, Array.length_toList]; omega
      rw [List.append_assoc, List.getElem?_append_right (by rw [hk]; omega), List.getElem?_append_left (by rw [List.length_replicate, hk]; omega), List.getElem?_replicate, if_pos (by rw [hk]; omega)]

/-- 's[:k]' of a whole row. -/
theorem slice_head {P : Program} (W : World) (t e : TypeId) (ht : P.underlying t = some (.slice e)) (hz : ∀ w, (Go.sizeOf e).run P w = .ok 1 w) (h n k : Nat) (h0 : 0 < k) (hk : k ≤ n) :
    (Instr.slice t (.slice (some ⟨h, 0, none⟩) n n) none (some (.int .i64 (k : Int))) none).run P W = .ok (.slice (some ⟨h, 0, none⟩) k n) W := by
  have ht' : P.underlying t = some (.slice (P.elem t)) := by simp [Program.elem, ht]
  have he : P.elem t = e := by simp [Program.elem, ht]
  rw [run_slice_h W t _ _ _ ht' .i64 _ (by omega) (by omega), he, hz]
  have hn : ¬ n = 0 := by omega
  simp [Result.andThen, sliced, hn, Addr.add]

set_option maxRecDepth 100000 in
set_option maxHeartbeats 4000000 in
theorem repeat_any (p c n : Nat) (w : World) (hc : w.cell? ⟨p, 0, none⟩ = some (.int .u8 46)) (h1 : 1 ≤ n) (h2 : n ≤ 60) :
    Calls Tryd.prog 46 #[.slice (some ⟨p, 0, none⟩) 1 c, .int .i64 n] w fun e w' => ∃ g, e = .returned (.slice (some ⟨g, 0, none⟩) n n) ∧ w.heap.size ≤ g ∧ g < w'.heap.size ∧ BRow w' g n (List.replicate n 46) ∧ Below w.heap.size w w' := by
  have hinfo : (Tryd.prog.info? 5).map (·.size) = some 1 := by kernel_rfl
  obtain ⟨cs, hrunM, hle, _⟩ := Lib.run_makeNoZero (P := Tryd.prog) w #[3] 22 5 Tryd.underlying22 n (by omega)
  have hcall : (callFunc 55 #[.int .i64 (n : Int)]).run Tryd.prog w = .ok (.value (.slice (some ⟨w.heap.size, 0, none⟩) n cs.size)) ((w.alloc (.cells cs 5)).drewN 2) := by
    rw [run_callFunc_extern Tryd.func55 (by kernel_rfl) (by kernel_rfl) (by kernel_rfl) (e := Extern.BytealgMakeNoZero.makeNoZero #[3] #[22]) (by kernel_rfl), hrunM]
    rfl
  clear hrunM
  have i0 : (0 : Int) ≤ (n : Int) := by omega
  have i1 : (n : Int) ≤ (cs.size : Int) := by omega
  have bx : Bx ((w.alloc (.cells cs 5)).drewN 2) w.heap.size 5 cs := (Bx.new _ _ _).drewN 2
  have hbel : Below w.heap.size w ((w.alloc (.cells cs 5)).drewN 2) := bel_drewN ((Below.refl _ _).alloc (Nat.le_refl _) _) 2
  have hc' := kept hbel hc
  have hr1 := run_copy_row (P := Tryd.prog) ((w.alloc (.cells cs 5)).drewN 2) 22 22 3 5 w.heap.size 0 n n ⟨p, 0, none⟩ 1 c cs 5 [.int .u8 46] Tryd.underlying22 hinfo bx (show 1 = min 1 n by omega)
    (fun j v hj => by
      match j, hj with
      | 0, hj => simp at hj; subst hj; exact hc') (by simp; omega) (fun v hv => by simp at hv; subst hv; rfl)
  have R1 := RepAt.copied (k := 0) (m := 1) (n := n) bx hle (fun i hi => absurd hi (Nat.not_lt_zero i)) (by omega)
  rw [show List.replicate 1 (Value.int .u8 46) = [.int .u8 46] from rfl] at R1
  simp only [Nat.zero_add, List.length_cons, List.length_nil] at hr1 R1
  have B1 := below_setRow hbel (Nat.le_refl w.heap.size) (cs.toList.take 0 ++ [Value.int .u8 46] ++ cs.toList.drop 1).toArray
  obtain ⟨w1, hw1⟩ : ∃ w1, w1 = ((w.alloc (.cells cs 5)).drewN 2).setRow w.heap.size (cs.toList.take 0 ++ [Value.int .u8 46] ++ cs.toList.drop 1).toArray := ⟨_, rfl⟩
  rw [← hw1] at hr1 R1 B1
  replace hr1 : (Builtin.copy_ #[22, 22] 3 #[.slice (some ⟨w.heap.size, 0, none⟩) n n, .slice (some ⟨p, 0, none⟩) 1 c]).run Tryd.prog ((w.alloc (.cells cs 5)).drewN 2) = .ok (.int .i64 1) w1 := hr1
  have HR1 := Lib.hid hr1
  have HRep := Lib.hid R1
  clear bx hc' hr1 R1 hw1 hbel
  have HM := Lib.hid (show Calls Tryd.prog 54 #[.int .u64 1, .int .u64 (n : Int)] w fun e w' => e = .returned (.tuple #[.int .u64 0, .int .u64 (n : Int)]) ∧ w' = w by
    have h := Tryd.bits_Mul 1 n (by omega) (by omega) w
    rw [show 1 * n / 18446744073709551616 = 0 by omega, show 1 * n % 18446744073709551616 = n by omega] at h
    exact h)
  have hsl1 : ∀ (k : Nat) W, k ≤ n → (Instr.slice 22 (.slice (some ⟨w.heap.size, 0, none⟩) n n) (some (.int .i64 (k : Int))) none none).run Tryd.prog W = .ok (Lib.tailV w.heap.size n k) W := fun k W hk => Lib.run_slice_tailV W 22 5 Tryd.underlying22 (fun _ => by kernel_rfl) _ n k hk
  have HS1 := Lib.hid hsl1
  clear hsl1
  go_enter Tryd.func46, Tryd.ntmps46
  go_wp2_with fail
  refine HM.out.mono ?_
  rintro e w' ⟨rfl, hw'⟩
  subst w'
  have hr1 := HR1.out
  go_wp2_with fail
  clear hcall i0 i1 hr1
  go_loopw [10, 11] (fun b _ wr => ∃ k : Nat, k ≤ n ∧ 1 ≤ k ∧ b = .int .i64 k ∧ RepAt wr w.heap.size n k ∧ Below w.heap.size w wr) (fun b _ _ => n - (intOf b).toNat)
  case atStart => exact ⟨1, h1, Nat.le_refl _, rfl, HRep.out, B1⟩
  case round =>
    clear B1
    obtain ⟨k, hk, hk1, rfl, hrep, hbel⟩ := hrel
    by_cases hlt : k < n
    · obtain ⟨cur, bx0, hcs, hcc⟩ := hrep
      have bx := bx0.drew
      have hbd := hbel.drew
      clear bx0
      obtain ⟨m, hm⟩ : ∃ m, m = min (n - k) k := ⟨_, rfl⟩
      have hmin : min (k : Int) (n : Int) = (k : Int) := by omega
      have hne : ¬ n = k := by omega
      have hr2 := run_copy_row (P := Tryd.prog) wr.drew 22 22 3 5 w.heap.size k (n - k) (n - k) ⟨w.heap.size, 0, none⟩ k n cur 5 (List.replicate m (Value.int .u8 46)) Tryd.underlying22 hinfo bx (by rw [List.length_replicate, hm]; show _ = min k (n - k); omega)
        (fun j v hj => by
          rw [List.getElem?_replicate] at hj
          split at hj
          · rename_i hjm
            injection hj with hj
            subst hj
            rw [show (⟨w.heap.size, 0, none⟩ : Addr).add j = ⟨w.heap.size, j, none⟩ by simp [Addr.add]; exact fun e => e.symm]
            exact bx.at_ j (hcc j (by omega))
          · cases hj) (by rw [List.length_replicate]; omega) (fun v hv => by rw [List.eq_of_mem_replicate hv]; rfl)
      have R2 := RepAt.copied (k := k) (m := m) (n := n) bx hcs hcc (by omega)
      rw [List.length_replicate] at hr2
      have B2 := below_setRow hbd (Nat.le_refl w.heap.size) (cur.toList.take k ++ List.replicate m (Value.int .u8 46) ++ cur.toList.drop (k + m)).toArray
      obtain ⟨w2, hw2⟩ : ∃ w2, w2 = wr.drew.setRow w.heap.size (cur.toList.take k ++ List.replicate m (Value.int .u8 46) ++ cur.toList.drop (k + m)).toArray := ⟨_, rfl⟩
      rw [← hw2] at hr2 R2 B2
      have ht : Lib.tailV w.heap.size n k = .slice (some ⟨w.heap.size, k, none⟩) (n - k) (n - k) := by unfold Lib.tailV; rw [if_neg hne]
      replace hr2 : (Builtin.copy_ #[22, 22] 3 #[Lib.tailV w.heap.size n k, .slice (some ⟨w.heap.size, 0, none⟩) k n]).run Tryd.prog wr.drew = .ok (.int .i64 (m : Int)) w2 := by rw [ht]; exact hr2
      have HR2 := Lib.hid hr2
      have HRep2 := Lib.hid R2
      have hs1 : ∀ W, (Instr.slice 22 (.slice (some ⟨w.heap.size, 0, none⟩) n n) (some (.int .i64 (k : Int))) none none).run Tryd.prog W = .ok (Lib.tailV w.heap.size n k) W := fun W => HS1.out k W hk
      have hmk : 1 ≤ m ∧ k + m ≤ n := by omega
      clear hr2 R2 hw2 bx hcs hcc hne ht hm hbel hbd
      have hs2 : ∀ W, (Instr.slice 22 (.slice (some ⟨w.heap.size, 0, none⟩) n n) none (some (.int .i64 (k : Int))) none).run Tryd.prog W = .ok (.slice (some ⟨w.heap.size, 0, none⟩) k n) W := fun W => slice_head W 22 5 Tryd.underlying22 (fun _ => by kernel_rfl) _ n k (by omega) (by omega)
      have hr2 := HR2.out
      have hwk : IntKind.i64.wrap ((k : Int) + (m : Int)) = (k : Int) + (m : Int) := IntWalk.i64_in _ (by omega)
      clear HR2
      go_wp2
      refine wp_region_marked (fun _ => True) 9 (by kernel_rfl) ?_
      refine wpAnyM_take (i := 0) (v := ?_) rfl (by kernel_rfl) (by kernel_rfl) (by kernel_rfl) (by kernel_rfl) (by kernel_rfl) (fun _ _ _ h => h) trivial (.inl ⟨by rfl, ?_⟩) ?_
      rotate_left 1
      · intro w' hS'; go_simp; try with_reducible rfl
      simp only [Act.put, List.setIfInBounds_toArray]
      refine wpAnyM_take (i := 1) (v := ?_) rfl (by kernel_rfl) (by kernel_rfl) (by kernel_rfl) (by kernel_rfl) (by kernel_rfl) (fun _ _ _ h => h) trivial (.inl ⟨by rfl, ?_⟩) ?_
      rotate_left 1
      · intro w' hS'; go_simp; try with_reducible rfl
      simp only [Act.put]
      refine wpAnyM_take (i := 2) (v := ?_) rfl (by kernel_rfl) (by kernel_rfl) (by kernel_rfl) (by kernel_rfl) (by kernel_rfl) (fun _ _ _ h => h) trivial (.inl ⟨by rfl, ?_⟩) ?_
      rotate_left 1
      · intro w' hS'; go_simp; try with_reducible rfl
      simp only [Act.put]
      refine wpAnyM_take (i := 3) (v := ?_) rfl (by kernel_rfl) (by kernel_rfl) (by kernel_rfl) (by kernel_rfl) (by kernel_rfl) (fun _ _ _ h => h) trivial (.inl ⟨by rfl, ?_⟩) ?_
      rotate_left 1
      · intro w' hS'; go_simp; try with_reducible rfl
      simp only [Act.put]
      refine wpAnyM_take (i := 4) (v := ?_) rfl (by kernel_rfl) (by kernel_rfl) (by kernel_rfl) (by kernel_rfl) (by kernel_rfl) (fun _ _ _ h => h) trivial (.inl ⟨by rfl, ?_⟩) ?_
      rotate_left 1
      · intro w' hS'; go_simp; try with_reducible rfl
      simp only [Act.put]
      refine wpAnyM_take (i := 5) (v := ?_) rfl (by kernel_rfl) (by kernel_rfl) (by kernel_rfl) (by kernel_rfl) (by kernel_rfl) (fun _ _ _ h => h) trivial (.inl ⟨by rfl, ?_⟩) ?_
      rotate_left 1
      · intro w' hS'; go_simp; try with_reducible rfl
      simp only [Act.put]
      refine wpAnyM_take (i := 6) (v := ?_) rfl (by kernel_rfl) (by kernel_rfl) (by kernel_rfl) (by kernel_rfl) (by kernel_rfl) (fun _ _ _ h => h) trivial (.inl ⟨by rfl, ?_⟩) ?_
      rotate_left 1
      · intro w' hS'; go_simp; try with_reducible rfl
      simp only [Act.put]
      refine wpAnyM_one (i := 7) (by kernel_rfl) rfl (by rfl) (fun K hK => ?_)
      go_simp
      refine hK _ _ (.inr trivial) ?_
      try simp only [Act.put, List.setIfInBounds_toArray]
      clear hK K
      refine wpAnyM_take (i := 8) (v := ?_) rfl (by kernel_rfl) (by kernel_rfl) (by kernel_rfl) (by kernel_rfl) (by kernel_rfl) (fun _ _ _ h => h) trivial (.inl ⟨by rfl, ?_⟩) ?_
      rotate_left 1
      · intro w' hS'; go_simp; try with_reducible rfl
      simp only [Act.put, List.setIfInBounds_toArray]
      refine wpAnyM_one (i := 9) (by kernel_rfl) rfl (by rfl) (fun K hK => ?_)
      go_simp
      refine hK _ _ (.inl rfl) ?_
      clear hK K
      refine wpAnyM_done (by kernel_rfl) ?_ _
      clear hr2 hs1 hs2 hmin
      try rw [hwk]
      clear hwk
      go_wp2
      go_roundw
      case rel => exact ⟨k + m, by omega, by omega, by go_num, HRep2.out, B2⟩
      case measure => (simp [intOf]) <;> omega
    · obtain rfl : k = n := by omega
      go_wp2
      go_ret
      exact ⟨w.heap.size, rfl, Nat.le_refl _, hrep.row.lt, hrep.row, hbel⟩
end Go.Proofs.YtcfpfhlgcfmioaaDoor
