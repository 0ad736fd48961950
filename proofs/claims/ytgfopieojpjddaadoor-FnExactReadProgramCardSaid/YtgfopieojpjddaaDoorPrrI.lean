/-
  Lines of programs are read, in the program: opOf, readInstr.
-/
import Derived.Test.YtgfopieojpjddaaDoorPlnI
import Derived.Test.YtgfopieojpjddaaDoorReadI
import Derived.Test.YtgfopieojpjddaaDoorShCut
namespace Go.Proofs.YtgfopieojpjddaaDoor
open Go.RowKit

/-- The variables that reading a line meets. -/
structure PrDoor (w : World) : Prop where
  rd : RdDoor w
  words : OpWords w
  max : ∃ m, w.cell? ⟨5, 0, none⟩ = some (.int .i64 m)
theorem prDoor_below {w w' : World} (h : PrDoor w) (hb : Below w.heap.size w w') : PrDoor w' := by
  obtain ⟨h1, h3, m, h2⟩ := h
  exact ⟨rdDoor_below h1 hb, opWords_below h3 hb, m, kept hb h2⟩

/-- What the cut at the first space tells. -/
theorem cut_says (s : ByteArray) : ∃ (H T : ByteArray) (F : Bool), H = ⟨(Lib.cut s.data.toList [32]).1.toArray⟩ ∧ T = ⟨(Lib.cut s.data.toList [32]).2.1.toArray⟩ ∧ F = (Lib.cut s.data.toList [32]).2.2 ∧
    ((F = false ∧ H = s ∧ splitL s 32 = [s]) ∨ (F = true ∧ (∀ x ∈ H.data.toList, ¬ x = 32) ∧ s = (H ++ ⟨#[32]⟩) ++ T ∧ T.size ≤ s.size)) := by
  refine ⟨_, _, _, rfl, rfl, rfl, ?_⟩
  rcases Lib.index_spec s.data.toList [32] with ⟨h1, h2⟩ | ⟨i, h1, h2, h3, h4⟩
  · have e0 : Lib.cut s.data.toList [32] = (s.data.toList, [], false) := by unfold Lib.cut; rw [if_neg (by omega)]
    rw [e0]
    exact .inl ⟨rfl, by apply WideShapes.bytes_inj; rfl, pl_splitL_none h1⟩
  · have hsz : s.data.toList.length = s.size := by simp
    have hi : i < s.size := by
      rcases Lib.occAt_room h3 with h | h
      · simp at h; omega
      · cases h
    have hc : byteAt s i = 32 := (occ_byte hi).1 h3
    have e1 : (Lib.cut s.data.toList [32]) = (s.data.toList.take i, s.data.toList.drop (i + 1), true) := by
      unfold Lib.cut; rw [if_pos (by omega), h1]; simp
    rw [e1]
    refine .inr ⟨rfl, fun x hx hx2 => ?_, ?_, ?_⟩
    · simp only at hx
      obtain ⟨j, hj, rfl⟩ := List.mem_iff_getElem.1 hx
      rw [List.length_take] at hj
      have hj2 : j < s.size := by omega
      have := h4 j (by omega)
      rw [List.getElem_take] at hx2
      have hb : byteAt s j = 32 := by rw [← byteAt_get hj2]; exact hx2
      rw [(occ_byte hj2).2 hb] at this
      cases this
    · apply WideShapes.bytes_inj
      simp only [ByteArray.data_append, Array.toList_append]
      have hg : s.data.toList[i]'(by omega) = 32 := by rw [← hc, ← byteAt_get hi]; rfl
      have := List.drop_eq_getElem_cons (l := s.data.toList) (i := i) (by omega)
      rw [hg] at this
      rw [List.append_assoc, List.singleton_append, ← this, List.take_append_drop]
    · show (s.data.toList.drop (i + 1)).toArray.size ≤ s.size
      simp

theorem run_index_str {P : Program} {t e : TypeId} {n k : Nat} {cs : Array Value} {v : Value} (ht : P.underlying t = some (.array n e)) (he : P.underlying e = some .string) (hinfo : (P.info? e).map (fun i => (i.zero, i.size, i.bytes)) = some (some (.string ByteArray.empty), 1, 16)) (hk : k < n) (hv : cs[k]? = some v) (w : World) :
    (Instr.index t (.agg cs) (.int .i64 (k : Int))).run P w = .ok v w := by
  obtain ⟨i, hi1, hi2, hi3, hi4⟩ := info_parts hinfo
  have hlt : (k : Int) < (n : Int) := by omega
  have hagg : (isAgg e).run P w = .ok false w := by
    unfold isAgg
    rw [Sem.run_bind, run_underlying he w]
    simp
  simp [Instr.index, asIntOf, Sem.run_bind, run_underlying ht, part, hagg, sizeOf, typeInfo, hi1, hi3, hv]
  exact fun h => absurd h (by omega)

set_option maxRecDepth 100000 in
set_option maxHeartbeats 4000000 in
theorem opOf_any (s : ByteArray) (w : World) (hW : OpWords w) :
    Calls Tryd.prog 144 #[.string s] w fun e w' => e = .returned (.tuple #[.int .i64 (opT s 10 : Nat), .bool (decide (¬ opT s 10 = 0))]) ∧ w' = w := by
  have c0 := hW 0 (by omega)
  have c1 := hW 1 (by omega)
  have c2 := hW 2 (by omega)
  have c3 := hW 3 (by omega)
  have c4 := hW 4 (by omega)
  have c5 := hW 5 (by omega)
  have c6 := hW 6 (by omega)
  have c7 := hW 7 (by omega)
  have c8 := hW 8 (by omega)
  have c9 := hW 9 (by omega)
  have c10 := hW 10 (by omega)
  have hix0 : ∀ (k : Nat), k < 11 → ∀ v : World, Sem.run Tryd.prog (Instr.index 152 (.agg #[.string (wdO 0), .string (wdO 1), .string (wdO 2), .string (wdO 3), .string (wdO 4), .string (wdO 5), .string (wdO 6), .string (wdO 7), .string (wdO 8), .string (wdO 9), .string (wdO 10)]) (.int .i64 (k : Int))) v = .ok (.string (wdO k)) v := by
    intro k hk v
    have hc : k = 0 ∨ k = 1 ∨ k = 2 ∨ k = 3 ∨ k = 4 ∨ k = 5 ∨ k = 6 ∨ k = 7 ∨ k = 8 ∨ k = 9 ∨ k = 10 := by omega
    exact run_index_str Tryd.underlying152 Tryd.underlying9 info_string hk (by rcases hc with h | h | h | h | h | h | h | h | h | h | h <;> (subst h; rfl)) v
  have HIX : Hid (∀ k : Nat, k < 11 → ∀ v : World, Sem.run Tryd.prog (Instr.index 152 (.agg #[.string (wdO 0), .string (wdO 1), .string (wdO 2), .string (wdO 3), .string (wdO 4), .string (wdO 5), .string (wdO 6), .string (wdO 7), .string (wdO 8), .string (wdO 9), .string (wdO 10)]) (.int .i64 (k : Int))) v = .ok (.string (wdO k)) v) := by
    exact Lib.hid hix0
  clear hix0
  go_enter Tryd.func144, Tryd.ntmps144
  go_wp2
  clear c0 c1 c2 c3 c4 c5 c6 c7 c8 c9 c10
  generalize #[Value.string (wdO 0), Value.string (wdO 1), Value.string (wdO 2), Value.string (wdO 3), Value.string (wdO 4), Value.string (wdO 5), Value.string (wdO 6), Value.string (wdO 7), Value.string (wdO 8), Value.string (wdO 9), Value.string (wdO 10)] = CS at *
  go_loopw [7] (fun i wr => ∃ k : Nat, k ≤ 11 ∧ i = .int .i64 k ∧ Hid (wr = w) ∧ Hid (∀ j, 1 ≤ j → j < k → ¬ wdO j = s)) (fun i _ => 11 - (intOf i).toNat)
  case atStart => exact ⟨0, by omega, rfl, Lib.hid rfl, Lib.hid fun j h1 h2 => by omega⟩
  case round =>
    obtain ⟨k, hk, rfl, HW, HA⟩ := hrel
    have hw := HW.out
    clear HW
    subst wr
    by_cases hlt : k < 11
    · have hix := HIX.out k hlt
      rcases Nat.eq_zero_or_pos k with h0 | h0
      · subst h0
        have hz : ∀ v : World, Sem.run Tryd.prog (Instr.index 152 (.agg CS) (.int .i64 0)) v = .ok (.string (wdO 0)) v := fun v => HIX.out 0 (by omega) v
        clear hix
        go_wp2
        go_roundw
        case rel => exact ⟨1, by omega, by go_num, Lib.hid (by trivial), Lib.hid fun j h1 h2 => by omega⟩
        case measure => (simp [intOf])
      · have HN := Lib.hid (fun (he : wdO k = s) => opT_found h0 (by omega) he)
        have HM := Lib.hid (fun (he : ¬ wdO k = s) => show ∀ j, 1 ≤ j → j < k + 1 → ¬ wdO j = s from fun j h1 h2 => by
          rcases Nat.lt_or_ge j k with h3 | h3
          · exact HA.out j h1 h3
          · obtain rfl : j = k := by omega
            exact he)
        have hk1 : (1 : Int) ≤ (k : Int) := by omega
        have hd1 : decide ((k : Int) ≥ 1) = true := decide_eq_true hk1
        clear HA
        generalize wdO k = W at *
        by_cases he : W = s
        · have e1 := str_eqB he
          have HF := Lib.hid (HN.out he)
          have hk0 : ¬ k = 0 := by omega
          clear HN HM he
          go_wp2
          exact bodyPost_ret (v := .tuple #[.int .i64 (k : Nat), .bool true]) (by simp [results, Tryd.results144, go_sem]) rfl ⟨by rw [HF.out, decide_eq_true hk0], rfl⟩
        · have e1 := str_neB he
          have HF := Lib.hid (HM.out he)
          clear HN HM he
          go_wp2
          go_roundw
          case rel => exact ⟨k + 1, by omega, by go_num, Lib.hid (by trivial), HF⟩
          case measure => (simp [intOf]) <;> omega
    · obtain rfl : k = 11 := by omega
      have HF := Lib.hid (opT_none fun j h1 h2 => HA.out j h1 (by omega))
      go_wp2
      exact bodyPost_ret (v := .tuple #[.int .i64 0, .bool false]) (by simp [results, Tryd.results144, go_sem]) rfl ⟨by rw [HF.out] <;> rfl, rfl⟩
end Go.Proofs.YtgfopieojpjddaaDoor
