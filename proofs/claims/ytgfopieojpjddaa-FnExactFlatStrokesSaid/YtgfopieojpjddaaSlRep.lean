/-
  slices.Repeat of a row of int64.
-/
import Derived.Test.YtgfopieojpjddaaProg
import Derived.Test.YtgfopieojpjddaaBase
import Derived.Test.YtgfopieojpjddaaApp
import Derived.Test.YtgfopieojpjddaaOrdC
import Derived.Test.YtgfopieojpjddaaPfoM
import Derived.Test.YtgfopieojpjddaaShMul
import Derived.Lib.MakeNoZero
import Derived.Lib.MinMax
import Derived.Lib.SlBuf
import Derived.Laws.CopyRow
import Derived.Laws.CopyOwn
import Derived.Laws.Slices
namespace Go.Proofs.Ytgfopieojpjddaa
open Go.RowKit

theorem info_i64r : (Try.prog.info? 2).map (fun i => (i.zero, i.size, i.bytes)) = some (some (.int .i64 0), 1, 8) := by kernel_rfl
theorem nth_repL (zs : List Int) : ∀ (m i : Nat), i < m * zs.length → nth (repL m zs) i = nth zs (i % zs.length)
  | 0, i, h => by omega
  | m + 1, i, h => by
    rw [Nat.succ_mul] at h
    rw [repL]
    by_cases h1 : i < zs.length
    · rw [Nat.mod_eq_of_lt h1]
      simp [nth, List.getElem?_append_left h1]
    · rw [Nat.mod_eq_sub_mod (by omega), ← nth_repL zs m (i - zs.length) (by omega)]
      simp [nth, List.getElem?_append_right (show zs.length ≤ i by omega)]

/-- The first k cells of block g, which has N of them, are those of the repeated row. -/
def RepI (w : World) (g N k : Nat) (zs : List Int) : Prop := ∃ cur : Array Value, Bx w g 2 cur ∧ cur.size = N ∧ ∀ i, i < k → cur[i]? = some (.int .i64 (nth zs (i % zs.length)))
theorem RepI.own {w : World} {g m N lo : Nat} {zs : List Int} (h : RepI w g N N zs) (hN : N = m * zs.length) (hl : N ≤ 1000000) (hlo : lo ≤ g) : Own 2 w lo w.heap.size (.slice (some ⟨g, 0, none⟩) N N) (repL m zs) := by
  obtain ⟨cur, h, hs, hc⟩ := h
  have hlen : (repL m zs).length = N := by rw [repL_len, hN]
  refine ⟨⟨by simp, .inr ⟨g, N, cur, by rw [hlen], hlo, h, by omega, by unfold maxLen; omega, by omega, ?_⟩⟩, fun k hk => ?_, by omega⟩
  · rw [hlen, Nat.mul_one]
    apply List.ext_getElem?
    intro i
    rw [List.getElem?_take]
    by_cases hi : i < N
    · rw [if_pos hi, Array.getElem?_toList, hc i hi, ← nth_repL zs m i (by omega), List.getElem?_map, List.getElem?_eq_getElem (by omega), nth_get (by omega)]
      rfl
    · rw [if_neg hi, List.getElem?_eq_none (by simp; omega)]
  · have := h.lt
    simp [Value.ownBlock] at hk
    omega
/-- More of it is laid behind what is there. -/
theorem RepI.copied {w : World} {g N k m : Nat} {zs : List Int} {cur : Array Value} (h : Bx w g 2 cur) (hn : cur.size = N) (hc : ∀ i, i < k → cur[i]? = some (.int .i64 (nth zs (i % zs.length)))) (hkm : k + m ≤ N) (news : List Value) (hl : news.length = m)
    (hv : ∀ j, j < m → news[j]? = some (.int .i64 (nth zs ((k + j) % zs.length)))) :
    RepI (w.setRow g (cur.toList.take k ++ news ++ cur.toList.drop (k + m)).toArray) g N (k + m) zs := by
  refine ⟨_, setRow_heap w g cur _ 2 _ h, ?_, fun i hi => ?_⟩
  · simp; omega
  · simp only [List.getElem?_toArray]
    have hk : (cur.toList.take k).length = k := by rw [List.length_take, Array.length_toList]; omega
    by_cases h1 : i < k
    · rw [List.append_assoc, List.getElem?_append_left (by rw [hk]; exact h1), List.getElem?_take, if_pos h1, Array.getElem?_toList]
      exact hc i h1
    · rw [List.append_assoc, List.getElem?_append_right (by rw [hk]; omega), List.getElem?_append_left (by rw [hl, hk]; omega), hk, hv (i - k) (by omega), show k + (i - k) = i by omega]
theorem sliceI_head {P : Program} (W : World) (t e : TypeId) (ht : P.underlying t = some (.slice e)) (hz : ∀ w, (Go.sizeOf e).run P w = .ok 1 w) (h n k : Nat) (h0 : 0 < k) (hk : k ≤ n) :
    (Instr.slice t (.slice (some ⟨h, 0, none⟩) n n) none (some (.int .i64 (k : Int))) none).run P W = .ok (.slice (some ⟨h, 0, none⟩) k n) W := by
  have ht' : P.underlying t = some (.slice (P.elem t)) := by simp [Program.elem, ht]
  have he : P.elem t = e := by simp [Program.elem, ht]
  rw [run_slice_h W t _ _ _ ht' .i64 _ (by omega) (by omega), he, hz]
  have hn : ¬ n = 0 := by omega
  simp [Result.andThen, sliced, hn, Addr.add]
theorem below_setRowI {B g : Nat} {a w : World} {cs : Array Value} (h : Below B a w) (hg : B ≤ g) : Below B a (w.setRow g cs) :=
  ⟨h.os, h.tape, h.output, by have : (w.setRow g cs).heap.size = w.heap.size := by simp [World.setRow]
                              rw [this]; exact h.size, fun k hk => by
    have : (w.setRow g cs).heap[k]? = w.heap[k]? := by simp [World.setRow, Array.getElem?_modify, show ¬ g = k by omega]
    exact this.trans (h.block k hk)⟩
theorem own_bx {w : World} {lo hi g N : Nat} {xs : List Int} (h : Own 2 w lo hi (.slice (some ⟨g, 0, none⟩) N N) xs) : ∃ cur, Bx w g 2 cur ∧ cur.size = N := by
  rcases h.row.2 with ⟨hv, _⟩ | ⟨b, cap, cur, hv, _, hh, _, _, hz, _⟩
  · cases hv
  · injection hv with ha _ hC
    injection ha with ha
    injection ha with ha
    subst ha
    exact ⟨cur, hh, by omega⟩

set_option maxRecDepth 100000 in
set_option maxHeartbeats 4000000 in
theorem repI_any (a : Option Addr) (c : Nat) (zs : List Int) (m : Nat) (w : World) (ha : Rd w a zs) (h1 : 1 ≤ m) (h0 : 1 ≤ zs.length) (h2 : m * zs.length ≤ 1000000) :
    Calls Try.prog 45 #[.slice a zs.length c, .int .i64 (m : Int)] w fun e w' => ∃ A C, e = .returned (.slice A (repL m zs).length C) ∧ Own 2 w' w.heap.size w'.heap.size (.slice A (repL m zs).length C) (repL m zs) ∧ Below w.heap.size w w' := by
  have hinfo : (Try.prog.info? 2).map (·.size) = some 1 := by kernel_rfl
  obtain ⟨N, hN⟩ : ∃ N, N = m * zs.length := ⟨_, rfl⟩
  obtain ⟨L, hL⟩ : ∃ L, L = zs.length := ⟨_, rfl⟩
  have hmL : m ≤ 1000000 ∧ L ≤ 1000000 ∧ L ≤ N ∧ N ≤ 1000000 := by
    rw [← hL] at hN h0 h2
    have e1 := Nat.mul_le_mul_left m h0
    have e2 := Nat.mul_le_mul_right L h1
    omega
  obtain ⟨p, off, rfl, hc⟩ := ha.cells (by rintro rfl; simp at h0)
  have HM := Lib.hid (show Calls Try.prog 46 #[.int .u64 (L : Int), .int .u64 (m : Int)] w fun e w' => e = .returned (.tuple #[.int .u64 0, .int .u64 (N : Int)]) ∧ w' = w by
    have h := Try.bits_Mul L m (by omega) (by omega) w
    have e1 : L * m = N := by rw [hN, hL, Nat.mul_comm]
    rw [e1, show N / 18446744073709551616 = 0 by omega, show N % 18446744073709551616 = N by omega] at h
    exact h)
  have HLen := Lib.hid (show (repL m zs).length = N by rw [repL_len, hN])
  have HN := Lib.hid hN
  have HL := Lib.hid hL
  rw [← hL]
  rw [← hL] at h0
  clear hN hL h2
  go_enter Try.func45, Try.ntmps45
  go_wp2_with fail
  refine HM.out.mono ?_
  rintro e w' ⟨rfl, hw'⟩
  subst w'
  -- the first copy
  have hcp : ∀ w1 : World, Own 2 w1 w.heap.size w1.heap.size (.slice (some ⟨w.heap.size, 0, none⟩) N N) (pad N []) → Below w.heap.size w w1 →
      ∃ w2, (Builtin.copy_ #[34, 34] 3 #[.slice (some ⟨w.heap.size, 0, none⟩) N N, .slice (some ⟨p, off, none⟩) L c]).run Try.prog w1 = .ok (.int .i64 (L : Int)) w2 ∧ RepI w2 w.heap.size N L zs ∧ Below w.heap.size w w2 := by
    intro w1 own1 hb1
    obtain ⟨cur, bx, hcs⟩ := own_bx own1
    have hl1 : (zs.map (Value.int .i64)).length = L := by rw [List.length_map, HL.out]
    have hr := run_copy_row (P := Try.prog) w1 34 34 3 2 w.heap.size 0 N N ⟨p, off, none⟩ L c cur 2 (zs.map (Value.int .i64)) Try.underlying34 hinfo bx (by rw [hl1]; show L = min L N; omega)
      (fun j v hj => by
        have hj2 : j < zs.length := by have := (List.getElem?_eq_some_iff.1 hj).1; simpa using this
        rw [List.getElem?_map, List.getElem?_eq_getElem hj2] at hj
        simp only [Option.map_some, Option.some.injEq] at hj
        subst hj
        have := kept hb1 (hc j hj2)
        rw [nth_get hj2] at this
        have ea : (⟨p, off, none⟩ : Addr).add j = ⟨p, off + j, none⟩ := by
          by_cases h0 : j = 0
          · subst h0; rfl
          · simp [Addr.add, h0]
        rw [ea]; exact this) (by rw [hl1]; omega) (fun v hv => by simp at hv; obtain ⟨z, _, rfl⟩ := hv; rfl)
    rw [hl1] at hr
    have := RepI.copied (k := 0) (m := L) bx hcs (fun i hi => absurd hi (Nat.not_lt_zero i)) (by omega) (zs.map (Value.int .i64)) hl1 (fun j hj => by
      have hj2 : j < zs.length := by rw [← HL.out]; exact hj
      rw [List.getElem?_map, List.getElem?_eq_getElem hj2, Nat.zero_add, Nat.mod_eq_of_lt hj2, nth_get hj2]; rfl)
    simp only [Nat.zero_add] at hr this
    exact ⟨_, hr, this, below_setRowI hb1 (Nat.le_refl _)⟩
  have HC1 := Lib.hid hcp
  clear hcp
  have hNle : ¬ (9223372036854775807 : Int) < (N : Int) := by omega
  have hwN : IntKind.i64.wrap (N : Int) = (N : Int) := IntWalk.i64_in _ (by omega)
  go_wp2_with (at_make; refine wpList_makeI rfl _ _ 34 2 rfl Try.underlying34 info_i64r N rfl rfl (by omega) ?_; intro w1 own1 hb1; obtain ⟨w2, hr1, hrep, B1⟩ := HC1.out w1 own1 hb1)
  clear own1 hb1 HC1 hr1 hNle hwN
  have hsl1 : ∀ (k : Nat) W, k ≤ N → (Instr.slice 34 (.slice (some ⟨w.heap.size, 0, none⟩) N N) (some (.int .i64 (k : Int))) none none).run Try.prog W = .ok (Lib.tailV w.heap.size N k) W := fun k W hk => Lib.run_slice_tailV W 34 2 Try.underlying34 (fun _ => by kernel_rfl) _ N k hk
  have HS1 := Lib.hid hsl1
  clear hsl1
  have HRep := Lib.hid hrep
  clear hrep
  go_loopw [8] (fun b wr => ∃ k : Nat, k ≤ N ∧ 1 ≤ k ∧ b = .int .i64 k ∧ RepI wr w.heap.size N k zs ∧ Below w.heap.size w wr ∧ Hid (k % zs.length = 0 ∨ k = N)) (fun b _ => N - (intOf b).toNat)
  case atStart => exact ⟨L, by omega, h0, rfl, HRep.out, B1, Lib.hid (.inl (by rw [← HL.out, Nat.mod_self]))⟩
  case round =>
    clear B1
    obtain ⟨k, hk, hk1, rfl, hrep, hbel, HD⟩ := hrel
    by_cases hlt : k < N
    · obtain ⟨cur, bx0, hcs, hcc⟩ := hrep
      have bx := bx0.drew
      have hbd := hbel.drew
      clear bx0
      obtain ⟨q, hq⟩ : ∃ q, q = min (N - k) k := ⟨_, rfl⟩
      have hne : ¬ N = k := by omega
      have hdiv : k % zs.length = 0 := by rcases HD.out with h | h; exact h; omega
      have hper : ∀ j, nth zs ((k + j) % zs.length) = nth zs (j % zs.length) := fun j => by rw [Nat.add_mod, hdiv, Nat.zero_add, Nat.mod_mod]
      obtain ⟨news, hnews⟩ : ∃ news : List Value, news = (List.range q).map fun j => Value.int .i64 (nth zs (j % zs.length)) := ⟨_, rfl⟩
      have hnl : news.length = q := by rw [hnews]; simp
      have hnv : ∀ j, j < q → news[j]? = some (.int .i64 (nth zs (j % zs.length))) := fun j hj => by rw [hnews]; simp [hj]
      have hr2 := run_copy_row (P := Try.prog) wr.drew 34 34 3 2 w.heap.size k (N - k) (N - k) ⟨w.heap.size, 0, none⟩ k N cur 2 news Try.underlying34 hinfo bx (by rw [hnl, hq]; show _ = min k (N - k); omega)
        (fun j v hj => by
          have hj2 : j < q := by have := (List.getElem?_eq_some_iff.1 hj).1; omega
          rw [hnv j hj2] at hj
          injection hj with hj
          subst hj
          rw [show (⟨w.heap.size, 0, none⟩ : Addr).add j = ⟨w.heap.size, j, none⟩ by simp [Addr.add]; exact fun e => e.symm]
          exact bx.at_ j (hcc j (by omega))) (by rw [hnl]; omega) (fun v hv => by rw [hnews] at hv; simp at hv; obtain ⟨z, _, rfl⟩ := hv; rfl)
      rw [hnl] at hr2
      have R2 := RepI.copied (k := k) (m := q) (N := N) (zs := zs) bx hcs hcc (by omega) news hnl (fun j hj => by rw [hper j]; exact hnv j hj)
      have B2 := below_setRowI hbd (Nat.le_refl w.heap.size) (cs := (cur.toList.take k ++ news ++ cur.toList.drop (k + q)).toArray)
      obtain ⟨w3, hw3⟩ : ∃ w3, w3 = wr.drew.setRow w.heap.size (cur.toList.take k ++ news ++ cur.toList.drop (k + q)).toArray := ⟨_, rfl⟩
      rw [← hw3] at hr2 R2 B2
      have ht : Lib.tailV w.heap.size N k = .slice (some ⟨w.heap.size, k, none⟩) (N - k) (N - k) := by unfold Lib.tailV; rw [if_neg hne]
      replace hr2 : (Builtin.copy_ #[34, 34] 3 #[Lib.tailV w.heap.size N k, .slice (some ⟨w.heap.size, 0, none⟩) k N]).run Try.prog wr.drew = .ok (.int .i64 (q : Int)) w3 := by rw [ht]; exact hr2
      have HR2 := Lib.hid hr2
      have HRep2 := Lib.hid R2
      have hs1 : ∀ W, (Instr.slice 34 (.slice (some ⟨w.heap.size, 0, none⟩) N N) (some (.int .i64 (k : Int))) none none).run Try.prog W = .ok (Lib.tailV w.heap.size N k) W := fun W => HS1.out k W hk
      have hqk : 1 ≤ q ∧ k + q ≤ N := by omega
      have HNew := Lib.hid (show (k + q) % zs.length = 0 ∨ k + q = N by
        by_cases h3 : k ≤ N - k
        · left; rw [hq, show min (N - k) k = k by omega, Nat.add_mod, hdiv]; simp
        · right; omega)
      clear hr2 R2 hw3 bx hcs hcc hne ht hq hbel hbd hnews hnl hnv hper hdiv
      have hs2 : ∀ W, (Instr.slice 34 (.slice (some ⟨w.heap.size, 0, none⟩) N N) none (some (.int .i64 (k : Int))) none).run Try.prog W = .ok (.slice (some ⟨w.heap.size, 0, none⟩) k N) W := fun W => sliceI_head W 34 2 Try.underlying34 (fun _ => by kernel_rfl) _ N k (by omega) (by omega)
      have hr2 := HR2.out
      have hwk : IntKind.i64.wrap ((k : Int) + (q : Int)) = (k : Int) + (q : Int) := IntWalk.i64_in _ (by omega)
      clear HR2
      go_wp2
      refine wp_region_marked (fun _ => True) 9 (by kernel_rfl) ?_
      refine wpAnyM_take (i := 0) (v := ?_) rfl (by kernel_rfl) (by kernel_rfl) (by kernel_rfl) (by kernel_rfl) (by kernel_rfl) (fun _ _ _ h => h) trivial (.inl ⟨by rfl, ?_⟩) ?_
      rotate_left 1
      · intro w' hS'; go_simp; try with_reducible rfl
      simp only [Act.put, List.setIfInBounds_toArray]
      refine wpAnyM_take (i := 1) (v := ?_) rfl (by kernel_rfl) (by kernel_rfl) (by kernel_rfl) (by kernel_rfl) (by kernel_rfl) (fun _ _ _ h => h) trivial (.inl ⟨by rfl, ?_⟩) ?_
      rotate_left 1
      · intro w' hS'; go_simp; try with_reducible rfl
      simp only [Act.put]
      refine wpAnyM_take (i := 2) (v := ?_) rfl (by kernel_rfl) (by kernel_rfl) (by kernel_rfl) (by kernel_rfl) (by kernel_rfl) (fun _ _ _ h => h) trivial (.inl ⟨by rfl, ?_⟩) ?_
      rotate_left 1
      · intro w' hS'; go_simp; try with_reducible rfl
      simp only [Act.put]
      refine wpAnyM_take (i := 3) (v := ?_) rfl (by kernel_rfl) (by kernel_rfl) (by kernel_rfl) (by kernel_rfl) (by kernel_rfl) (fun _ _ _ h => h) trivial (.inl ⟨by rfl, ?_⟩) ?_
      rotate_left 1
      · intro w' hS'; go_simp; try with_reducible rfl
      simp only [Act.put]
      refine wpAnyM_take (i := 4) (v := ?_) rfl (by kernel_rfl) (by kernel_rfl) (by kernel_rfl) (by kernel_rfl) (by kernel_rfl) (fun _ _ _ h => h) trivial (.inl ⟨by rfl, ?_⟩) ?_
      rotate_left 1
      · intro w' hS'; go_simp; try with_reducible rfl
      simp only [Act.put]
      refine wpAnyM_take (i := 5) (v := ?_) rfl (by kernel_rfl) (by kernel_rfl) (by kernel_rfl) (by kernel_rfl) (by kernel_rfl) (fun _ _ _ h => h) trivial (.inl ⟨by rfl, ?_⟩) ?_
      rotate_left 1
      · intro w' hS'; go_simp; try with_reducible rfl
      simp only [Act.put]
      refine wpAnyM_take (i := 6) (v := ?_) rfl (by kernel_rfl) (by kernel_rfl) (by kernel_rfl) (by kernel_rfl) (by kernel_rfl) (fun _ _ _ h => h) trivial (.inl ⟨by rfl, ?_⟩) ?_
      rotate_left 1
      · intro w' hS'; go_simp; try with_reducible rfl
      simp only [Act.put]
      refine wpAnyM_one (i := 7) (by kernel_rfl) rfl (by rfl) (fun K hK => ?_)
      go_simp
      refine hK _ _ (.inr trivial) ?_
      try simp only [Act.put, List.setIfInBounds_toArray]
      clear hK K
      refine wpAnyM_take (i := 8) (v := ?_) rfl (by kernel_rfl) (by kernel_rfl) (by kernel_rfl) (by kernel_rfl) (by kernel_rfl) (fun _ _ _ h => h) trivial (.inl ⟨by rfl, ?_⟩) ?_
      rotate_left 1
      · intro w' hS'; go_simp; try with_reducible rfl
      simp only [Act.put, List.setIfInBounds_toArray]
      refine wpAnyM_one (i := 9) (by kernel_rfl) rfl (by rfl) (fun K hK => ?_)
      go_simp
      refine hK _ _ (.inl rfl) ?_
      clear hK K
      refine wpAnyM_done (by kernel_rfl) ?_ _
      clear hr2 hs1 hs2
      try rw [hwk]
      clear hwk
      go_wp2
      go_roundw
      case rel => exact ⟨k + q, by omega, by omega, by go_num, HRep2.out, B2, HNew⟩
      case measure => (simp [intOf]) <;> omega
    · obtain rfl : k = N := by omega
      go_wp2
      go_ret
      exact ⟨some ⟨w.heap.size, 0, none⟩, k, by rw [HLen.out]; rfl, by rw [HLen.out]; exact hrep.own HN.out (by omega) (Nat.le_refl _), hbel⟩
end Go.Proofs.Ytgfopieojpjddaa
