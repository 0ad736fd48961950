/-
  slices.Chunk at []impl.Signal: its closure.
-/
import Derived.Test.YtmdngcoccekdgaaProg
import Derived.Test.YtmdngcoccekdgaaIterF
import Derived.Test.YtmdngcoccekdgaaSignalS
import Derived.Sort.QuietTacIn
namespace Go.Proofs.Ytmdngcoccekdgaa
open Go.RowKit Go.Shelf

attribute [local go_sem] Oper.semAt_some

/-- The first j pieces of n elements each, of a list of l: where each begins, how many it has. -/
def cks (n l : Nat) : Nat → List (Nat × Nat)
  | 0 => []
  | j + 1 => cks n l j ++ [(j * n, min n (l - j * n))]
theorem cks_len (n l : Nat) : ∀ j, (cks n l j).length = j
  | 0 => rfl
  | j + 1 => by simp [cks, cks_len n l j]
/-- What a round must keep: what lay below n₀, and two boxes. -/
def KeepC (n₀ Bs : Nat) (W W' : World) : Prop := KeepF n₀ Bs W W' ∧ KeepF n₀ (Bs + 1) W W'
theorem KeepC.refl (n₀ Bs : Nat) (W : World) : KeepC n₀ Bs W W := ⟨KeepF.refl _ _ _, KeepF.refl _ _ _⟩
theorem keepC_t {n₀ Bs : Nat} {A B C : World} (h : KeepC n₀ Bs A B) (k : KeepC n₀ Bs B C) : KeepC n₀ Bs A C := ⟨keepF_t h.1 k.1, keepF_t h.2 k.2⟩
theorem keepC_b {n₀ Bs : Nat} {w : World} (hn : n₀ ≤ w.heap.size) (hB : Bs + 1 < w.heap.size) (W : World) (l : Nat) (o o' : Obj) (hl : w.heap.size ≤ l) (h : W.heap[l]? = some o) (h1 : o.isCells = false) (h2 : o.isWalk = false) : KeepC n₀ Bs W (W.putObj l o') :=
  ⟨keepF_b hn (by omega) W l o o' hl h h1 h2, keepF_b hn hB W l o o' hl h h1 h2⟩
theorem KeepC.drewN_ {n₀ Bs : Nat} {W W' : World} (h : KeepC n₀ Bs W W') (k : Nat) : KeepC n₀ Bs W (W'.drewN k) :=
  ⟨⟨h.1.1.trans (bel_drewN (Below.refl _ _) k), by rw [← h.1.2]; rfl⟩, ⟨h.2.1.trans (bel_drewN (Below.refl _ _) k), by rw [← h.2.2]; rfl⟩⟩

set_option maxRecDepth 100000 in
set_option maxHeartbeats 2000000 in
theorem chunk1_in (Fe : Fence) (n : Nat) (hF : Fe.fn 133) (hro : Fe.round = none) (hn : 1 ≤ n) (l Bs n₀ b off cap m len : Nat) (hm : 1 ≤ m) (hm2 : m ≤ 16) (hl : len ≤ 1000000) (hc : len ≤ cap)
    (J Jx : List (Nat × Nat) → World → Prop) (B : Nat) (hJ : AbidesFrom B J)
    (hY : ∀ (pre : List (Nat × Nat)) (x : Nat × Nat) (W : World), J pre W → pre.length < len → YieldAt Fe (n - 1) Try.prog l #[.slice (some ⟨b, off + x.1 * 2, none⟩) x.2 x.2] W fun e W' =>
      (e = .returned (.bool true) ∧ J (pre ++ [x]) W' ∧ KeepC n₀ Bs W W') ∨ (e = .returned (.bool false) ∧ Jx (pre ++ [x]) W'))
    (W : World) (hBs : W.cell? ⟨Bs, 0, none⟩ = some (.slice (some ⟨b, off, none⟩) len cap)) (hBn : W.cell? ⟨Bs + 1, 0, none⟩ = some (.int .i64 m)) (h0 : J [] W) :
    CallsIn Fe n Try.prog 133 #[.func (.yield l) #[] #[], .pointer (some ⟨Bs, 0, none⟩), .pointer (some ⟨Bs + 1, 0, none⟩)] W fun e W' => (∃ v, e = .returned v) ∧
      ((∃ ys, (∃ k, len ≤ k * m ∧ (∀ j, j < k → j * m < len) ∧ ys = cks m len k) ∧ J ys W') ∨ (∃ pre, (∃ k, pre = cks m len k) ∧ Jx pre W')) := by
  refine callsIn_of_wp Try.func133 rfl hF ?_ hro
  simp only [Try.ntmps133, List.size_toArray, List.length_cons, List.length_nil, Nat.reduceAdd, Nat.reduceSub, Array.replicate_succ, Array.replicate_zero, List.push_toArray, List.append_toArray, List.nil_append, List.cons_append]
  gi_wp2
  gi_loopw [4] (fun i wr => ∃ k s : Nat, Hid (s = k * m) ∧ Hid (∀ j, j < k → j * m < len) ∧ i = .int .i64 (s : Nat) ∧ J (cks m len k) wr ∧ KeepC n₀ Bs W wr) (fun i _ => (len + m - (intOf i).toNat))
  case atStart => exact ⟨0, 0, Lib.hid (by simp), Lib.hid (fun j hj => by omega), rfl, h0, KeepC.refl _ _ _⟩
  case round =>
    obtain ⟨k, s, HK, HJ, rfl, hJs, hnx⟩ := hrel
    have hBr := hnx.1.cell hBs
    have hBm := hnx.2.cell hBn
    by_cases hlt : s < len
    · have hd : ∀ q, J (cks m len k) (wr.drewN q) := fun q => hJ _ _ _ none hJs ⟨rfl, rfl, rfl, Nat.le_refl _, fun _ _ _ => rfl⟩ (fun r e => by cases e)
      have HD := Lib.hid hd
      have hsc : s < cap := by omega
      have hne : ¬ cap = s := by omega
      have hle : s ≤ len := by omega
      have HJ' := Lib.hid (show ∀ j, j < k + 1 → j * m < len from fun j hj => by
        by_cases h : j < k
        · exact HJ.out j h
        · obtain rfl : j = k := by omega
          rw [← HK.out]; exact hlt)
      clear hd hJs
      by_cases hml : m ≤ len - s
      · have HE := Lib.hid (show min m (len - s) = m by omega)
        have hv : ((s : Int) + ((m : Nat) : Int)).toNat - s = m := by omega
        have hv2 : (s : Int) + ((m : Nat) : Int) ≤ (len : Int) := by omega
        gi_wp2
        refine wpIn_region_quiet_lit hro (by kernel_rfl) (by kernel_rfl) ?_
        repeat (quiet_step_in (fail))
        refine wpQuietIn_nil ?_
        rintro _ ⟨nq, rfl⟩
        obtain ⟨fn, tmps, assign, body, hy, hYR⟩ := hY _ (s, m) (wr.drewN nq) (HD.out nq) (by rw [cks_len]; have := HK.out; have := Nat.le_mul_of_pos_right k hm; omega)
        dsimp only at hy hYR
        gi_wp2
        refine hYR.mono ?_
        rintro e W3 (⟨rfl, hJ3, hk3⟩ | ⟨rfl, hJx3⟩)
        · have hkk := keepC_t (hnx.drewN_ nq) hk3
          have hB3 := hkk.2.cell hBn
          gi_wp2
          go_roundw
          case rel => exact ⟨k + 1, s + m, Lib.hid (by rw [HK.out, Nat.succ_mul]), HJ', by go_num, by rw [cks, ← HK.out, HE.out]; exact hJ3, hkk⟩
          case measure => (simp [intOf]) <;> omega
        · gi_wp2
          refine bodyPost_ret (results_none rfl _ _ _) rfl ?_
          exact ⟨⟨_, rfl⟩, .inr ⟨_, ⟨k + 1, by rw [cks, ← HK.out, HE.out]⟩, hJx3⟩⟩
      · replace hml : len - s < m := by omega
        have HE := Lib.hid (show min m (len - s) = (len - s) by omega)
        have hv : ((s : Int) + (((len - s) : Nat) : Int)).toNat - s = (len - s) := by omega
        have hv2 : (s : Int) + (((len - s) : Nat) : Int) ≤ (len : Int) := by omega
        gi_wp2
        refine wpIn_region_quiet_lit hro (by kernel_rfl) (by kernel_rfl) ?_
        repeat (quiet_step_in (fail))
        refine wpQuietIn_nil ?_
        rintro _ ⟨nq, rfl⟩
        obtain ⟨fn, tmps, assign, body, hy, hYR⟩ := hY _ (s, (len - s)) (wr.drewN nq) (HD.out nq) (by rw [cks_len]; have := HK.out; have := Nat.le_mul_of_pos_right k hm; omega)
        dsimp only at hy hYR
        gi_wp2
        refine hYR.mono ?_
        rintro e W3 (⟨rfl, hJ3, hk3⟩ | ⟨rfl, hJx3⟩)
        · have hkk := keepC_t (hnx.drewN_ nq) hk3
          have hB3 := hkk.2.cell hBn
          gi_wp2
          go_roundw
          case rel => exact ⟨k + 1, s + m, Lib.hid (by rw [HK.out, Nat.succ_mul]), HJ', by go_num, by rw [cks, ← HK.out, HE.out]; exact hJ3, hkk⟩
          case measure => (simp [intOf]) <;> omega
        · gi_wp2
          refine bodyPost_ret (results_none rfl _ _ _) rfl ?_
          exact ⟨⟨_, rfl⟩, .inr ⟨_, ⟨k + 1, by rw [cks, ← HK.out, HE.out]⟩, hJx3⟩⟩
    · gi_wp2
      go_end0
      exact ⟨⟨_, rfl⟩, .inl ⟨_, ⟨k, by rw [← HK.out]; omega, HJ.out, rfl⟩, hJs⟩⟩

set_option maxHeartbeats 1000000 in
theorem chunk_in (Fe : Fence) (n : Nat) (hF : Fe.fn 123) (hro : Fe.round = none) (a : Option Addr) (len cap m : Nat) (hm : 1 ≤ m) (w : World) :
    CallsIn Fe n Try.prog 123 #[.slice a len cap, .int .i64 m] w fun e w' => e = .returned (.func (.func 133) #[] #[.pointer (some ⟨w.heap.size, 0, none⟩), .pointer (some ⟨w.heap.size + 1, 0, none⟩)]) ∧ w' = (w.alloc (.cells #[.slice a len cap] 73)).alloc (.cells #[.int .i64 m] 3) := by
  have hm' : ¬ m < 1 := by omega
  refine callsIn_of_wp Try.func123 rfl hF ?_ hro
  simp only [Try.ntmps123, List.size_toArray, List.length_cons, List.length_nil, Nat.reduceAdd, Nat.reduceSub, Array.replicate_succ, Array.replicate_zero, List.push_toArray, List.append_toArray, List.nil_append, List.cons_append]
  gi_wp2
  go_ret
  exact ⟨rfl, rfl⟩

theorem chunk_stops (Fe : Fence) (n : Nat) (hF : Fe.fn 133) (hro : Fe.round = none) (hn : 1 ≤ n) (Bs n₀ b off cap m len : Nat) (hm : 1 ≤ m) (hm2 : m ≤ 16) (hl : len ≤ 1000000) (hc : len ≤ cap) (w : World) (hBs : Bs + 1 < w.heap.size)
    (hc1 : w.cell? ⟨Bs, 0, none⟩ = some (.slice (some ⟨b, off, none⟩) len cap)) (hc2 : w.cell? ⟨Bs + 1, 0, none⟩ = some (.int .i64 m)) :
    SeqStopsK Fe n Try.prog 133 #[.pointer (some ⟨Bs, 0, none⟩), .pointer (some ⟨Bs + 1, 0, none⟩)] (fun x : Nat × Nat => #[.slice (some ⟨b, off + x.1 * 2, none⟩) x.2 x.2]) (KeepC n₀ Bs)
      (fun ys => ∃ k, len ≤ k * m ∧ (∀ j, j < k → j * m < len) ∧ ys = cks m len k) (fun pre => ∃ k, pre = cks m len k) len w := fun l J Jx W hW hJ _ hY h0 =>
  chunk1_in Fe n hF hro hn l Bs n₀ b off cap m len hm hm2 hl hc J Jx _ hJ hY W ((hW.cell (p := ⟨Bs, 0, none⟩) (by show Bs < _; omega)).trans hc1) ((hW.cell (p := ⟨Bs + 1, 0, none⟩) hBs).trans hc2) h0
end Go.Proofs.Ytmdngcoccekdgaa
