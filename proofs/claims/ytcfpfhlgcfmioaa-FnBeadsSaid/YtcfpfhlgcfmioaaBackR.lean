/-
  slices.Backward at []impl.Rod: its closure.
-/
import Derived.Test.YtcfpfhlgcfmioaaProg
import Derived.Test.YtcfpfhlgcfmioaaIterF
namespace Go.Proofs.Ytcfpfhlgcfmioaa
open Go.RowKit Go.Shelf

attribute [local go_sem] Oper.semAt_some

set_option maxRecDepth 100000 in
set_option maxHeartbeats 2000000 in
theorem backR1_in {p : Int × Int → Prop} (Fe : Fence) (n : Nat) (hF : Fe.fn 133) (hro : Fe.round = none) (hn : 1 ≤ n) (l Bs n₀ : Nat) (a : Option Addr) (cap : Nat) (zs : List (Int × Int)) (hp : ∀ d ∈ zs, p d)
    (J Jx : List (EntF p) → World → Prop)
    (hY : ∀ (pre : List (EntF p)) (x : EntF p) (W : World), J pre W → pre.length < zs.length → YieldAt Fe (n - 1) Try.prog l #[.int .i64 (x.1 : Int), .agg #[.int .i64 x.2.1.1, .int .i64 x.2.1.2]] W fun e W' =>
      (e = .returned (.bool true) ∧ J (pre ++ [x]) W' ∧ KeepF n₀ Bs W W') ∨ (e = .returned (.bool false) ∧ Jx (pre ++ [x]) W'))
    (W : World) (hBs : W.cell? ⟨Bs, 0, none⟩ = some (.slice a zs.length cap)) (hR : RdF pairF W a zs) (hRn : zs ≠ [] → ∀ b off, a = some ⟨b, off, none⟩ → b < n₀) (h0 : J [] W) :
    CallsIn Fe n Try.prog 133 #[.func (.yield l) #[] #[], .pointer (some ⟨Bs, 0, none⟩)] W fun e W' => (∃ v, e = .returned v) ∧
      ((∃ ys, ys = bwdF zs hp zs.length ∧ J ys W') ∨ (∃ pre, (∃ k, k ≤ zs.length ∧ pre = bwdF zs hp k) ∧ Jx pre W')) := by
  have hlen := hR.len
  refine callsIn_of_wp Try.func133 rfl hF ?_ hro
  simp only [Try.ntmps133, List.size_toArray, List.length_cons, List.length_nil, Nat.reduceAdd, Nat.reduceSub, Array.replicate_succ, Array.replicate_zero, List.push_toArray, List.append_toArray, List.nil_append, List.cons_append]
  gi_wp2
  gi_loopw [3] (fun i wr => ∃ (j k : Nat), k + j = zs.length ∧ i = .int .i64 ((j : Int) - 1) ∧ J (bwdF zs hp k) wr ∧ KeepF n₀ Bs W wr) (fun i _ => (intOf i + 1).toNat)
  case atStart => exact ⟨zs.length, 0, by omega, by go_num, h0, KeepF.refl _ _ _⟩
  case round =>
    obtain ⟨j, k, hk, hi, hJs, hnx⟩ := hrel
    subst hi
    have hBr := hnx.cell hBs
    cases j with
    | zero =>
      have hkl : k = zs.length := by omega
      gi_wp2
      go_end0
      exact ⟨⟨_, rfl⟩, .inl ⟨_, rfl, by rw [← hkl]; exact hJs⟩⟩
    | succ j =>
      rw [show ((j + 1 : Nat) : Int) - 1 = (j : Int) from by omega]
      have hjl : j < zs.length := by omega
      obtain ⟨q, off, rfl, hc0, hc1⟩ := hR.at2 hjl
      have hq : q < n₀ := hRn (by rintro rfl; simp at hjl) q off rfl
      have hr0 := (hnx.1.cell (p := ⟨q, off + j * 2, none⟩) hq).trans hc0
      have hr1 := (hnx.1.cell (p := ⟨q, off + j * 2 + 1, none⟩) hq).trans hc1
      have hpj : p (elt pairF zs j) := hp _ (elt_mem hjl)
      obtain ⟨fn, tmps, assign, body, hy, hYR⟩ := hY _ (j, ⟨elt pairF zs j, hpj⟩) wr hJs (by rw [bwdF_len (by omega)]; omega)
      dsimp only at hy
      have HK := Lib.hid hk
      clear hk
      gi_wp2
      refine hYR.mono ?_
      rintro e W3 (⟨rfl, hJ3, hk3⟩ | ⟨rfl, hJx3⟩)
      · gi_wp2
        go_roundw
        case rel => exact ⟨j, k + 1, by have := HK.out; omega, by go_num, by rw [bwdF_step (F := pairF) HK.out hpj]; exact hJ3, keepF_t hnx hk3⟩
        case measure => (simp [intOf]) <;> omega
      · gi_wp2
        refine bodyPost_ret (results_none rfl _ _ _) rfl ?_
        exact ⟨⟨_, rfl⟩, .inr ⟨_, ⟨k + 1, by have := HK.out; omega, (bwdF_step (F := pairF) HK.out hpj).symm⟩, hJx3⟩⟩

set_option maxHeartbeats 1000000 in
theorem backR_in (Fe : Fence) (n : Nat) (hF : Fe.fn 91) (hro : Fe.round = none) (a : Option Addr) (len cap : Nat) (w : World) :
    CallsIn Fe n Try.prog 91 #[.slice a len cap] w fun e w' => e = .returned (.func (.func 133) #[] #[.pointer (some ⟨w.heap.size, 0, none⟩)]) ∧ w' = w.alloc (.cells #[.slice a len cap] 24) := by
  refine callsIn_of_wp Try.func91 rfl hF ?_ hro
  simp only [Try.ntmps91, List.size_toArray, List.length_cons, List.length_nil, Nat.reduceAdd, Nat.reduceSub, Array.replicate_succ, Array.replicate_zero, List.push_toArray, List.append_toArray, List.nil_append, List.cons_append]
  gi_wp2
  go_ret
  exact ⟨rfl, rfl⟩

theorem backR_stops {p : Int × Int → Prop} (Fe : Fence) (n : Nat) (hF : Fe.fn 133) (hro : Fe.round = none) (hn : 1 ≤ n) (Bs n₀ : Nat) (a : Option Addr) (cap : Nat) (zs : List (Int × Int)) (hp : ∀ d ∈ zs, p d) (w : World) (hBs : Bs < w.heap.size)
    (hc : w.cell? ⟨Bs, 0, none⟩ = some (.slice a zs.length cap)) (hR : RdF pairF w a zs) (hRn : zs ≠ [] → ∀ b off, a = some ⟨b, off, none⟩ → b < n₀) :
    SeqStopsK Fe n Try.prog 133 #[.pointer (some ⟨Bs, 0, none⟩)] (fun x : EntF p => #[Value.int .i64 (x.1 : Int), .agg #[.int .i64 x.2.1.1, .int .i64 x.2.1.2]]) (KeepF n₀ Bs) (fun ys => ys = bwdF zs hp zs.length)
      (fun pre => ∃ k, k ≤ zs.length ∧ pre = bwdF zs hp k) zs.length w := fun l J Jx W hW _ _ hY h0 =>
  backR1_in Fe n hF hro hn l Bs n₀ a cap zs hp J Jx hY W ((hW.cell (p := ⟨Bs, 0, none⟩) hBs).trans hc) (hR.below hW) hRn h0
end Go.Proofs.Ytcfpfhlgcfmioaa
