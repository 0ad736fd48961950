/-
  slices.Backward at []int64, where the block of the numbers is named: its closure.
-/
import Derived.Test.YtcfpfhlgcfmioaaProg
import Derived.Test.YtcfpfhlgcfmioaaIter
namespace Go.Proofs.Ytcfpfhlgcfmioaa
open Go.RowKit Go.Shelf

attribute [local go_sem] Oper.semAt_some

/-- A number with its index, of which q is known. -/
abbrev EntQ (q : Nat → Int → Prop) := { x : Nat × Int // q x.1 x.2 }
/-- The first k entries from the end of zs on. -/
def bq {q : Nat → Int → Prop} (zs : List Int) (h : ∀ j, j < zs.length → q j (nth zs j)) : Nat → List (EntQ q)
  | 0 => []
  | k + 1 => if hk : k < zs.length then bq zs h k ++ [⟨(zs.length - 1 - k, nth zs (zs.length - 1 - k)), h _ (by omega)⟩] else bq zs h k
theorem bq_step {q : Nat → Int → Prop} {zs : List Int} {h : ∀ j, j < zs.length → q j (nth zs j)} {k j : Nat} (hj : k + (j + 1) = zs.length) : bq zs h (k + 1) = bq zs h k ++ [⟨(j, nth zs j), h j (by omega)⟩] := by
  have e : zs.length - 1 - k = j := by omega
  rw [bq, dif_pos (by omega : k < zs.length)]
  congr 2
  subst e
  rfl
theorem bq_len {q : Nat → Int → Prop} {zs : List Int} {h : ∀ j, j < zs.length → q j (nth zs j)} : ∀ {k : Nat}, k ≤ zs.length → (bq zs h k).length = k
  | 0, _ => rfl
  | k + 1, hk => by rw [bq, dif_pos (by omega : k < zs.length), List.length_append, bq_len (by omega)]; rfl
/-- What a round must keep: what lay below n₀, the box of the slice that is ranged over, the block of its numbers. -/
def KeepD (n₀ Bs Ds : Nat) (W W' : World) : Prop := Below n₀ W W' ∧ W'.heap[Bs]? = W.heap[Bs]? ∧ W'.heap[Ds]? = W.heap[Ds]?
theorem KeepD.refl (n₀ Bs Ds : Nat) (W : World) : KeepD n₀ Bs Ds W W := ⟨Below.refl _ _, rfl, rfl⟩
theorem keepD_t {n₀ Bs Ds : Nat} {A B C : World} (h : KeepD n₀ Bs Ds A B) (k : KeepD n₀ Bs Ds B C) : KeepD n₀ Bs Ds A C := ⟨h.1.trans k.1, k.2.1.trans h.2.1, k.2.2.trans h.2.2⟩
theorem keepD_b {n₀ Bs Ds : Nat} {w : World} (hn : n₀ ≤ w.heap.size) (hB : Bs < w.heap.size) (hD : Ds < w.heap.size) (W : World) (l : Nat) (o o' : Obj) (hl : w.heap.size ≤ l) (h : W.heap[l]? = some o) (_ : o.isCells = false) (_ : o.isWalk = false) : KeepD n₀ Bs Ds W (W.putObj l o') :=
  ⟨belowK_b hn W l o o' hl h ‹_› ‹_›, (grownBy_putObj' W l o').block Bs (by have := (Array.getElem?_eq_some_iff.1 h).1; omega) (by intro e; cases e; omega), (grownBy_putObj' W l o').block Ds (by have := (Array.getElem?_eq_some_iff.1 h).1; omega) (by intro e; cases e; omega)⟩

set_option maxRecDepth 100000 in
set_option maxHeartbeats 2000000 in
theorem backQ1_in {q : Nat → Int → Prop} (F : Fence) (n : Nat) (hF : F.fn 120) (hro : F.round = none) (hn : 1 ≤ n) (l Bs Ds off n₀ : Nat) (cap : Nat) (zs : List Int) (hp : ∀ j, j < zs.length → q j (nth zs j))
    (J Jx : List (EntQ q) → World → Prop)
    (hY : ∀ pre x W, J pre W → pre.length < zs.length → YieldAt F (n - 1) Try.prog l #[.int .i64 (x.1.1 : Int), .int .i64 x.1.2] W fun e W' =>
      (e = .returned (.bool true) ∧ J (pre ++ [x]) W' ∧ KeepD n₀ Bs Ds W W') ∨ (e = .returned (.bool false) ∧ Jx (pre ++ [x]) W'))
    (W : World) (hBs : W.cell? ⟨Bs, 0, none⟩ = some (.slice (some ⟨Ds, off, none⟩) zs.length cap)) (hR : Rd W (some ⟨Ds, off, none⟩) zs) (h0 : J [] W) :
    CallsIn F n Try.prog 120 #[.func (.yield l) #[] #[], .pointer (some ⟨Bs, 0, none⟩)] W fun e W' => (∃ v, e = .returned v) ∧
      ((∃ ys, ys = bq zs hp zs.length ∧ J ys W') ∨ (∃ pre, (∃ k, k ≤ zs.length ∧ pre = bq zs hp k) ∧ Jx pre W')) := by
  have hlen := hR.len
  refine callsIn_of_wp Try.func120 rfl hF ?_ hro
  simp only [Try.ntmps120, List.size_toArray, List.length_cons, List.length_nil, Nat.reduceAdd, Nat.reduceSub, Array.replicate_succ, Array.replicate_zero, List.push_toArray, List.append_toArray, List.nil_append, List.cons_append]
  gi_wp2
  gi_loopw [3] (fun i wr => ∃ (j k : Nat), k + j = zs.length ∧ i = .int .i64 ((j : Int) - 1) ∧ J (bq zs hp k) wr ∧ KeepD n₀ Bs Ds W wr) (fun i _ => (intOf i + 1).toNat)
  case atStart => exact ⟨zs.length, 0, by omega, by go_num, h0, KeepD.refl _ _ _ _⟩
  case round =>
    obtain ⟨j, k, hk, hi, hJs, hnx⟩ := hrel
    subst hi
    have hBr := (World.cell?_of_block hnx.2.1).trans hBs
    cases j with
    | zero =>
      have hkl : k = zs.length := by omega
      gi_wp2
      go_end0
      exact ⟨⟨_, rfl⟩, .inl ⟨_, rfl, by rw [← hkl]; exact hJs⟩⟩
    | succ j =>
      rw [show ((j + 1 : Nat) : Int) - 1 = (j : Int) from by omega]
      have hjl : j < zs.length := by omega
      obtain ⟨q', off', he, hc⟩ := hR.at_ hjl
      injection he with he
      injection he with he1 he2 _
      subst he1 he2
      have hcr := (World.cell?_of_block hnx.2.2).trans hc
      obtain ⟨fn, tmps, assign, body, hy, hYR⟩ := hY _ ⟨(j, nth zs j), hp j hjl⟩ wr hJs (by rw [bq_len (by omega)]; omega)
      dsimp only at hy
      have HK := Lib.hid hk
      clear hk
      gi_wp2
      refine hYR.mono ?_
      rintro e W3 (⟨rfl, hJ3, hk3⟩ | ⟨rfl, hJx3⟩)
      · gi_wp2
        go_roundw
        case rel => exact ⟨j, k + 1, by have := HK.out; omega, by go_num, by rw [bq_step HK.out]; exact hJ3, keepD_t hnx hk3⟩
        case measure => (simp [intOf]) <;> omega
      · gi_wp2
        refine bodyPost_ret (results_none rfl _ _ _) rfl ?_
        exact ⟨⟨_, rfl⟩, .inr ⟨_, ⟨k + 1, by have := HK.out; omega, (bq_step HK.out).symm⟩, hJx3⟩⟩

set_option maxHeartbeats 1000000 in
theorem backQ_in (F : Fence) (n : Nat) (hF : F.fn 73) (hro : F.round = none) (a : Option Addr) (len cap : Nat) (w : World) :
    CallsIn F n Try.prog 73 #[.slice a len cap] w fun e w' => e = .returned (.func (.func 120) #[] #[.pointer (some ⟨w.heap.size, 0, none⟩)]) ∧ w' = w.alloc (.cells #[.slice a len cap] 57) := by
  refine callsIn_of_wp Try.func73 rfl hF ?_ hro
  simp only [Try.ntmps73, List.size_toArray, List.length_cons, List.length_nil, Nat.reduceAdd, Nat.reduceSub, Array.replicate_succ, Array.replicate_zero, List.push_toArray, List.append_toArray, List.nil_append, List.cons_append]
  gi_wp2
  go_ret
  exact ⟨rfl, rfl⟩

theorem backQ_stops {q : Nat → Int → Prop} (F : Fence) (n : Nat) (hF : F.fn 120) (hro : F.round = none) (hn : 1 ≤ n) (Bs Ds off n₀ : Nat) (cap : Nat) (zs : List Int) (hp : ∀ j, j < zs.length → q j (nth zs j)) (w : World) (hBs : Bs < w.heap.size)
    (hc : w.cell? ⟨Bs, 0, none⟩ = some (.slice (some ⟨Ds, off, none⟩) zs.length cap)) (hR : Rd w (some ⟨Ds, off, none⟩) zs) :
    SeqStopsK F n Try.prog 120 #[.pointer (some ⟨Bs, 0, none⟩)] (fun x : EntQ q => #[Value.int .i64 (x.1.1 : Int), Value.int .i64 x.1.2]) (KeepD n₀ Bs Ds) (fun ys => ys = bq zs hp zs.length)
      (fun pre => ∃ k, k ≤ zs.length ∧ pre = bq zs hp k) zs.length w := fun l J Jx W hW _ _ hY h0 =>
  backQ1_in F n hF hro hn l Bs Ds off n₀ cap zs hp J Jx hY W ((hW.cell (p := ⟨Bs, 0, none⟩) hBs).trans hc) (hR.below hW) h0
end Go.Proofs.Ytcfpfhlgcfmioaa
