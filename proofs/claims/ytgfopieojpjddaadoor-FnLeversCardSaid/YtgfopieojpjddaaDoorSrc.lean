/-
  The source of numbers out of some bytes: l00From, next, pick. Only that it gives numbers in their limits.
-/
import Derived.Test.YtgfopieojpjddaaDoorInS
import Derived.Deep.Cut
import Derived.Laws.BitsLemmas
namespace Go.Proofs.YtgfopieojpjddaaDoor
open Go.RowKit

/-- The cells from this address on read as bytes. -/
structure RdU (w : World) (a : Option Addr) (zs : List Int) : Prop where
  len : zs.length ≤ 1000000000
  le : ∀ i, 0 ≤ nth zs i ∧ nth zs i ≤ 255
  cells : zs ≠ [] → ∃ b off, a = some ⟨b, off, none⟩ ∧ ∀ i, i < zs.length → w.cell? ⟨b, off + i, none⟩ = some (.int .u8 (nth zs i))
theorem RdU.at_ {w : World} {a : Option Addr} {zs : List Int} (h : RdU w a zs) {k : Nat} (hk : k < zs.length) :
    ∃ b off, a = some ⟨b, off, none⟩ ∧ w.cell? ⟨b, off + k, none⟩ = some (.int .u8 (nth zs k)) := by
  obtain ⟨b, off, rfl, hc⟩ := h.cells (by rintro rfl; simp at hk)
  exact ⟨b, off, rfl, hc k hk⟩
/-- What a source reads stays where it is, outside what is touched. -/
def Far (a : Option Addr) (g : Nat) : Prop := ∀ b off, a = some ⟨b, off, none⟩ → b < g
theorem RdU.lo {w w' : World} {a : Option Addr} {zs : List Int} {L : Nat} (h : RdU w a zs) (hb : Below L w w') (hf : Far a L) : RdU w' a zs := by
  refine ⟨h.len, h.le, fun hne => ?_⟩
  obtain ⟨b, off, rfl, hc⟩ := h.cells hne
  exact ⟨b, off, rfl, fun i hi => (hb.cell (p := ⟨b, off + i, none⟩) (hf b off rfl)).trans (hc i hi)⟩
theorem RdU.below {w w' : World} {a : Option Addr} {zs : List Int} (h : RdU w a zs) (hb : Below w.heap.size w w') : RdU w' a zs := by
  refine ⟨h.len, h.le, fun hne => ?_⟩
  obtain ⟨b, off, rfl, hc⟩ := h.cells hne
  exact ⟨b, off, rfl, fun i hi => (hb.cell (p := ⟨b, off + i, none⟩) (World.block_lt_of_cell? _ _ (hc i hi))).trans (hc i hi)⟩
theorem RdU.far {w : World} {a : Option Addr} {zs : List Int} (h : RdU w a zs) (hz : zs ≠ []) : Far a w.heap.size := by
  intro b off e
  obtain ⟨b', off', e', hc⟩ := h.cells hz
  rw [e] at e'
  injection e' with e'
  injection e' with e1 e2
  subst e1 e2
  have := hc 0 (List.length_pos_iff.2 hz)
  exact World.block_lt_of_cell? _ _ this

/-- Block g is a source that has given at most K numbers. -/
def Src (w : World) (g K : Nat) : Prop := ∃ a zs c k s, RdU w a zs ∧ (zs ≠ [] → Far a g) ∧ Bx w g 161 #[.slice a zs.length c, .int .i64 (k : Nat), .int .u64 s] ∧ k ≤ K
theorem Src.touch {w w' : World} {g K lo hi : Nat} (h : Src w g K) (ht : Touch lo hi w w') (hd : g < lo) : Src w' g K := by
  obtain ⟨a, zs, c, k, s, h1, h2, h3, h4⟩ := h
  refine ⟨a, zs, c, k, s, ⟨h1.len, h1.le, fun hne => ?_⟩, h2, h3.touch ht (.inl hd), h4⟩
  obtain ⟨b, off, rfl, hc⟩ := h1.cells hne
  have := h2 hne b off rfl
  exact ⟨b, off, rfl, fun i hi => keptT ht (hc i hi) (.inl (by omega))⟩
theorem Src.lo {w w' : World} {g K L : Nat} (h : Src w g K) (ht : Below L w w') (hd : g < L) : Src w' g K :=
  h.touch (lo := L) (hi := w'.heap.size + w.heap.size) ⟨ht.os, ht.tape, ht.output, ht.size, fun k _ ho => ht.block k (by omega)⟩ hd
theorem Src.lt {w : World} {g K : Nat} (h : Src w g K) : g < w.heap.size := by
  obtain ⟨_, _, _, _, _, _, _, h3, _⟩ := h
  exact h3.lt
theorem Src.mono {w : World} {g K M : Nat} (h : Src w g K) (hm : K ≤ M) : Src w g M := by
  obtain ⟨a, zs, c, k, s, h1, h2, h3, h4⟩ := h
  exact ⟨a, zs, c, k, s, h1, h2, h3, by omega⟩

theorem from_any (a : Option Addr) (zs : List Int) (c : Nat) (w : World) (h : RdU w a zs) :
    Calls Tryd.prog 84 #[.slice a zs.length c] w fun e w' => ∃ g, e = .returned (.pointer (some ⟨g, 0, none⟩)) ∧ w.heap.size ≤ g ∧ Src w' g 0 ∧ Below w.heap.size w w' := by
  go_enter Tryd.func84, Tryd.ntmps84
  go_wp2
  refine bodyPost_ret (v := .pointer (some ⟨w.heap.size, 0, none⟩)) (by simp [results, Tryd.results84, go_sem]) rfl ?_
  have hb : Below w.heap.size w (w.alloc (.cells #[.slice a zs.length c, .int .i64 0, .int .u64 0] 161)) := (by repeat (first | exact Below.refl _ _ | refine Below.setCell ?_ (by first | omega | (simp <;> omega)) _ | refine Below.alloc ?_ (by first | omega | (simp <;> omega)) _ | refine Below.drew ?_))
  exact ⟨_, rfl, Nat.le_refl _, ⟨a, zs, c, 0, 0, h.below hb, fun hz => h.far hz, Bx.new _ _ _, Nat.le_refl _⟩, hb⟩

theorem wrap_u64_small (n : Int) (h₀ : 0 ≤ n) (h₁ : n < 2 ^ 63) : IntKind.u64.wrap n = n := by rw [IntKind.wrap_u64]; omega
/-- The bits 40 .. 47 of a seed. -/
theorem seed_bits (s : Int) : ∃ z : Int, wrap64 (bits .and .u64 (IntKind.u64.wrap s / 1099511627776) 255) = z ∧ 0 ≤ z ∧ z ≤ 255 := by
  have h0 : 0 ≤ IntKind.u64.wrap s / 1099511627776 ∧ IntKind.u64.wrap s / 1099511627776 < 16777216 := by rw [IntKind.wrap_u64]; omega
  have h := bits_mask .u64 63 (by decide) wrap_u64_small 8 (by decide) (IntKind.u64.wrap s / 1099511627776) h0.1 (by omega)
  have e : ((2 : Int) ^ 8 - 1) = 255 := by decide
  have e2 : ((2 : Int) ^ 8) = 256 := by decide
  rw [e, e2] at h
  rw [h]
  refine ⟨_, rfl, ?_⟩
  have : wrap64 (IntKind.u64.wrap s / 1099511627776 % 256) = IntKind.u64.wrap s / 1099511627776 % 256 := by
    first
      | exact IntWalk.i64_in (IntKind.u64.wrap s / 1099511627776 % 256) (by omega)
      | exact (by unfold wrap64; omega)
  omega
theorem src_end {w : World} {g k K n m : Nat} {a : Option Addr} {zs : List Int} {c : Nat} {s t : Int} (h1 : RdU w a zs) (h2 : zs ≠ [] → Far a g) (h3 : Bx w g 161 #[.slice a zs.length c, .int .i64 (k : Nat), .int .u64 s]) (h4 : k ≤ K) :
    Src ((((w.drewN n).setCell ⟨g, 1, none⟩ (.int .i64 ((k : Int) + 1))).setCell ⟨g, 2, none⟩ (.int .u64 t)).drewN m) g (K + 1) ∧
    Touch g (g + 1) w ((((w.drewN n).setCell ⟨g, 1, none⟩ (.int .i64 ((k : Int) + 1))).setCell ⟨g, 2, none⟩ (.int .u64 t)).drewN m) := by
  have ht : Touch g (g + 1) w ((((w.drewN n).setCell ⟨g, 1, none⟩ (.int .i64 ((k : Int) + 1))).setCell ⟨g, 2, none⟩ (.int .u64 t)).drewN m) :=
    (((Touch.refl _ _ _).drewN n).setCell (by simp) (by simp) _).setCell (by simp) (by simp) _ |>.drewN m
  refine ⟨⟨a, zs, c, k + 1, t, ⟨h1.len, h1.le, fun hne => ?_⟩, h2, ?_, by omega⟩, ht⟩
  · obtain ⟨b, off, rfl, hc⟩ := h1.cells hne
    have := h2 hne b off rfl
    exact ⟨b, off, rfl, fun i hi => keptT ht (hc i hi) (.inl (by omega))⟩
  · simpa using (((h3.drewN n).set_ 1 (.int .i64 ((k : Int) + 1))).set_ 2 (.int .u64 t)).drewN m

theorem next_any (g K : Nat) (w : World) (h : Src w g K) (hK : K ≤ 1000000) :
    Calls Tryd.prog 154 #[.pointer (some ⟨g, 0, none⟩)] w fun e w' => ∃ z : Int, e = .returned (.int .i64 z) ∧ 0 ≤ z ∧ z ≤ 255 ∧ Src w' g (K + 1) ∧ Touch g (g + 1) w w' := by
  obtain ⟨a, zs, c, k, s, h1, h2, h3, h4⟩ := h
  have hlen := h1.len
  have hsz := h3.lt
  have c0 : w.cell? ⟨g, 0, none⟩ = some (.slice a zs.length c) := h3.at_ 0 rfl
  have c1 : w.cell? ⟨g, 1, none⟩ = some (.int .i64 (k : Nat)) := h3.at_ 1 rfl
  have c2 : w.cell? ⟨g, 2, none⟩ = some (.int .u64 s) := h3.at_ 2 rfl
  have f1 := h3.thaw 1
  have f2 := h3.thaw 2
  have v1 : IntKind.i64.wrap ((k : Int) + 1) = (k : Int) + 1 := IntWalk.i64_in _ (by omega)
  by_cases hlt : k < zs.length
  · obtain ⟨b, off, rfl, hc⟩ := h1.at_ hlt
    have hz := h1.le k
    have hlt' : ¬ zs.length < k + 1 := by omega
    go_enter Tryd.func154, Tryd.ntmps154
    go_wp2_with fail
    go_quiet (fail)
    go_wp2_with fail
    go_quiet (fail)
    go_wp2_with fail
    go_quiet (fail)
    go_wp2_with fail
    refine bodyPost_ret (v := .int .i64 (nth zs k)) (by simp [results, Tryd.results154, go_sem]) rfl ?_
    exact ⟨_, rfl, hz.1, hz.2, src_end h1 h2 h3 h4⟩
  · have hlt2 : ¬ k + 1 ≤ zs.length := by omega
    go_enter Tryd.func154, Tryd.ntmps154
    go_wp2_with fail
    go_quiet (fail)
    go_wp2_with fail
    go_quiet (fail)
    go_wp2_with fail
    obtain ⟨z, hz, z0, z1⟩ := seed_bits (IntKind.u64.wrap (IntKind.u64.wrap (s * 6364136223846793005)) + 1442695040888963407)
    rw [hz]
    refine bodyPost_ret (v := .int .i64 z) (by simp [results, Tryd.results154, go_sem]) rfl ?_
    exact ⟨_, rfl, z0, z1, src_end h1 h2 h3 h4⟩

theorem pick_any (g K : Nat) (n : Int) (w : World) (h : Src w g K) (hK : K ≤ 900000) (hn : n ≤ 10000) :
    Calls Tryd.prog 128 #[.pointer (some ⟨g, 0, none⟩), .int .i64 n] w fun e w' => ∃ z : Int, e = .returned (.int .i64 z) ∧ 0 ≤ z ∧ z ≤ max 0 (n - 1) ∧ Src w' g (K + 2) ∧ Touch g (g + 1) w w' := by
  by_cases h1 : n ≤ 1
  · go_enter Tryd.func128, Tryd.ntmps128
    go_wp2
    refine bodyPost_ret (v := .int .i64 0) (by simp [results, Tryd.results128, go_sem]) rfl ?_
    exact ⟨0, rfl, by omega, by omega, h.mono (by omega), Touch.refl _ _ _⟩
  · by_cases h2 : 200 < n
    · go_enter Tryd.func128, Tryd.ntmps128
      go_wp2_with fail
      refine (next_any g K w h (by omega)).mono ?_
      rintro e w1 ⟨x, rfl, x0, x1, hs1, ht1⟩
      have v1 : IntKind.i64.wrap (x * 256) = x * 256 := IntWalk.i64_in _ (by omega)
      go_wp2_with fail
      refine (next_any g (K + 1) w1 hs1 (by omega)).mono ?_
      rintro e w2 ⟨y, rfl, y0, y1, hs2, ht2⟩
      have v2 : IntKind.i64.wrap (x * 256 + y) = x * 256 + y := IntWalk.i64_in _ (by omega)
      go_wp2_with fail
      refine bodyPost_ret (v := .int .i64 ((x * 256 + y) % n)) (by simp [results, Tryd.results128, go_sem]) rfl ?_
      exact ⟨_, rfl, Int.emod_nonneg _ (by omega), by have := Int.emod_lt_of_pos (x * 256 + y) (b := n) (by omega); omega, hs2, ht1.trans ht2⟩
    · go_enter Tryd.func128, Tryd.ntmps128
      go_wp2_with fail
      refine (next_any g K w h (by omega)).mono ?_
      rintro e w1 ⟨x, rfl, x0, x1, hs1, ht1⟩
      go_wp2_with fail
      refine bodyPost_ret (v := .int .i64 (x % n)) (by simp [results, Tryd.results128, go_sem]) rfl ?_
      exact ⟨_, rfl, Int.emod_nonneg _ (by omega), by have := Int.emod_lt_of_pos x (b := n) (by omega); omega, hs1.mono (by omega), ht1⟩
end Go.Proofs.YtgfopieojpjddaaDoor
