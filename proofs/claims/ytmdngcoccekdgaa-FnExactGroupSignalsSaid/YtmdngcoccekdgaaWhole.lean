/-
  The whole signal of a group of digits.
-/
import Derived.Test.YtmdngcoccekdgaaOnceG
namespace Go.Proofs.Ytmdngcoccekdgaa
open Go.RowKit

theorem Touch.far {g : Nat} {a w : World} (h : Touch g (g + 1) a w) {p : Addr} (hp : a.heap.size ≤ p.block) (u : Value) : Touch g (g + 1) a (w.setCell p u) :=
  ⟨h.os, h.tape, h.output, by rw [World.size_setCell]; exact h.size, fun k hk ho => (Below.heap_setCell _ _ _ _ (by omega)).trans (h.block k hk ho)⟩

set_option maxRecDepth 100000 in
set_option maxHeartbeats 4000000 in
theorem whole_first (g : Nat) (a : Option Addr) (c : Nat) (xs : List (Bool × Bool)) (z3 z5 z6 : Value) (w : World)
    (bx : Bx w g 179 #[.slice a xs.length c, .int .u32 0, .int .i32 0, z3, .slice none 0 0, z5, z6]) (ha : RdF sigF w a xs) (hag : ∀ b off, a = some ⟨b, off, none⟩ → b ≠ g) (hl : xs.length ≤ 1000000) :
    Calls Try.prog 97 #[.pointer (some ⟨g, 0, none⟩)] w fun e w' => e = .returned (.agg #[.bool (scn xs xs.length).1, .bool (scn xs xs.length).2]) ∧ Touch g (g + 1) w w' := by
  have hg := bx.lt
  obtain ⟨B, hB⟩ : ∃ B, B = w.heap.size := ⟨_, rfl⟩
  obtain ⟨v, hv⟩ : ∃ v, v = w.alloc (.cells #[.bool false, .bool false] 122) := ⟨_, rfl⟩
  have bB : Bx v B 122 #[.bool false, .bool false] := by rw [hv, hB]; exact Bx.new _ _ _
  have hb1 : Below w.heap.size w v := by rw [hv]; exact (by repeat (first | exact Below.refl _ _ | refine Below.setCell ?_ (by first | omega | (simp <;> omega)) _ | refine Below.alloc ?_ (by first | omega | (simp <;> omega)) _ | refine Below.drew ?_))
  have bv := bx.below hb1
  have av := ha.below hb1
  have HB := Lib.hid hB
  have HV := Lib.hid hv
  clear hB hv bx ha
  go_enter Try.func97, Try.ntmps97
  go_upto_region 1 with fail
  rw [← HV.out, ← HB.out]
  refine wp_region_marked (fun w' => w'.cell? ⟨g, 0, none⟩ = some (.slice a xs.length c)) 9 (by kernel_rfl) ?_
  have hS : v.drew.cell? ⟨g, 0, none⟩ = some (.slice a xs.length c) := bv.at_ 0 rfl
  refine wpAnyM_takeC (i := 0) (v := ?_) 20 rfl (by kernel_rfl) (by kernel_rfl) (by kernel_rfl) (by kernel_rfl) (by kernel_rfl) (by kernel_rfl) (fun _ _ _ h => h) hS (.inl ⟨by rfl, ?_⟩) ?_
  rotate_left 1
  · intro w' hS'; go_simp; try with_reducible rfl
  simp only [Act.put, List.setIfInBounds_toArray]
  refine wpAnyM_takeC (i := 2) (v := ?_) 20 rfl (by kernel_rfl) (by kernel_rfl) (by kernel_rfl) (by kernel_rfl) (by kernel_rfl) (by kernel_rfl) (fun _ _ _ h => h) hS (.inl ⟨by rfl, ?_⟩) ?_
  rotate_left 1
  · intro w' hS'; go_simp; try with_reducible rfl
  simp only [Act.put]
  refine wpAnyM_takeC (i := 3) (v := ?_) 20 rfl (by kernel_rfl) (by kernel_rfl) (by kernel_rfl) (by kernel_rfl) (by kernel_rfl) (by kernel_rfl) (fun _ _ _ h => h) hS (.inl ⟨by rfl, ?_⟩) ?_
  rotate_left 1
  · intro w' hS'; go_simp; try with_reducible rfl
  simp only [Act.put]
  refine wpAnyM_takeC (i := 4) (v := ?_) 20 rfl (by kernel_rfl) (by kernel_rfl) (by kernel_rfl) (by kernel_rfl) (by kernel_rfl) (by kernel_rfl) (fun _ _ _ h => h) hS (.inl ⟨by rfl, ?_⟩) ?_
  rotate_left 1
  · intro w' hS'; go_simp; try with_reducible rfl
  simp only [Act.put]
  refine wpAnyM_takeC (i := 5) (v := ?_) 20 rfl (by kernel_rfl) (by kernel_rfl) (by kernel_rfl) (by kernel_rfl) (by kernel_rfl) (by kernel_rfl) (fun _ _ _ h => h) hS (.inl ⟨by rfl, ?_⟩) ?_
  rotate_left 1
  · intro w' hS'; go_simp; try with_reducible rfl
  simp only [Act.put]
  refine wpAnyM_takeC (i := 6) (v := ?_) 20 rfl (by kernel_rfl) (by kernel_rfl) (by kernel_rfl) (by kernel_rfl) (by kernel_rfl) (by kernel_rfl) (fun _ _ _ h => h) hS (.inl ⟨by rfl, ?_⟩) ?_
  rotate_left 1
  · intro w' hS'; go_simp; try with_reducible rfl
  simp only [Act.put]
  refine wpAnyM_one (i := 1) (by kernel_rfl) rfl (by rfl) (fun K hK => ?_)
  go_simp
  refine (signalsBelow_first g a c xs z3 z5 z6 v.drew bv.drew av.drew hag hl).mono ?_
  rintro e w1 ⟨h, C, rfl, bx2, ow2, ht2⟩
  have hS1 : w1.cell? ⟨g, 0, none⟩ = some (.slice a xs.length c) := bx2.at_ 0 rfl
  have bB1 := bB.drew.touch ht2 (by have := HB.out; omega)
  obtain ⟨q0, q1⟩ := ow2.getS (k := xs.length) (by rw [scL_len]; omega)
  rw [scL_at xs (Nat.lt_succ_self _)] at q0 q1
  obtain ⟨s, hs⟩ : ∃ s, s = scn xs xs.length := ⟨_, rfl⟩
  rw [← hs] at q0 q1
  have HS2 := Lib.hid hs
  have ht3 : Touch g (g + 1) w w1 := ((touch_of_below hb1).drewN 1).trans ht2
  have hBw : w.heap.size ≤ B := by have := HB.out; omega
  have f0 := bB1.thaw 0
  have f1 := bB1.thaw 1
  have hi : (xs.length : Int) < (xs.length : Int) + 1 := by omega
  clear bx2 ow2 ht2 bB hs bv av hb1
  refine hK _ _ (.inr hS1) ?_
  try simp only [Act.put, List.setIfInBounds_toArray]
  clear hK K
  refine wpAnyM_one (i := 7) (by kernel_rfl) rfl (by rfl) (fun K hK => ?_)
  go_simp
  refine hK _ _ (.inr hS1) ?_
  try simp only [Act.put, List.setIfInBounds_toArray]
  clear hK K
  refine wpAnyM_one (i := 8) (by kernel_rfl) rfl (by rfl) (fun K hK => ?_)
  go_simp
  refine hK _ _ (.inr hS1) ?_
  try simp only [Act.put, List.setIfInBounds_toArray]
  clear hK K
  have r0 := bB1.at_ 0 rfl
  have r1 := bB1.at_ 1 rfl
  refine wpAnyM_one (i := 9) (by kernel_rfl) rfl (by rfl) (fun K hK => ?_)
  go_simp
  refine hK _ _ (.inl rfl) ?_
  clear hK K
  refine wpAnyM_done (by kernel_rfl) ?_ _
  have bB3 : Bx ((w1.setCell ⟨B, 0, none⟩ (.bool s.1)).setCell ⟨B, 1, none⟩ (.bool s.2)) B 122 #[.bool s.1, .bool s.2] := by simpa using (bB1.set_ 0 (.bool s.1)).set_ 1 (.bool s.2)
  have ht4 := (ht3.far (p := ⟨B, 0, none⟩) hBw (.bool s.1)).far (p := ⟨B, 1, none⟩) hBw (.bool s.2)
  obtain ⟨w3, hw3⟩ : ∃ w3, w3 = (w1.setCell ⟨B, 0, none⟩ (.bool s.1)).setCell ⟨B, 1, none⟩ (.bool s.2) := ⟨_, rfl⟩
  rw [← hw3] at bB3 ht4 ⊢
  clear hw3 q0 q1 f0 f1 r0 r1
  have r0 := bB3.at_ 0 rfl
  have r1 := bB3.at_ 1 rfl
  have f0 := bB3.thaw 0
  have f1 := bB3.thaw 1
  go_wp2
  exact bodyPost_ret (v := .agg #[.bool s.1, .bool s.2]) (by simp [results, Try.results97, go_sem, r0, r1]) rfl ⟨by rw [HS2.out], ht4⟩
end Go.Proofs.Ytmdngcoccekdgaa
