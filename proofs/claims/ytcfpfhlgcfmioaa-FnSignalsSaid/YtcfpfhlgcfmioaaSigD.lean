/-
  Some signals out of some bytes: spec.l07Signal, A2Signals.
-/
import Derived.Test.YtcfpfhlgcfmioaaDrawO
import Derived.Test.YtcfpfhlgcfmioaaSigI
import Derived.Test.YtcfpfhlgcfmioaaOrdC
import Derived.Test.YtcfpfhlgcfmioaaOwn2
import Derived.Deep.Cut
namespace Go.Proofs.Ytcfpfhlgcfmioaa
open Go.RowKit

set_option maxHeartbeats 1000000 in
theorem l07Signal_any (g K : Nat) (w : World) (h : Src w g K) (hK : K ≤ 800000) :
    Calls Try.prog 95 #[.pointer (some ⟨g, 0, none⟩)] w fun e w' => ∃ x : Bool × Bool, e = .returned (.agg #[.bool x.1, .bool x.2]) ∧ Src w' g (K + 4) ∧ Touch g (g + 1) w w' := by
  have hg := h.lt
  obtain ⟨u, hu⟩ : ∃ u, u = w.alloc (.cells #[.bool false, .bool false] 51) := ⟨_, rfl⟩
  obtain ⟨r, hr⟩ : ∃ r, r = w.heap.size := ⟨_, rfl⟩
  have tu : Touch g (g + 1) w u := by rw [hu]; exact (Touch.refl _ _ _).alloc _
  have bx : Bx u r 51 #[.bool false, .bool false] := by rw [hu, hr]; exact Bx.new _ _ _
  have hs0 : Src u g K := by rw [hu]; exact h.lo (L := w.heap.size) (by repeat (first | exact Below.refl _ _ | refine Below.setCell ?_ (by first | omega | (simp <;> omega)) _ | refine Below.alloc ?_ (by first | omega | (simp <;> omega)) _ | refine Below.drew ?_)) hg
  have HU := Lib.hid hu
  have HR := Lib.hid hr
  have hgr : g < r := by omega
  clear hu hr h
  go_enter Try.func95, Try.ntmps95
  go_wp2_with fail
  rw [← HU.out, ← HR.out]
  refine (one_any g K 2 u hs0 (by omega) (by omega)).mono ?_
  rintro e w1 ⟨a, rfl, hs1, ht1⟩
  replace bx := bx.touch ht1 (.inr (by omega))
  go_wp2_with fail
  refine (one_any g _ 2 w1 hs1 (by omega) (by omega)).mono ?_
  rintro e w2 ⟨b, rfl, hs2, ht2⟩
  replace bx := bx.touch ht2 (.inr (by omega))
  have c0 := bx.at_ 0 rfl
  have c1 := bx.at_ 1 rfl
  have f0 := bx.thaw 0
  have f1 := bx.thaw 1
  have bz := (bx.set_ 0 (.bool a)).set_ 1 (.bool b)
  have d0 := bz.at_ 0 rfl
  have d1 := bz.at_ 1 rfl
  have hlt := bx.lt
  have hfin : Touch g (g + 1) w ((w2.setCell ⟨r, 0, none⟩ (.bool a)).setCell ⟨r, 1, none⟩ (.bool b)) :=
    ((tu.trans ht1).trans ht2).then_ (((Touch.refl r (r + 1) w2).setCell (Nat.le_refl _) (Nat.lt_succ_self _) _).setCell (Nat.le_refl _) (Nat.lt_succ_self _) _) (by have := HR.out; omega)
  have hsf : Src ((w2.setCell ⟨r, 0, none⟩ (.bool a)).setCell ⟨r, 1, none⟩ (.bool b)) g (K + 2 + 2) := hs2.lo (L := r) (((Below.refl r w2).setCell (p := ⟨r, 0, none⟩) (Nat.le_refl _) _).setCell (p := ⟨r, 1, none⟩) (Nat.le_refl _) _) hgr
  go_wp2
  exact bodyPost_ret (v := .agg #[.bool a, .bool b]) (by simp [results, Try.results95, go_sem, d0, d1]) rfl ⟨(a, b), rfl, hsf, hfin⟩

set_option maxRecDepth 100000 in
set_option maxHeartbeats 4000000 in
theorem a2Signals_any (a : Option Addr) (zs : List Int) (c : Nat) (w : World) (h : RdU w a zs) :
    Calls Try.prog 32 #[.slice a zs.length c] w fun e w' => ∃ x y z : Bool × Bool, e = .returned (.tuple #[.agg #[.bool x.1, .bool x.2], .agg #[.bool y.1, .bool y.2], .agg #[.bool z.1, .bool z.2]]) ∧ Below w.heap.size w w' := by
  obtain ⟨r, hr⟩ : ∃ r, r = w.heap.size := ⟨_, rfl⟩
  obtain ⟨u, hu⟩ : ∃ u, u = ((w.alloc (.cells #[.bool false, .bool false] 51)).alloc (.cells #[.bool false, .bool false] 51)).alloc (.cells #[.bool false, .bool false] 51) := ⟨_, rfl⟩
  have b2 : Bx u r 51 #[.bool false, .bool false] := by rw [hu, hr]; exact ((Bx.new _ _ _).alloc _).alloc _
  have b3 : Bx u (r + 1) 51 #[.bool false, .bool false] := by rw [hu, hr]; simpa using (Bx.new (w.alloc (.cells #[.bool false, .bool false] 51)) #[.bool false, .bool false] 51).alloc (.cells #[.bool false, .bool false] 51)
  have b4 : Bx u (r + 1 + 1) 51 #[.bool false, .bool false] := by rw [hu, hr]; simpa using Bx.new ((w.alloc (.cells #[.bool false, .bool false] 51)).alloc (.cells #[.bool false, .bool false] 51)) #[.bool false, .bool false] 51
  have hbel : Below w.heap.size w u := by rw [hu]; exact (by repeat (first | exact Below.refl _ _ | refine Below.setCell ?_ (by first | omega | (simp <;> omega)) _ | refine Below.alloc ?_ (by first | omega | (simp <;> omega)) _ | refine Below.drew ?_))
  have hsu : r + 3 ≤ u.heap.size := by rw [hu, hr]; simp
  replace h := h.below hbel
  have HU := Lib.hid hu
  have HR := Lib.hid hr
  clear hu hr
  go_enter Try.func32, Try.ntmps32
  go_wp2_with fail
  rw [← HU.out, ← HR.out]
  refine (from_any a zs c u h).mono ?_
  rintro e w1 ⟨g, rfl, hg, hs1, hb⟩
  replace b2 := b2.below hb
  replace b3 := b3.below hb
  replace b4 := b4.below hb
  replace hbel := hbel.trans (hb.mono hbel.size)
  have hlt1 := hs1.lt
  clear hb h
  go_wp2_with fail
  refine (l07Signal_any g 0 w1 hs1 (by omega)).mono ?_
  rintro e w2 ⟨x, rfl, hs2, ht⟩
  replace b2 := b2.touch ht (.inl (by omega))
  replace b3 := b3.touch ht (.inl (by omega))
  replace b4 := b4.touch ht (.inl (by omega))
  have hz2 := ht.size
  replace hbel := hbel.trans (ht.below (by have := HR.out; omega) hbel.size)
  clear ht hs1
  go_wp2_with fail
  obtain ⟨g5, hg5⟩ : ∃ g, g = w2.heap.size := ⟨_, rfl⟩
  obtain ⟨v2, hv2⟩ : ∃ V, V = w2.alloc (.cells #[.bool x.1, .bool x.2] 51) := ⟨_, rfl⟩
  have b5 : Bx v2 g5 51 #[.bool x.1, .bool x.2] := by rw [hv2, hg5]; exact Bx.new _ _ _
  have hb : Below w2.heap.size w2 v2 := by rw [hv2]; exact (Below.refl _ _).alloc (Nat.le_refl _) _
  rw [← hg5, ← hv2]
  have h5 : g < g5 := by omega
  clear hv2 hg5
  replace hs2 := hs2.lo hb (by omega)
  replace b2 := b2.below hb
  replace b3 := b3.below hb
  replace b4 := b4.below hb
  have hz3 := hb.size
  replace hbel := hbel.trans (hb.mono hbel.size)
  clear hb
  refine (l07Signal_any g _ v2 hs2 (by omega)).mono ?_
  rintro e w3 ⟨y, rfl, hs3, ht⟩
  replace b2 := b2.touch ht (.inl (by omega))
  replace b3 := b3.touch ht (.inl (by omega))
  replace b4 := b4.touch ht (.inl (by omega))
  replace b5 := b5.touch ht (.inr (by omega))
  have hz4 := ht.size
  replace hbel := hbel.trans (ht.below (by have := HR.out; omega) hbel.size)
  clear ht hs2
  go_upto_region 4 with fail
  obtain ⟨g6, hg6⟩ : ∃ g, g = w3.heap.size := ⟨_, rfl⟩
  obtain ⟨v3, hv3⟩ : ∃ V, V = w3.alloc (.cells #[.bool y.1, .bool y.2] 51) := ⟨_, rfl⟩
  have b6 : Bx v3 g6 51 #[.bool y.1, .bool y.2] := by rw [hv3, hg6]; exact Bx.new _ _ _
  have hb : Below w3.heap.size w3 v3 := by rw [hv3]; exact (Below.refl _ _).alloc (Nat.le_refl _) _
  rw [← hg6, ← hv3]
  have h6 : g < g6 := by omega
  clear hv3 hg6
  replace hs3 := hs3.lo hb (by omega)
  replace b2 := b2.below hb
  replace b3 := b3.below hb
  replace b4 := b4.below hb
  replace b5 := b5.below hb
  have hz5 := hb.size
  replace hbel := hbel.trans (hb.mono hbel.size)
  clear hb
  have k0 : ∀ w', (Bx w' g5 51 #[.bool x.1, .bool x.2] ∧ Bx w' g6 51 #[.bool y.1, .bool y.2]) → w'.cell? ⟨g5, 0, none⟩ = some (.bool x.1) := fun w' ht => ht.1.at_ 0 rfl
  have k1 : ∀ w', (Bx w' g5 51 #[.bool x.1, .bool x.2] ∧ Bx w' g6 51 #[.bool y.1, .bool y.2]) → w'.cell? ⟨g5, 1, none⟩ = some (.bool x.2) := fun w' ht => ht.1.at_ 1 rfl
  have k2 : ∀ w', (Bx w' g5 51 #[.bool x.1, .bool x.2] ∧ Bx w' g6 51 #[.bool y.1, .bool y.2]) → w'.cell? ⟨g6, 0, none⟩ = some (.bool y.1) := fun w' ht => ht.2.at_ 0 rfl
  have k3 : ∀ w', (Bx w' g5 51 #[.bool x.1, .bool x.2] ∧ Bx w' g6 51 #[.bool y.1, .bool y.2]) → w'.cell? ⟨g6, 1, none⟩ = some (.bool y.2) := fun w' ht => ht.2.at_ 1 rfl
  refine wp_region_marked (fun w' => Bx w' g5 51 #[.bool x.1, .bool x.2] ∧ Bx w' g6 51 #[.bool y.1, .bool y.2]) 6 (by kernel_rfl) ?_
  have hS : Bx v3.drew g5 51 #[.bool x.1, .bool x.2] ∧ Bx v3.drew g6 51 #[.bool y.1, .bool y.2] := ⟨b5.drew, b6.drew⟩
  refine wpAnyM_takeC (i := 0) (v := ?_) 20 rfl (by kernel_rfl) (by kernel_rfl) (by kernel_rfl) (by kernel_rfl) (by kernel_rfl) (by kernel_rfl) (fun _ _ _ h => h) hS (.inl ⟨by rfl, ?_⟩) ?_
  rotate_left 1
  · intro w' hS'; go_simp; try with_reducible rfl
  simp only [Act.put, List.setIfInBounds_toArray]
  refine wpAnyM_takeC (i := 1) (v := ?_) 20 rfl (by kernel_rfl) (by kernel_rfl) (by kernel_rfl) (by kernel_rfl) (by kernel_rfl) (by kernel_rfl) (fun _ _ _ h => h) hS (.inl ⟨by rfl, ?_⟩) ?_
  rotate_left 1
  · intro w' hS'; go_simp; try with_reducible rfl
  simp only [Act.put]
  refine wpAnyM_takeC (i := 2) (v := ?_) 20 rfl (by kernel_rfl) (by kernel_rfl) (by kernel_rfl) (by kernel_rfl) (by kernel_rfl) (by kernel_rfl) (fun _ _ _ h => h) hS (.inl ⟨by rfl, ?_⟩) ?_
  rotate_left 1
  · intro w' hS'; go_simp; try with_reducible rfl
  simp only [Act.put]
  clear k0 k1 k2 k3
  refine wpAnyM_one (i := 3) (by kernel_rfl) rfl (by rfl) (fun K hK => ?_)
  go_simp
  refine (l07Signal_any g _ v3.drew (hs3.lo (L := v3.heap.size) (Below.refl _ _).drew (by omega)) (by omega)).mono ?_
  rintro e w4 ⟨z, rfl, _, ht⟩
  replace b2 := b2.drew.touch ht (.inl (by omega))
  replace b3 := b3.drew.touch ht (.inl (by omega))
  replace b4 := b4.drew.touch ht (.inl (by omega))
  replace b5 := b5.drew.touch ht (.inr (by omega))
  replace b6 := b6.drew.touch ht (.inr (by omega))
  have hz6 : v3.heap.size ≤ w4.heap.size := ht.size
  replace hbel := hbel.drew.trans (ht.below (by have := HR.out; omega) hbel.drew.size)
  clear ht hs3 hS
  have hn : w.heap.size ≤ r := by have := HR.out; omega
  have f20 := b2.thaw 0
  have f21 := b2.thaw 1
  have f30 := b3.thaw 0
  have f31 := b3.thaw 1
  have f40 := b4.thaw 0
  have f41 := b4.thaw 1
  refine hK _ _ (.inr ⟨b5, b6⟩) ?_
  try simp only [Act.put, List.setIfInBounds_toArray]
  clear hK K
  have c0 := b2.at_ 0 rfl
  have c1 := b2.at_ 1 rfl
  refine wpAnyM_one (i := 4) (by kernel_rfl) rfl (by rfl) (fun K hK => ?_)
  go_simp
  obtain ⟨v4, hv4⟩ : ∃ V, V = (w4.setCell ⟨r, 0, none⟩ (.bool x.1)).setCell ⟨r, 1, none⟩ (.bool x.2) := ⟨_, rfl⟩
  rw [← hv4]
  replace hbel : Below w.heap.size w v4 := by rw [hv4]; exact (hbel.setCell (p := ⟨r, 0, none⟩) hn _).setCell (p := ⟨r, 1, none⟩) hn _
  replace b2 : Bx v4 r 51 #[.bool x.1, .bool x.2] := by rw [hv4]; simpa using (b2.set_ 0 (.bool x.1)).set_ 1 (.bool x.2)
  replace b3 : Bx v4 (r + 1) 51 #[.bool false, .bool false] := by rw [hv4]; exact (b3.far (by simp) _).far (by simp) _
  replace b4 : Bx v4 (r + 1 + 1) 51 #[.bool false, .bool false] := by rw [hv4]; exact (b4.far (by simp; omega) _).far (by simp; omega) _
  replace b5 : Bx v4 g5 51 #[.bool x.1, .bool x.2] := by rw [hv4]; exact (b5.far (by simp; omega) _).far (by simp; omega) _
  replace b6 : Bx v4 g6 51 #[.bool y.1, .bool y.2] := by rw [hv4]; exact (b6.far (by simp; omega) _).far (by simp; omega) _
  clear hv4 c0 c1
  refine hK _ _ (.inr ⟨b5, b6⟩) ?_
  try simp only [Act.put, List.setIfInBounds_toArray]
  clear hK K
  have c0 := b3.at_ 0 rfl
  have c1 := b3.at_ 1 rfl
  have f0 := b3.thaw 0
  have f1 := b3.thaw 1
  refine wpAnyM_one (i := 5) (by kernel_rfl) rfl (by rfl) (fun K hK => ?_)
  go_simp
  obtain ⟨v5, hv5⟩ : ∃ V, V = (v4.setCell ⟨r + 1, 0, none⟩ (.bool y.1)).setCell ⟨r + 1, 1, none⟩ (.bool y.2) := ⟨_, rfl⟩
  rw [← hv5]
  replace hbel : Below w.heap.size w v5 := by rw [hv5]; exact (hbel.setCell (p := ⟨r + 1, 0, none⟩) (by simp; omega) _).setCell (p := ⟨r + 1, 1, none⟩) (by simp; omega) _
  replace b2 : Bx v5 r 51 #[.bool x.1, .bool x.2] := by rw [hv5]; exact (b2.far (by simp) _).far (by simp) _
  replace b3 : Bx v5 (r + 1) 51 #[.bool y.1, .bool y.2] := by rw [hv5]; simpa using (b3.set_ 0 (.bool y.1)).set_ 1 (.bool y.2)
  replace b4 : Bx v5 (r + 1 + 1) 51 #[.bool false, .bool false] := by rw [hv5]; exact (b4.far (by simp) _).far (by simp) _
  replace b5 : Bx v5 g5 51 #[.bool x.1, .bool x.2] := by rw [hv5]; exact (b5.far (by simp; omega) _).far (by simp; omega) _
  replace b6 : Bx v5 g6 51 #[.bool y.1, .bool y.2] := by rw [hv5]; exact (b6.far (by simp; omega) _).far (by simp; omega) _
  clear hv5 c0 c1 f0 f1
  refine hK _ _ (.inr ⟨b5, b6⟩) ?_
  try simp only [Act.put, List.setIfInBounds_toArray]
  clear hK K
  have c0 := b4.at_ 0 rfl
  have c1 := b4.at_ 1 rfl
  have f0 := b4.thaw 0
  have f1 := b4.thaw 1
  refine wpAnyM_one (i := 6) (by kernel_rfl) rfl (by rfl) (fun K hK => ?_)
  go_simp
  obtain ⟨v6, hv6⟩ : ∃ V, V = (v5.setCell ⟨r + 1 + 1, 0, none⟩ (.bool z.1)).setCell ⟨r + 1 + 1, 1, none⟩ (.bool z.2) := ⟨_, rfl⟩
  rw [← hv6]
  replace hbel : Below w.heap.size w v6 := by rw [hv6]; exact (hbel.setCell (p := ⟨r + 1 + 1, 0, none⟩) (by simp; omega) _).setCell (p := ⟨r + 1 + 1, 1, none⟩) (by simp; omega) _
  replace b2 : Bx v6 r 51 #[.bool x.1, .bool x.2] := by rw [hv6]; exact (b2.far (by simp; omega) _).far (by simp; omega) _
  replace b3 : Bx v6 (r + 1) 51 #[.bool y.1, .bool y.2] := by rw [hv6]; exact (b3.far (by simp) _).far (by simp) _
  replace b4 : Bx v6 (r + 1 + 1) 51 #[.bool z.1, .bool z.2] := by rw [hv6]; simpa using (b4.set_ 0 (.bool z.1)).set_ 1 (.bool z.2)
  clear hv6 c0 c1 f0 f1
  refine hK _ _ (.inl rfl) ?_
  clear hK K
  refine wpAnyM_done (by kernel_rfl) ?_ _
  have d0 := b2.at_ 0 rfl
  have d1 := b2.at_ 1 rfl
  have d2 := b3.at_ 0 rfl
  have d3 := b3.at_ 1 rfl
  have d4 := b4.at_ 0 rfl
  have d5 := b4.at_ 1 rfl
  go_wp2
  exact bodyPost_ret (v := .tuple #[.agg #[.bool x.1, .bool x.2], .agg #[.bool y.1, .bool y.2], .agg #[.bool z.1, .bool z.2]]) (by simp [results, Try.results32, go_sem, d0, d1, d2, d3, d4, d5]) rfl ⟨x, y, z, rfl, hbel⟩
end Go.Proofs.Ytcfpfhlgcfmioaa
