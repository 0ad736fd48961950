/-
  What the abaci's laws draw: DrawAbacusValue, DrawPlainAbacus, DrawAbacusPicture, DrawSetAbacus.
-/
import Derived.Test.YtgfpjcckkbhdjaaDrawB
namespace Go.Proofs.Ytgfpjcckkbhdjaa
open Go.RowKit

/-- A drawn abacus, of its own. -/
def BentPost (w : World) (e : Ending) (w' : World) : Prop := ∃ (U L W : Int) (rs : List (Int × Int)) (A : Option Addr) (C : Nat), e = .returned (.agg #[.int .i64 U, .int .i64 L, .int .i64 W, .slice A (List.length rs) C]) ∧ BentD U L W rs ∧
  OwnF pairF 152 w' w.heap.size w'.heap.size (.slice A rs.length C) rs ∧ Below w.heap.size w w'

set_option maxHeartbeats 1000000 in
theorem drawAbacusValue_any (a : Option Addr) (zs : List Int) (c : Nat) (w : World) (h : RdU w a zs) :
    Calls Try.prog 40 #[.slice a zs.length c] w (BentPost w) := by
  go_enter Try.func40, Try.ntmps40
  obtain ⟨u, hu⟩ : ∃ u, u = w.alloc (.cells #[.int .i64 0, .int .i64 0, .int .i64 0, .slice none 0 0] 56) := ⟨_, rfl⟩
  have br : Bx u w.heap.size 56 #[.int .i64 0, .int .i64 0, .int .i64 0, .slice none 0 0] := by rw [hu]; exact Bx.new _ _ _
  have hbu : Below w.heap.size w u := by rw [hu]; exact (by repeat (first | exact Below.refl _ _ | refine Below.setCell ?_ (by first | omega | (simp <;> omega)) _ | refine Below.alloc ?_ (by first | omega | (simp <;> omega)) _ | refine Below.drew ?_))
  have HU := Lib.hid hu
  clear hu
  go_wp2_with fail
  rw [← HU.out]
  refine (from_any a zs c u (h.below hbu)).mono ?_
  rintro e w1 ⟨g, rfl, hg, hs, hb1⟩
  have hl := hb1.size
  have hrl := br.lt
  replace br := br.below hb1
  replace hbu := hbu.trans (hb1.mono hbu.size)
  have hul := hbu.size
  go_wp2_with fail
  refine (bentAba_any g _ w1 hs (by omega)).mono ?_
  rintro e w2 ⟨U, L, W, rs, A, C, rfl, hd, ow, ht, hs2⟩
  have hl2 := ht.size
  replace br := br.touch ht (by omega)
  have c0 := br.at_ 0 rfl
  have c1 := br.at_ 1 rfl
  have c2 := br.at_ 2 rfl
  have c3 := br.at_ 3 rfl
  have f0 := br.thaw 0
  have f1 := br.thaw 1
  have f2 := br.thaw 2
  have f3 := br.thaw 3
  have hb2 : Below w.heap.size w w2 := hbu.trans (ht.below (by omega) (by omega))
  have tt : Touch w.heap.size (w.heap.size + 1) w2 ((((w2.setCell ⟨w.heap.size, 0, none⟩ (.int .i64 U)).setCell ⟨w.heap.size, 1, none⟩ (.int .i64 L)).setCell ⟨w.heap.size, 2, none⟩ (.int .i64 W)).setCell ⟨w.heap.size, 3, none⟩ (.slice A rs.length C)) :=
    ((((Touch.refl _ _ _).setCell (by simp) (by simp) _).setCell (by simp) (by simp) _).setCell (by simp) (by simp) _).setCell (by simp) (by simp) _
  have HO := Lib.hid ((ow.touch tt (.inr (by omega))).wide (lo' := w.heap.size) (hi' := ((((w2.setCell ⟨w.heap.size, 0, none⟩ (.int .i64 U)).setCell ⟨w.heap.size, 1, none⟩ (.int .i64 L)).setCell ⟨w.heap.size, 2, none⟩ (.int .i64 W)).setCell ⟨w.heap.size, 3, none⟩ (.slice A rs.length C)).heap.size) (by omega) (by simp))
  have HB := Lib.hid (hb2.trans (tt.below (Nat.le_refl _) (by omega)))
  clear tt ow hb2 hs hs2 ht
  go_wp2_with fail
  refine bodyPost_ret (v := .agg #[.int .i64 U, .int .i64 L, .int .i64 W, .slice A rs.length C]) (by simp [results, Try.results40, go_sem, c0, c1, c2, c3]) rfl ?_
  exact ⟨U, L, W, rs, A, C, rfl, hd, HO.out, HB.out⟩
set_option maxHeartbeats 1000000 in
theorem drawPlainAbacus_any (a : Option Addr) (zs : List Int) (c : Nat) (w : World) (h : RdU w a zs) :
    Calls Try.prog 37 #[.slice a zs.length c] w (BentPost w) := by
  go_enter Try.func37, Try.ntmps37
  obtain ⟨u, hu⟩ : ∃ u, u = w.alloc (.cells #[.int .i64 0, .int .i64 0, .int .i64 0, .slice none 0 0] 56) := ⟨_, rfl⟩
  have br : Bx u w.heap.size 56 #[.int .i64 0, .int .i64 0, .int .i64 0, .slice none 0 0] := by rw [hu]; exact Bx.new _ _ _
  have hbu : Below w.heap.size w u := by rw [hu]; exact (by repeat (first | exact Below.refl _ _ | refine Below.setCell ?_ (by first | omega | (simp <;> omega)) _ | refine Below.alloc ?_ (by first | omega | (simp <;> omega)) _ | refine Below.drew ?_))
  have HU := Lib.hid hu
  clear hu
  go_wp2_with fail
  rw [← HU.out]
  refine (from_any a zs c u (h.below hbu)).mono ?_
  rintro e w1 ⟨g, rfl, hg, hs, hb1⟩
  have hl := hb1.size
  have hrl := br.lt
  replace br := br.below hb1
  replace hbu := hbu.trans (hb1.mono hbu.size)
  have hul := hbu.size
  go_wp2_with fail
  refine (bentAba_any g _ w1 hs (by omega)).mono ?_
  rintro e w2 ⟨U, L, W, rs, A, C, rfl, hd, ow, ht, hs2⟩
  have hl2 := ht.size
  replace br := br.touch ht (by omega)
  have c0 := br.at_ 0 rfl
  have c1 := br.at_ 1 rfl
  have c2 := br.at_ 2 rfl
  have c3 := br.at_ 3 rfl
  have f0 := br.thaw 0
  have f1 := br.thaw 1
  have f2 := br.thaw 2
  have f3 := br.thaw 3
  have hb2 : Below w.heap.size w w2 := hbu.trans (ht.below (by omega) (by omega))
  have tt : Touch w.heap.size (w.heap.size + 1) w2 ((((w2.setCell ⟨w.heap.size, 0, none⟩ (.int .i64 U)).setCell ⟨w.heap.size, 1, none⟩ (.int .i64 L)).setCell ⟨w.heap.size, 2, none⟩ (.int .i64 W)).setCell ⟨w.heap.size, 3, none⟩ (.slice A rs.length C)) :=
    ((((Touch.refl _ _ _).setCell (by simp) (by simp) _).setCell (by simp) (by simp) _).setCell (by simp) (by simp) _).setCell (by simp) (by simp) _
  have HO := Lib.hid ((ow.touch tt (.inr (by omega))).wide (lo' := w.heap.size) (hi' := ((((w2.setCell ⟨w.heap.size, 0, none⟩ (.int .i64 U)).setCell ⟨w.heap.size, 1, none⟩ (.int .i64 L)).setCell ⟨w.heap.size, 2, none⟩ (.int .i64 W)).setCell ⟨w.heap.size, 3, none⟩ (.slice A rs.length C)).heap.size) (by omega) (by simp))
  have HB := Lib.hid (hb2.trans (tt.below (Nat.le_refl _) (by omega)))
  clear tt ow hb2 hs hs2 ht
  go_wp2_with fail
  refine bodyPost_ret (v := .agg #[.int .i64 U, .int .i64 L, .int .i64 W, .slice A rs.length C]) (by simp [results, Try.results37, go_sem, c0, c1, c2, c3]) rfl ?_
  exact ⟨U, L, W, rs, A, C, rfl, hd, HO.out, HB.out⟩
set_option maxHeartbeats 1000000 in
theorem drawAbacusPicture_any (a : Option Addr) (zs : List Int) (c : Nat) (w : World) (h : RdU w a zs) :
    Calls Try.prog 43 #[.slice a zs.length c] w (BentPost w) := by
  go_enter Try.func43, Try.ntmps43
  obtain ⟨u, hu⟩ : ∃ u, u = w.alloc (.cells #[.int .i64 0, .int .i64 0, .int .i64 0, .slice none 0 0] 56) := ⟨_, rfl⟩
  have br : Bx u w.heap.size 56 #[.int .i64 0, .int .i64 0, .int .i64 0, .slice none 0 0] := by rw [hu]; exact Bx.new _ _ _
  have hbu : Below w.heap.size w u := by rw [hu]; exact (by repeat (first | exact Below.refl _ _ | refine Below.setCell ?_ (by first | omega | (simp <;> omega)) _ | refine Below.alloc ?_ (by first | omega | (simp <;> omega)) _ | refine Below.drew ?_))
  have HU := Lib.hid hu
  clear hu
  go_wp2_with fail
  rw [← HU.out]
  refine (from_any a zs c u (h.below hbu)).mono ?_
  rintro e w1 ⟨g, rfl, hg, hs, hb1⟩
  have hl := hb1.size
  have hrl := br.lt
  replace br := br.below hb1
  replace hbu := hbu.trans (hb1.mono hbu.size)
  have hul := hbu.size
  go_wp2_with fail
  refine (bentAba_any g _ w1 hs (by omega)).mono ?_
  rintro e w2 ⟨U, L, W, rs, A, C, rfl, hd, ow, ht, hs2⟩
  have hl2 := ht.size
  replace br := br.touch ht (by omega)
  have c0 := br.at_ 0 rfl
  have c1 := br.at_ 1 rfl
  have c2 := br.at_ 2 rfl
  have c3 := br.at_ 3 rfl
  have f0 := br.thaw 0
  have f1 := br.thaw 1
  have f2 := br.thaw 2
  have f3 := br.thaw 3
  have hb2 : Below w.heap.size w w2 := hbu.trans (ht.below (by omega) (by omega))
  have tt : Touch w.heap.size (w.heap.size + 1) w2 ((((w2.setCell ⟨w.heap.size, 0, none⟩ (.int .i64 U)).setCell ⟨w.heap.size, 1, none⟩ (.int .i64 L)).setCell ⟨w.heap.size, 2, none⟩ (.int .i64 W)).setCell ⟨w.heap.size, 3, none⟩ (.slice A rs.length C)) :=
    ((((Touch.refl _ _ _).setCell (by simp) (by simp) _).setCell (by simp) (by simp) _).setCell (by simp) (by simp) _).setCell (by simp) (by simp) _
  have HO := Lib.hid ((ow.touch tt (.inr (by omega))).wide (lo' := w.heap.size) (hi' := ((((w2.setCell ⟨w.heap.size, 0, none⟩ (.int .i64 U)).setCell ⟨w.heap.size, 1, none⟩ (.int .i64 L)).setCell ⟨w.heap.size, 2, none⟩ (.int .i64 W)).setCell ⟨w.heap.size, 3, none⟩ (.slice A rs.length C)).heap.size) (by omega) (by simp))
  have HB := Lib.hid (hb2.trans (tt.below (Nat.le_refl _) (by omega)))
  clear tt ow hb2 hs hs2 ht
  go_wp2_with fail
  refine bodyPost_ret (v := .agg #[.int .i64 U, .int .i64 L, .int .i64 W, .slice A rs.length C]) (by simp [results, Try.results43, go_sem, c0, c1, c2, c3]) rfl ?_
  exact ⟨U, L, W, rs, A, C, rfl, hd, HO.out, HB.out⟩
set_option maxHeartbeats 1000000 in
theorem drawValue_any (s K : Nat) (w : World) (h : Src w s K) (hK : K ≤ 700000) :
    Calls Try.prog 126 #[.pointer (some ⟨s, 0, none⟩)] w fun e w' => ∃ z : Int, e = .returned (.int .i64 z) ∧ I64 z ∧ Touch s (s + 1) w w' ∧ Src w' s (K + 10) := by
  have hs := h.lt
  go_enter Try.func126, Try.ntmps126
  go_wp2_with fail
  refine (one_any s K 10 w h (by omega) (by omega)).mono ?_
  rintro e w1 ⟨x, rfl, hs1, ht1⟩
  have hl1 := ht1.size
  clear h
  cases x with
  | true =>
    go_wp2_with fail
    have hal : Below w1.heap.size w1 (w1.alloc (.cells ([-1, 0, 999999, 1000000000000, 1000000000001].map (Value.int .i64)).toArray 2)) := (Below.refl _ _).alloc (Nat.le_refl _) _
    refine (among_any s _ w1.heap.size 5 [-1, 0, 999999, 1000000000000, 1000000000001] _ (hs1.lo (L := w1.heap.size) hal (by omega)) (by omega) (rd_new w1 [-1, 0, 999999, 1000000000000, 1000000000001] (by simp)) (by omega) (by simp) (by simp)).mono ?_
    rintro e w3 ⟨y, rfl, hy, hs3, ht3⟩
    have iy : I64 y := by
      unfold I64
      simp at hy
      rcases hy with rfl | rfl | rfl | rfl | rfl <;> decide
    go_wp2_with fail
    refine bodyPost_ret (v := .int .i64 y) (by simp [results, Try.results126, go_sem]) rfl ?_
    exact ⟨y, rfl, iy, (ht1.trans (Below.touch hal)).trans ht3, hs3.mono (by omega)⟩
  | false =>
    go_wp2_with fail
    refine (pick_any s _ 1000 w1 hs1 (by omega) (by omega)).mono ?_
    rintro e w2 ⟨n, rfl, n0, n1, hs2, ht2⟩
    go_wp2_with fail
    refine (pick_any s _ 2 w2 hs2 (by omega) (by omega)).mono ?_
    rintro e w3 ⟨x, rfl, x0, x1, hs3, ht3⟩
    go_wp2_with fail
    refine (pick_any s _ 1000 w3 hs3 (by omega) (by omega)).mono ?_
    rintro e w4 ⟨y, rfl, y0, y1, hs4, ht4⟩
    have m0 : 0 ≤ x * y := Int.mul_nonneg x0 y0
    have m1 : x * y ≤ 1 * 999 := Int.mul_le_mul (by omega) (by omega) y0 (by omega)
    have v1 : IntKind.i64.wrap (x * y) = x * y := fits_int _ (by omega) (by omega)
    have v2 : IntKind.i64.wrap (1 + x * y) = 1 + x * y := fits_int _ (by omega) (by omega)
    have m2 : 0 ≤ n * (1 + x * y) := Int.mul_nonneg n0 (by omega)
    have m3 : n * (1 + x * y) ≤ 999 * 1000 := Int.mul_le_mul (by omega) (by omega) (by omega) (by omega)
    have v3 : IntKind.i64.wrap (n * (1 + x * y)) = n * (1 + x * y) := fits_int _ (by omega) (by omega)
    have iz : I64 (n * (1 + x * y)) := mid64 (by omega) (by omega)
    have HT := Lib.hid (((ht1.trans ht2).trans ht3).trans ht4)
    clear m0 m1 m2 m3 n0 n1 x0 x1 y0 y1
    go_wp2_with fail
    refine bodyPost_ret (v := .int .i64 (n * (1 + x * y))) (by simp [results, Try.results126, go_sem]) rfl ?_
    exact ⟨_, rfl, iz, HT.out, hs4.mono (by omega)⟩

set_option maxHeartbeats 2000000 in
theorem drawSetAbacus_any (a : Option Addr) (zs : List Int) (c : Nat) (w : World) (h : RdU w a zs) :
    Calls Try.prog 34 #[.slice a zs.length c] w fun e w' => ∃ (U L W : Int) (rs : List (Int × Int)) (A : Option Addr) (C : Nat) (z : Int), e = .returned (.tuple #[.agg #[.int .i64 U, .int .i64 L, .int .i64 W, .slice A (List.length rs) C], .int .i64 z]) ∧ BentD U L W rs ∧ I64 z ∧
      OwnF pairF 152 w' w.heap.size w'.heap.size (.slice A rs.length C) rs ∧ Below w.heap.size w w' := by
  obtain ⟨r, hr⟩ : ∃ r, r = w.heap.size := ⟨_, rfl⟩
  go_enter Try.func34, Try.ntmps34
  obtain ⟨u, hu⟩ : ∃ u, u = w.alloc (.cells #[.int .i64 0, .int .i64 0, .int .i64 0, .slice none 0 0] 56) := ⟨_, rfl⟩
  have br : Bx u r 56 #[.int .i64 0, .int .i64 0, .int .i64 0, .slice none 0 0] := by rw [hu, hr]; exact Bx.new _ _ _
  have hbu : Below w.heap.size w u := by rw [hu]; exact (by repeat (first | exact Below.refl _ _ | refine Below.setCell ?_ (by first | omega | (simp <;> omega)) _ | refine Below.alloc ?_ (by first | omega | (simp <;> omega)) _ | refine Below.drew ?_))
  have hsu : u.heap.size = r + 1 := by rw [hu, hr]; simp
  have HU := Lib.hid hu
  have HR := Lib.hid hr
  clear hu
  go_wp2_with fail
  rw [← HU.out, ← hr]
  clear hr
  refine (from_any a zs c u (h.below hbu)).mono ?_
  rintro e w1 ⟨g, rfl, hg, hs, hb1⟩
  have hl := hb1.size
  replace br := br.below hb1
  replace hbu := hbu.trans (hb1.mono hbu.size)
  have hul := hbu.size
  clear hb1
  go_wp2_with fail
  refine (bentAba_any g _ w1 hs (by omega)).mono ?_
  rintro e w2 ⟨U, L, W, rs, A, C, rfl, hd, ow, ht, hs2⟩
  have hl2 := ht.size
  replace br := br.touch ht (by omega)
  replace hbu : Below w.heap.size w w2 := hbu.trans (ht.below (by have := HR.out; omega) (by omega))
  have hgl := hs2.lt
  have hgl1 := hs.lt
  clear ht hs
  go_upto_region 3 with fail
  obtain ⟨B, hB⟩ : ∃ B, B = w2.heap.size := ⟨_, rfl⟩
  obtain ⟨v, hv⟩ : ∃ v, v = w2.alloc (.cells #[.int .i64 U, .int .i64 L, .int .i64 W, .slice A rs.length C] 56) := ⟨_, rfl⟩
  rw [← hv, ← hB]
  have hbv : Below w2.heap.size w2 v := by rw [hv]; exact (by repeat (first | exact Below.refl _ _ | refine Below.setCell ?_ (by first | omega | (simp <;> omega)) _ | refine Below.alloc ?_ (by first | omega | (simp <;> omega)) _ | refine Below.drew ?_))
  have bB : Bx v B 56 #[.int .i64 U, .int .i64 L, .int .i64 W, .slice A rs.length C] := by rw [hv, hB]; exact Bx.new _ _ _
  have hvz : v.heap.size = B + 1 := by rw [hv, hB]; simp
  replace br := br.below hbv
  replace ow := ow.below hbv
  have sv := hs2.lo hbv (by omega)
  replace hbu := hbu.trans (hbv.mono hbu.size)
  have HB := Lib.hid hB
  have hrB : r < B := by omega
  have hgB : g < B := by omega
  rw [← hB] at ow
  clear hv hbv hs2 hB
  have k0 : ∀ w', Touch g (g + 1) v w' → w'.cell? ⟨B, 0, none⟩ = some (.int .i64 U) := fun _ h => keptT h (bB.at_ 0 rfl) (by omega)
  have k1 : ∀ w', Touch g (g + 1) v w' → w'.cell? ⟨B, 1, none⟩ = some (.int .i64 L) := fun _ h => keptT h (bB.at_ 1 rfl) (by omega)
  have k2 : ∀ w', Touch g (g + 1) v w' → w'.cell? ⟨B, 2, none⟩ = some (.int .i64 W) := fun _ h => keptT h (bB.at_ 2 rfl) (by omega)
  have k3 : ∀ w', Touch g (g + 1) v w' → w'.cell? ⟨B, 3, none⟩ = some (.slice A rs.length C) := fun _ h => keptT h (bB.at_ 3 rfl) (by omega)
  refine wp_region_marked (fun w' => Touch g (g + 1) v w') 3 (by kernel_rfl) ?_
  have hS : Touch g (g + 1) v v.drew := ⟨rfl, rfl, rfl, Nat.le_refl _, fun _ _ _ => rfl⟩
  refine wpAnyM_take (i := 0) (v := ?_) rfl (by kernel_rfl) (by kernel_rfl) (by kernel_rfl) (by kernel_rfl) (by kernel_rfl) (fun _ _ _ h => h) hS (.inl ⟨by rfl, ?_⟩) ?_
  rotate_left 1
  · intro w' hS'; go_simp; try with_reducible rfl
  simp only [Act.put, List.setIfInBounds_toArray]
  clear k0 k1 k2 k3
  refine wpAnyM_one (i := 1) (by kernel_rfl) rfl (by rfl) (fun K hK => ?_)
  go_simp
  refine hK _ _ (.inr hS) ?_
  try simp only [Act.put, List.setIfInBounds_toArray]
  clear hK K
  refine wpAnyM_one (i := 2) (by kernel_rfl) rfl (by rfl) (fun K hK => ?_)
  go_simp
  refine (drawValue_any g _ v.drew (sv.lo (L := v.heap.size) ((Below.refl _ _).drew) (by omega)) (by omega)).mono ?_
  rintro e w4 ⟨z, rfl, iz, ht4, hs4⟩
  replace hS := hS.trans ht4
  refine hK _ _ (.inr hS) ?_
  try simp only [Act.put, List.setIfInBounds_toArray]
  clear hK K ht4 hs4
  have hl4 := hS.size
  have r4 := br.touch hS (by omega)
  have o4 := ow.touch hS (.inr (by omega))
  have b4 : Below w.heap.size w w4 := hbu.trans (hS.below (by have := HR.out; omega) (by have := HR.out; omega))
  have c0 := r4.at_ 0 rfl
  have c1 := r4.at_ 1 rfl
  have c2 := r4.at_ 2 rfl
  have c3 := r4.at_ 3 rfl
  have f0 := r4.thaw 0
  have f1 := r4.thaw 1
  have f2 := r4.thaw 2
  have f3 := r4.thaw 3
  have tt : Touch r (r + 1) w4 ((((w4.setCell ⟨r, 0, none⟩ (.int .i64 U)).setCell ⟨r, 1, none⟩ (.int .i64 L)).setCell ⟨r, 2, none⟩ (.int .i64 W)).setCell ⟨r, 3, none⟩ (.slice A rs.length C)) :=
    ((((Touch.refl _ _ _).setCell (by simp) (by simp) _).setCell (by simp) (by simp) _).setCell (by simp) (by simp) _).setCell (by simp) (by simp) _
  have HO := Lib.hid ((o4.touch tt (.inr (by omega))).wide (lo' := w.heap.size) (hi' := ((((w4.setCell ⟨r, 0, none⟩ (.int .i64 U)).setCell ⟨r, 1, none⟩ (.int .i64 L)).setCell ⟨r, 2, none⟩ (.int .i64 W)).setCell ⟨r, 3, none⟩ (.slice A rs.length C)).heap.size) (by have := HR.out; omega) (by have := HB.out; simp; omega))
  have HL := Lib.hid (b4.trans (tt.below (by have := HR.out; omega) (by have := HR.out; omega)))
  clear tt o4 b4 br ow sv bB hS hbu
  refine wpAnyM_one (i := 3) (by kernel_rfl) rfl (by rfl) (fun K hK => ?_)
  go_simp
  refine hK _ _ (.inl rfl) ?_
  try simp only [Act.put, List.setIfInBounds_toArray]
  clear hK K
  refine wpAnyM_one (i := 4) (by kernel_rfl) rfl (by rfl) (fun K hK => ?_)
  go_simp
  refine hK _ _ (.inl rfl) ?_
  try simp only [Act.put, List.setIfInBounds_toArray]
  clear hK K
  refine wpAnyM_done (by kernel_rfl) ?_ _
  go_wp2_with fail
  refine bodyPost_ret (v := .tuple #[.agg #[.int .i64 U, .int .i64 L, .int .i64 W, .slice A rs.length C], .int .i64 z]) (by simp [results, Try.results34, go_sem, c0, c1, c2, c3]) rfl ?_
  exact ⟨U, L, W, rs, A, C, z, rfl, hd, iz, HO.out, HL.out⟩
end Go.Proofs.Ytgfpjcckkbhdjaa
