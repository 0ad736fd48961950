/-
  Some abacus out of a source that is seldom not valid: spec.l03Bent; among.
-/
import Derived.Test.YtgfpjcckkbhdjaaDrawA
import Derived.Test.YtgfpjcckkbhdjaaToI
import Derived.Test.YtgfpjcckkbhdjaaAmong
namespace Go.Proofs.Ytgfpjcckkbhdjaa
open Go.RowKit

/-- What a bent abacus is: numbers of 64 bits, not too many rods. -/
structure BentD (U L W : Int) (rs : List (Int × Int)) : Prop where
  u : I64 U
  l : I64 L
  w : I64 W
  all : ∀ x ∈ rs, I64 x.1 ∧ I64 x.2
  n : rs.length ≤ 12
/-- A bent abacus in a box. -/
def AbaBnt (s K r B : Nat) (w wx : World) : Prop := ∃ (U L W : Int) (rs : List (Int × Int)) (A : Option Addr) (C : Nat), BentD U L W rs ∧ Bx wx B 56 #[.int .i64 U, .int .i64 L, .int .i64 W, .slice A rs.length C] ∧
  Bx wx r 56 #[.int .i64 0, .int .i64 0, .int .i64 0, .slice none 0 0] ∧ OwnF pairF 152 wx (r + 1) wx.heap.size (.slice A rs.length C) rs ∧ Src wx s K ∧ Touch s (s + 1) w wx

theorem FrmD.bent {U L W : Int} {rs : List (Int × Int)} (h : FrmD U L W) (hr : RodsD rs) (hn : rs.length ≤ 6) : BentD U L W rs :=
  ⟨mid64 (by have := h.u0; omega) (by have := h.u1; omega), mid64 (by have := h.l0; omega) (by have := h.l1; omega), mid64 (by have := h.w0; omega) (by have := h.w1; omega),
    fun x hx => by have := hr x hx; exact ⟨mid64 (by omega) (by omega), mid64 (by omega) (by omega)⟩, by omega⟩

set_option maxHeartbeats 8000000 in
theorem bentAba_any (s K : Nat) (w : World) (h : Src w s K) (hK : K ≤ 600000) :
    Calls Try.prog 125 #[.pointer (some ⟨s, 0, none⟩)] w fun e w' => ∃ (U L W : Int) (rs : List (Int × Int)) (A : Option Addr) (C : Nat), e = .returned (.agg #[.int .i64 U, .int .i64 L, .int .i64 W, .slice A (List.length rs) C]) ∧ BentD U L W rs ∧
      OwnF pairF 152 w' w.heap.size w'.heap.size (.slice A rs.length C) rs ∧ Touch s (s + 1) w w' ∧ Src w' s (K + 80) := by
  have hs := h.lt
  obtain ⟨r, hr⟩ : ∃ r, r = w.heap.size := ⟨_, rfl⟩
  obtain ⟨u, hu⟩ : ∃ u, u = w.alloc (.cells #[.int .i64 0, .int .i64 0, .int .i64 0, .slice none 0 0] 56) := ⟨_, rfl⟩
  have br : Bx u r 56 #[.int .i64 0, .int .i64 0, .int .i64 0, .slice none 0 0] := by rw [hu, hr]; exact Bx.new _ _ _
  have hbu : Below w.heap.size w u := by rw [hu]; exact (by repeat (first | exact Below.refl _ _ | refine Below.setCell ?_ (by first | omega | (simp <;> omega)) _ | refine Below.alloc ?_ (by first | omega | (simp <;> omega)) _ | refine Below.drew ?_))
  have hsu : u.heap.size = r + 1 := by rw [hu, hr]; simp
  have su : Src u s K := h.lo hbu hs
  have tu : Touch s (s + 1) w u := Below.touch hbu
  have HU := Lib.hid hu
  have HR := Lib.hid hr
  clear hu h hbu
  have hsr : s < r := by omega
  go_enter Try.func125, Try.ntmps125
  go_wp2_with fail
  rw [← HU.out, ← hr]
  clear hr
  refine (drawAba_any s K u su (by omega)).mono ?_
  rintro e w1 ⟨U, L, W, rs, A, C, rfl, hF, hrs, n1, n6, ow, ht1, hs1⟩
  have hl1 := ht1.size
  replace br := br.touch ht1 (by omega)
  replace tu := tu.trans ht1
  rw [hsu] at ow
  clear ht1 su
  go_wp2_with fail
  obtain ⟨B, hB⟩ : ∃ B, B = w1.heap.size := ⟨_, rfl⟩
  obtain ⟨v, hv⟩ : ∃ v, v = w1.alloc (.cells #[.int .i64 U, .int .i64 L, .int .i64 W, .slice A rs.length C] 56) := ⟨_, rfl⟩
  rw [← hv, ← hB]
  have hbv : Below w1.heap.size w1 v := by rw [hv]; exact (by repeat (first | exact Below.refl _ _ | refine Below.setCell ?_ (by first | omega | (simp <;> omega)) _ | refine Below.alloc ?_ (by first | omega | (simp <;> omega)) _ | refine Below.drew ?_))
  have bB : Bx v B 56 #[.int .i64 U, .int .i64 L, .int .i64 W, .slice A rs.length C] := by rw [hv, hB]; exact Bx.new _ _ _
  have hrB : r < B := by omega
  replace ow := ow.below hbv
  rw [← hB] at ow
  have sv := hs1.lo hbv (by omega)
  replace tu := tu.trans (Below.touch hbv)
  replace br := br.below hbv
  have hvz : v.heap.size = B + 1 := by rw [hv, hB]; simp
  have HB := Lib.hid hB
  clear hv hbv hs1 hB
  refine (pick_any s _ 24 v sv (by omega) (by omega)).mono ?_
  rintro e w2 ⟨z, rfl, z0, z1, hs2, ht2⟩
  have hl2 := ht2.size
  replace bB := bB.touch ht2 (by omega)
  replace br := br.touch ht2 (by omega)
  replace ow := ow.touch ht2 (.inr (by omega))
  replace tu := tu.trans ht2
  replace hs2 := hs2.mono (M := K + 62) (by omega)
  clear ht2 sv
  have hBz := bB.lt
  go_upto_block 0 with fail
  go_cut [3] from 8 to 50 (fun s3 wx => s3 = .pointer (some ⟨B, 0, none⟩) ∧ AbaBnt s (K + 80) r B w wx)
  case first =>
    have hD := hF.bent hrs n6
    by_cases h0 : z = 0
    · subst h0
      have hwz := br.lt
      go_wp2_with fail
      have hal : Below w2.heap.size w2 (w2.alloc (.cells ([-1, 0, 4, 5, 9223372036854775807].map (Value.int .i64)).toArray 2)) := (Below.refl _ _).alloc (Nat.le_refl _) _
      refine (among_any s _ w2.heap.size 5 [-1, 0, 4, 5, 9223372036854775807] _ (hs2.lo (L := w2.heap.size) hal (by omega)) (by omega) (rd_new w2 [-1, 0, 4, 5, 9223372036854775807] (by simp)) (by omega) (by simp) (by simp)).mono ?_
      rintro e w3 ⟨y, rfl, hy, hs3, ht3⟩
      have iy : I64 y := by
        unfold I64
        simp at hy
        rcases hy with rfl | rfl | rfl | rfl | rfl <;> decide
      have hl3 := hal.size
      have b3 := (bB.below hal).touch ht3 (by omega)
      have r3 := (br.below hal).touch ht3 (by omega)
      have o3 := (ow.below hal).touch ht3 (.inr (by omega))
      have t3 := (tu.trans (Below.touch hal)).trans ht3
      have tt : Touch B (B + 1) w3 (w3.setCell ⟨B, 0, none⟩ (.int .i64 y)) := (Touch.refl _ _ _).setCell (by simp) (by simp) _
      have b4 := b3.set_ 0 (.int .i64 y)
      have r4 := r3.touch tt (by omega)
      have o4 := (o3.touch tt (.inl (by omega))).wide (lo' := r + 1) (hi' := (w3.setCell ⟨B, 0, none⟩ (.int .i64 y)).heap.size) (by omega) (by have := b3.lt; simp; omega)
      have t4 := t3.then_ tt (by have := HR.out; omega)
      have s4 := (hs3.touch tt (by omega)).mono (M := K + 80) (by omega)
      have c3 := b3.at_ 0 rfl
      have f3 := b3.thaw 0
      clear tt ht3 hal hy bB br ow tu hs2 hs3
      go_wp2_with fail
      go_meet
      case rel => exact ⟨rfl, y, L, W, rs, A, C, ⟨iy, hD.l, hD.w, hD.all, hD.n⟩, b4, r4, o4, s4, t4⟩
    have h0b : (z == 0) = false := beq_eq_false_iff_ne.2 h0
    by_cases h1 : z = 1
    · subst h1
      have hwz := br.lt
      go_wp2_with fail
      have hal : Below w2.heap.size w2 (w2.alloc (.cells ([0, 1, 12, 13, -9223372036854775808].map (Value.int .i64)).toArray 2)) := (Below.refl _ _).alloc (Nat.le_refl _) _
      refine (among_any s _ w2.heap.size 5 [0, 1, 12, 13, -9223372036854775808] _ (hs2.lo (L := w2.heap.size) hal (by omega)) (by omega) (rd_new w2 [0, 1, 12, 13, -9223372036854775808] (by simp)) (by omega) (by simp) (by simp)).mono ?_
      rintro e w3 ⟨y, rfl, hy, hs3, ht3⟩
      have iy : I64 y := by
        unfold I64
        simp at hy
        rcases hy with rfl | rfl | rfl | rfl | rfl <;> decide
      have hl3 := hal.size
      have b3 := (bB.below hal).touch ht3 (by omega)
      have r3 := (br.below hal).touch ht3 (by omega)
      have o3 := (ow.below hal).touch ht3 (.inr (by omega))
      have t3 := (tu.trans (Below.touch hal)).trans ht3
      have tt : Touch B (B + 1) w3 (w3.setCell ⟨B, 1, none⟩ (.int .i64 y)) := (Touch.refl _ _ _).setCell (by simp) (by simp) _
      have b4 := b3.set_ 1 (.int .i64 y)
      have r4 := r3.touch tt (by omega)
      have o4 := (o3.touch tt (.inl (by omega))).wide (lo' := r + 1) (hi' := (w3.setCell ⟨B, 1, none⟩ (.int .i64 y)).heap.size) (by omega) (by have := b3.lt; simp; omega)
      have t4 := t3.then_ tt (by have := HR.out; omega)
      have s4 := (hs3.touch tt (by omega)).mono (M := K + 80) (by omega)
      have c3 := b3.at_ 1 rfl
      have f3 := b3.thaw 1
      clear tt ht3 hal hy bB br ow tu hs2 hs3
      go_wp2_with fail
      go_meet
      case rel => exact ⟨rfl, U, y, W, rs, A, C, ⟨hD.u, iy, hD.w, hD.all, hD.n⟩, b4, r4, o4, s4, t4⟩
    have h1b : (z == 1) = false := beq_eq_false_iff_ne.2 h1
    by_cases h2 : z = 2
    · subst h2
      have hwz := br.lt
      go_wp2_with fail
      have hal : Below w2.heap.size w2 (w2.alloc (.cells ([0, 1, 10, 11, -9223372036854775808].map (Value.int .i64)).toArray 2)) := (Below.refl _ _).alloc (Nat.le_refl _) _
      refine (among_any s _ w2.heap.size 5 [0, 1, 10, 11, -9223372036854775808] _ (hs2.lo (L := w2.heap.size) hal (by omega)) (by omega) (rd_new w2 [0, 1, 10, 11, -9223372036854775808] (by simp)) (by omega) (by simp) (by simp)).mono ?_
      rintro e w3 ⟨y, rfl, hy, hs3, ht3⟩
      have iy : I64 y := by
        unfold I64
        simp at hy
        rcases hy with rfl | rfl | rfl | rfl | rfl <;> decide
      have hl3 := hal.size
      have b3 := (bB.below hal).touch ht3 (by omega)
      have r3 := (br.below hal).touch ht3 (by omega)
      have o3 := (ow.below hal).touch ht3 (.inr (by omega))
      have t3 := (tu.trans (Below.touch hal)).trans ht3
      have tt : Touch B (B + 1) w3 (w3.setCell ⟨B, 2, none⟩ (.int .i64 y)) := (Touch.refl _ _ _).setCell (by simp) (by simp) _
      have b4 := b3.set_ 2 (.int .i64 y)
      have r4 := r3.touch tt (by omega)
      have o4 := (o3.touch tt (.inl (by omega))).wide (lo' := r + 1) (hi' := (w3.setCell ⟨B, 2, none⟩ (.int .i64 y)).heap.size) (by omega) (by have := b3.lt; simp; omega)
      have t4 := t3.then_ tt (by have := HR.out; omega)
      have s4 := (hs3.touch tt (by omega)).mono (M := K + 80) (by omega)
      have c3 := b3.at_ 2 rfl
      have f3 := b3.thaw 2
      clear tt ht3 hal hy bB br ow tu hs2 hs3
      go_wp2_with fail
      go_meet
      case rel => exact ⟨rfl, U, L, y, rs, A, C, ⟨hD.u, hD.l, iy, hD.all, hD.n⟩, b4, r4, o4, s4, t4⟩
    have h2b : (z == 2) = false := beq_eq_false_iff_ne.2 h2
    by_cases h3 : z = 3
    · subst h3
      have hwr := br.lt
      obtain ⟨g, rfl, hg1, hg2, hg3⟩ := ow.head (by omega)
      have k1 := kept_lo (L := w2.heap.size) (bB.at_ 1 rfl) hBz
      have k3 := kept_lo (L := w2.heap.size) (bB.at_ 3 rfl) hBz
      have v1 : IntKind.i64.wrap (L + 1) = L + 1 := fits_int _ (by have := hF.l0; omega) (by have := hF.l1; omega)
      go_upto_region 10 with fail
      refine wp_region_marked (fun w' => Touch s (s + 1) w2 w') 12 (by kernel_rfl) ?_
      have hS : Touch s (s + 1) w2 w2.drew := ⟨rfl, rfl, rfl, Nat.le_refl _, fun _ _ _ => rfl⟩
      clear k1 k3
      have k1 : ∀ w', Touch s (s + 1) w2 w' → w'.cell? ⟨B, 1, none⟩ = some (.int .i64 L) := fun _ h => keptT h (bB.at_ 1 rfl) (by omega)
      have k3 : ∀ w', Touch s (s + 1) w2 w' → w'.cell? ⟨B, 3, none⟩ = some (.slice (some ⟨g, 0, none⟩) rs.length C) := fun _ h => keptT h (bB.at_ 3 rfl) (by omega)
      refine wpAnyM_take (i := 0) (v := ?_) rfl (by kernel_rfl) (by kernel_rfl) (by kernel_rfl) (by kernel_rfl) (by kernel_rfl) (fun _ _ _ h => h) hS (.inl ⟨by rfl, ?_⟩) ?_
      rotate_left 1
      · intro w' hS'; go_simp; try with_reducible rfl
      simp only [Act.put, List.setIfInBounds_toArray]
      refine wpAnyM_take (i := 1) (v := ?_) rfl (by kernel_rfl) (by kernel_rfl) (by kernel_rfl) (by kernel_rfl) (by kernel_rfl) (fun _ _ _ h => h) hS (.inl ⟨by rfl, ?_⟩) ?_
      rotate_left 1
      · intro w' hS'; go_simp; try with_reducible rfl
      simp only [Act.put]
      refine wpAnyM_take (i := 2) (v := ?_) rfl (by kernel_rfl) (by kernel_rfl) (by kernel_rfl) (by kernel_rfl) (by kernel_rfl) (fun _ _ _ h => h) hS (.inl ⟨by rfl, ?_⟩) ?_
      rotate_left 1
      · intro w' hS'; go_simp; try with_reducible rfl
      simp only [Act.put]
      refine wpAnyM_take (i := 3) (v := ?_) rfl (by kernel_rfl) (by kernel_rfl) (by kernel_rfl) (by kernel_rfl) (by kernel_rfl) (fun _ _ _ h => h) hS (.inl ⟨by rfl, ?_⟩) ?_
      rotate_left 1
      · intro w' hS'; go_simp; try with_reducible rfl
      simp only [Act.put]
      refine wpAnyM_take (i := 4) (v := ?_) rfl (by kernel_rfl) (by kernel_rfl) (by kernel_rfl) (by kernel_rfl) (by kernel_rfl) (fun _ _ _ h => h) hS (.inl ⟨by rfl, ?_⟩) ?_
      rotate_left 1
      · intro w' hS'; go_simp; try with_reducible rfl
      simp only [Act.put]
      refine wpAnyM_take (i := 5) (v := ?_) rfl (by kernel_rfl) (by kernel_rfl) (by kernel_rfl) (by kernel_rfl) (by kernel_rfl) (fun _ _ _ h => h) hS (.inl ⟨by rfl, ?_⟩) ?_
      rotate_left 1
      · intro w' hS'; go_simp; try with_reducible rfl
      simp only [Act.put]
      refine wpAnyM_take (i := 6) (v := ?_) rfl (by kernel_rfl) (by kernel_rfl) (by kernel_rfl) (by kernel_rfl) (by kernel_rfl) (fun _ _ _ h => h) hS (.inl ⟨by rfl, ?_⟩) ?_
      rotate_left 1
      · intro w' hS'; go_simp; try with_reducible rfl
      simp only [Act.put]
      refine wpAnyM_take (i := 7) (v := ?_) rfl (by kernel_rfl) (by kernel_rfl) (by kernel_rfl) (by kernel_rfl) (by kernel_rfl) (fun _ _ _ h => h) hS (.inl ⟨by rfl, ?_⟩) ?_
      rotate_left 1
      · intro w' hS'; go_simp; try with_reducible rfl
      simp only [Act.put]
      clear k1 k3
      refine wpAnyM_one (i := 8) (by kernel_rfl) rfl (by rfl) (fun K hK => ?_)
      go_simp
      have hal : Below w2.drew.heap.size w2.drew (w2.drew.alloc (.cells ([-1, L, L + 1].map (Value.int .i64)).toArray 2)) := (Below.refl _ _).alloc (Nat.le_refl _) _
      have hdz : w2.drew.heap.size = w2.heap.size := rfl
      replace hS := hS.trans (Below.touch hal)
      refine hK _ _ (.inr hS) ?_
      try simp only [Act.put, List.setIfInBounds_toArray]
      clear hK K
      refine wpAnyM_one (i := 9) (by kernel_rfl) rfl (by rfl) (fun K hK => ?_)
      go_simp
      refine (among_any s _ w2.heap.size 3 [-1, L, L + 1] _ (hs2.lo (L := w2.heap.size) ((Below.refl w2.heap.size w2).drew.alloc (Nat.le_refl _) _) (by omega)) (by omega) (rd_new w2.drew [-1, L, L + 1] (by simp)) (by omega) (by simp) (by simp)).mono ?_
      rintro e w3 ⟨y, rfl, hy, hs3, ht3⟩
      have iy : I64 y := by
        have e1 := hF.l0
        have e2 := hF.l1
        simp only [List.mem_cons, List.not_mem_nil, or_false] at hy
        exact mid64 (by omega) (by omega)
      replace hS := hS.trans ht3
      refine hK _ _ (.inr hS) ?_
      try simp only [Act.put, List.setIfInBounds_toArray]
      clear hK K ht3
      have hw3 := hS.size
      have b3 := bB.touch hS (by omega)
      have r3 := br.touch hS (by omega)
      have o3 := ow.touch hS (.inr (by omega))
      have t3 := tu.trans hS
      have hn0 : 0 < rs.length := by omega
      obtain ⟨q0, q1⟩ := o3.get2 (k := 0) hn0
      have f1 := o3.thaw 1
      have HP := Lib.hid (o3.put21 (k := 0) (by omega) y)
      have c3 := b3.at_ 3 rfl
      refine wpAnyM_one (i := 10) (by kernel_rfl) rfl (by rfl) (fun K hK => ?_)
      go_simp
      refine hK _ _ (.inr hS) ?_
      try simp only [Act.put, List.setIfInBounds_toArray]
      clear hK K
      refine wpAnyM_take (i := 11) (v := ?_) rfl (by kernel_rfl) (by kernel_rfl) (by kernel_rfl) (by kernel_rfl) (by kernel_rfl) (fun _ _ _ h => h) hS (.inl ⟨by rfl, ?_⟩) ?_
      rotate_left 1
      · intro w' hS'; go_simp; try with_reducible rfl
      simp only [Act.put, List.setIfInBounds_toArray]
      refine wpAnyM_one (i := 12) (by kernel_rfl) rfl (by rfl) (fun K hK => ?_)
      go_simp
      refine hK _ _ (.inl rfl) ?_
      clear hK K
      refine wpAnyM_done (by kernel_rfl) ?_ _
      obtain ⟨w9, hw9⟩ : ∃ v, v = w3.setCell ⟨g, 1, none⟩ (.int .i64 y) := ⟨_, rfl⟩
      have HW := Lib.hid hw9
      have hz9 : w9.heap.size = w3.heap.size := by rw [hw9]; simp
      have tt : Touch g (g + 1) w3 w9 := by rw [hw9]; exact (Touch.refl _ _ _).setCell (by simp) (by simp) _
      have o9 := HP.out
      rw [show (⟨g, 0 * 2 + 1, none⟩ : Addr) = ⟨g, 1, none⟩ from rfl, ← hw9] at o9
      obtain ⟨rs', hrs'⟩ : ∃ rs', rs' = rs.set 0 ((elt pairF rs 0).1, y) := ⟨_, rfl⟩
      have hn' : rs'.length = rs.length := by rw [hrs']; simp
      rw [← hrs'] at o9
      have HE : Hid (BentD U L W rs') := Lib.hid ⟨hD.u, hD.l, hD.w, fun x hx => by
        rw [hrs'] at hx
        rcases List.mem_or_eq_of_mem_set hx with hx | rfl
        · exact hD.all x hx
        · refine ⟨(hD.all (elt pairF rs 0) ?_).1, iy⟩
          rw [elt, List.getElem?_eq_getElem hn0]; exact List.getElem_mem hn0, by rw [hn']; omega⟩
      have o10 : OwnF pairF 152 w9 (r + 1) w9.heap.size (.slice (some ⟨g, 0, none⟩) rs'.length C) rs' := by rw [hn']; exact o9.wide (Nat.le_refl _) (by omega)
      have b9 : Bx w9 B 56 #[.int .i64 U, .int .i64 L, .int .i64 W, .slice (some ⟨g, 0, none⟩) rs'.length C] := by rw [hn']; exact b3.touch tt (.inr (by omega))
      have r9 := r3.touch tt (.inl (by omega))
      have t9 := t3.then_ tt (by have := HR.out; omega)
      have s9 := (hs3.touch tt (by omega)).mono (M := K + 80) (by omega)
      rw [← hw9]
      clear hw9 HP tt o9 o3 b3 r3 t3 hs3 bB br ow tu hs2 q0 q1 f1 c3 hrs' hn'
      go_wp2_with fail
      go_meet
      case rel => exact ⟨rfl, U, L, W, rs', _, C, HE.out, b9, r9, o10, s9, t9⟩
    have h3b : (z == 3) = false := beq_eq_false_iff_ne.2 h3
    by_cases h4 : z = 4
    · subst h4
      have hwr := br.lt
      go_wp2_with fail
      refine (pick_any s _ 2 w2 hs2 (by omega) (by omega)).mono ?_
      rintro e w3 ⟨y, rfl, y0, y1, hs3, ht3⟩
      have hl3 := ht3.size
      have v1 : IntKind.i64.wrap (10 + y) = 10 + y := fits_int _ (by omega) (by omega)
      obtain ⟨N, hN⟩ : ∃ N : Nat, 10 + y = (N : Int) := ⟨(10 + y).toNat, by omega⟩
      have hN1 : N ≤ 12 := by omega
      rw [hN] at v1
      have b3 := bB.touch ht3 (by omega)
      have r3 := br.touch ht3 (by omega)
      have t3 := tu.trans ht3
      have HN := Lib.hid hN
      clear ht3 bB br ow tu hs2 hN
      go_wp2_with (at_make; go_must (refine wpList_makeF pairF rfl _ _ _ 152 rfl Try.underlying54 _ 16 info_Rod rfl (by omega) N (by simp [go_sem, HN.out]) (by simp [go_sem, HN.out]) (by omega) ?_); intro w4 on hb4; have b4 := b3.below hb4; have c3 := b4.at_ 3 rfl; have f3 := b4.thaw 3)
      have hl4 := hb4.size
      have r4 := r3.below hb4
      have tt : Touch B (B + 1) w4 (w4.setCell ⟨B, 3, none⟩ (.slice (some ⟨w3.heap.size, 0, none⟩) N N)) := (Touch.refl _ _ _).setCell (by simp) (by simp) _
      have b5 := b4.set_ 3 (.slice (some ⟨w3.heap.size, 0, none⟩) N N)
      have r5 := r4.touch tt (by omega)
      have o5 := (on.touch tt (.inr (by omega))).wide (lo' := r + 1) (hi' := (w4.setCell ⟨B, 3, none⟩ (.slice (some ⟨w3.heap.size, 0, none⟩) N N)).heap.size) (by omega) (by simp)
      have t5 := (t3.trans (Below.touch hb4)).then_ tt (by have := HR.out; omega)
      have s5 := ((hs3.lo (L := w3.heap.size) hb4 (by omega)).touch tt (by omega)).mono (M := K + 80) (by omega)
      have hpl : (padF pairF N []).length = N := padF_len (by simp)
      have HE : Hid (BentD U L W (padF pairF N [])) := Lib.hid ⟨hD.u, hD.l, hD.w, fun x hx => by
        have hx2 : x ∈ List.replicate N pairF.zero := by simpa only [padF, List.nil_append, List.length_nil, Nat.sub_zero] using hx
        have hx3 := (List.mem_replicate.1 hx2).2
        subst hx3; exact ⟨show I64 0 from mid64 (by omega) (by omega), show I64 0 from mid64 (by omega) (by omega)⟩, by rw [hpl]; exact hN1⟩
      have b6 : Bx (w4.setCell ⟨B, 3, none⟩ (.slice (some ⟨w3.heap.size, 0, none⟩) N N)) B 56 #[.int .i64 U, .int .i64 L, .int .i64 W, .slice (some ⟨w3.heap.size, 0, none⟩) (padF pairF N []).length N] := by rw [hpl]; exact b5
      have o6 : OwnF pairF 152 (w4.setCell ⟨B, 3, none⟩ (.slice (some ⟨w3.heap.size, 0, none⟩) N N)) (r + 1) (w4.setCell ⟨B, 3, none⟩ (.slice (some ⟨w3.heap.size, 0, none⟩) N N)).heap.size (.slice (some ⟨w3.heap.size, 0, none⟩) (padF pairF N []).length N) (padF pairF N []) := by rw [hpl]; exact o5
      clear tt b4 b5 r3 r4 t3 hs3 on o5 b3
      go_meet
      case rel => exact ⟨rfl, U, L, W, _, _, N, HE.out, b6, r5, o6, s5, t5⟩
    have h4b : (z == 4) = false := beq_eq_false_iff_ne.2 h4
    by_cases h5 : z = 5
    · subst h5
      have hwr := br.lt
      have tt : Touch B (B + 1) w2 (w2.setCell ⟨B, 3, none⟩ (.slice (some ⟨w2.heap.size, 0, none⟩) 0 0)) := (Touch.refl _ _ _).setCell (by simp) (by simp) _
      have hz3 : (w2.setCell ⟨B, 3, none⟩ (.slice (some ⟨w2.heap.size, 0, none⟩) 0 0)).heap.size = w2.heap.size := by simp
      have on := ownF_row (F := pairF) (xs := []) (n := 0) (row_new 152 2 (w2.setCell ⟨B, 3, none⟩ (.slice (some ⟨w2.heap.size, 0, none⟩) 0 0)) #[] 0 (by simp) (by omega)) rfl (by simp)
      rw [hz3] at on
      have b4 := (bB.set_ 3 (.slice (some ⟨w2.heap.size, 0, none⟩) 0 0)).alloc (.cells #[] 152)
      have r4 := (br.touch tt (by omega)).alloc (.cells #[] 152)
      have t4 := (tu.then_ tt (by have := HR.out; omega)).alloc (.cells #[] 152)
      have s4 := (((hs2.touch tt (by omega)).lo (L := B + 1) (Below.alloc (Below.refl _ _) (by simp; omega) (.cells #[] 152)) (by omega))).mono (M := K + 80) (by omega)
      have o4 := on.wide (lo' := r + 1) (hi' := ((w2.setCell ⟨B, 3, none⟩ (.slice (some ⟨w2.heap.size, 0, none⟩) 0 0)).alloc (.cells #[] 152)).heap.size) (by omega) (by simp)
      have c3 := bB.at_ 3 rfl
      have f3 := bB.thaw 3
      clear tt bB br ow tu hs2
      go_wp2_with fail
      go_meet
      case rel => exact ⟨rfl, U, L, W, [], _, 0, ⟨hD.u, hD.l, hD.w, (fun _ hx => by cases hx), by simp⟩, b4, r4, o4, s4, t4⟩
    have h5b : (z == 5) = false := beq_eq_false_iff_ne.2 h5
    go_wp2_with fail
    go_meet
    case rel => exact ⟨rfl, U, L, W, rs, A, C, hD, bB, br, ow.wide (Nat.le_refl _) (by omega), hs2.mono (by omega), tu⟩
  case rest =>
    clear bB br ow hrs hs2 tu
    obtain ⟨rfl, U, L, W, rs, A, C, hF, bB, br, ow, hs5, tu⟩ := hcut
    obtain ⟨w5, rfl⟩ : ∃ v, v = wc := ⟨_, rfl⟩
    have d0 := bB.at_ 0 rfl
    have d1 := bB.at_ 1 rfl
    have d2 := bB.at_ 2 rfl
    have d3 := bB.at_ 3 rfl
    have c0 := br.at_ 0 rfl
    have c1 := br.at_ 1 rfl
    have c2 := br.at_ 2 rfl
    have c3 := br.at_ 3 rfl
    have f0 := br.thaw 0
    have f1 := br.thaw 1
    have f2 := br.thaw 2
    have f3 := br.thaw 3
    have hrl := br.lt
    have tt : Touch r (r + 1) w5 ((((w5.setCell ⟨r, 0, none⟩ (.int .i64 U)).setCell ⟨r, 1, none⟩ (.int .i64 L)).setCell ⟨r, 2, none⟩ (.int .i64 W)).setCell ⟨r, 3, none⟩ (.slice A rs.length C)) :=
      ((((Touch.refl _ _ _).setCell (by simp) (by simp) _).setCell (by simp) (by simp) _).setCell (by simp) (by simp) _).setCell (by simp) (by simp) _
    have HO := Lib.hid ((ow.touch tt (.inr (by omega))).wide (lo' := w.heap.size) (hi' := ((((w5.setCell ⟨r, 0, none⟩ (.int .i64 U)).setCell ⟨r, 1, none⟩ (.int .i64 L)).setCell ⟨r, 2, none⟩ (.int .i64 W)).setCell ⟨r, 3, none⟩ (.slice A rs.length C)).heap.size) (by have := HR.out; omega) (by simp))
    have HT := Lib.hid (tu.then_ tt (by have := HR.out; omega))
    have HS := Lib.hid (hs5.touch tt (by omega))
    clear tt ow tu hs5
    go_wp2_with fail
    refine bodyPost_ret (v := .agg #[.int .i64 U, .int .i64 L, .int .i64 W, .slice A rs.length C]) (by simp [results, Try.results125, go_sem, c0, c1, c2, c3]) rfl ?_
    exact ⟨U, L, W, rs, A, C, rfl, hF, HO.out, HT.out, HS.out⟩
end Go.Proofs.Ytgfpjcckkbhdjaa
