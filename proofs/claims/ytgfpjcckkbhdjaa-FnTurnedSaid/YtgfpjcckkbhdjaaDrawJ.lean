/-
  Some register out of a source that is seldom not valid: spec.l02Bent.
-/
import Derived.Test.YtgfpjcckkbhdjaaDrawR
import Derived.Test.YtgfpjcckkbhdjaaAmong
namespace Go.Proofs.Ytgfpjcckkbhdjaa
open Go.RowKit

/-- A bent register: numbers of 64 bits, not too many. -/
def BentR (b : Int) (ds : List Int) : Prop := I64 b ∧ All64 ds ∧ ds.length ≤ 17
/-- A bent register in a box. -/
def RgBnt (s N r B : Nat) (w wx : World) : Prop := ∃ (b : Int) (ds : List Int) (A : Option Addr) (C : Nat), BentR b ds ∧ Bx wx B 26 #[.int .i64 b, .slice A ds.length C] ∧ Bx wx r 26 #[.int .i64 0, .slice none 0 0] ∧
  Own 2 wx (r + 1) wx.heap.size (.slice A ds.length C) ds ∧ Src wx s N ∧ Touch s (s + 1) w wx
theorem own_head {t : TypeId} {w : World} {lo hi n c : Nat} {A : Option Addr} {zs : List Int} (h : Own t w lo hi (.slice A n c) zs) (hn : 0 < zs.length) : ∃ p, A = some ⟨p, 0, none⟩ ∧ lo ≤ p ∧ p < hi := by
  rcases h.row.2 with ⟨hv, h0⟩ | ⟨g, cap, cur, hv, hg, _⟩
  · omega
  · injection hv with hA _ _
    exact ⟨g, hA, hg, h.top g (by rw [hA]; rfl)⟩
theorem rd_touch {w w' : World} {g lo hi : Nat} {zs : List Int} (h : Rd w (some ⟨g, 0, none⟩) zs) (ht : Touch lo hi w w') (hd : g < lo ∨ hi ≤ g) : Rd w' (some ⟨g, 0, none⟩) zs := by
  refine ⟨h.len, fun hne => ⟨g, 0, rfl, fun i hi => ?_⟩⟩
  obtain ⟨b, off, e, hc⟩ := h.cells hne
  injection e with e
  injection e with e1 e2 _
  subst e1 e2
  exact keptT ht (hc i hi) hd

set_option maxRecDepth 100000 in
set_option maxHeartbeats 8000000 in
theorem bentReg_any (s N : Nat) (w : World) (h : Src w s N) (hN : N ≤ 600000) :
    Calls Try.prog 161 #[.pointer (some ⟨s, 0, none⟩)] w fun e w' => ∃ (b : Int) (ds : List Int) (A : Option Addr) (C : Nat), e = .returned (.agg #[.int .i64 b, .slice A (List.length ds) C]) ∧ BentR b ds ∧
      Own 2 w' w.heap.size w'.heap.size (.slice A ds.length C) ds ∧ Touch s (s + 1) w w' ∧ Src w' s (N + 200) := by
  have hs := h.lt
  obtain ⟨r, hr⟩ : ∃ r, r = w.heap.size := ⟨_, rfl⟩
  obtain ⟨u, hu⟩ : ∃ u, u = w.alloc (.cells #[.int .i64 0, .slice none 0 0] 26) := ⟨_, rfl⟩
  have br : Bx u r 26 #[.int .i64 0, .slice none 0 0] := by rw [hu, hr]; exact Bx.new _ _ _
  have hbu : Below w.heap.size w u := by rw [hu]; exact (by repeat (first | exact Below.refl _ _ | refine Below.setCell ?_ (by first | omega | (simp <;> omega)) _ | refine Below.alloc ?_ (by first | omega | (simp <;> omega)) _ | refine Below.drew ?_))
  have hsu : u.heap.size = r + 1 := by rw [hu, hr]; simp
  have su : Src u s N := h.lo hbu hs
  have tu : Touch s (s + 1) w u := Below.touch hbu
  have HU := Lib.hid hu
  have HR := Lib.hid hr
  clear hu h hbu
  have hsr : s < r := by omega
  go_enter Try.func161, Try.ntmps161
  go_wp2_with fail
  rw [← HU.out, ← hr]
  clear hr
  refine (draw02_any s N 6 u su (by omega) (by omega) (by omega)).mono ?_
  rintro e w1 ⟨b, ds, A, C, rfl, hdd, ow, ht1, hs1⟩
  have hl1 := ht1.size
  replace br := br.touch ht1 (by omega)
  replace tu := tu.trans ht1
  rw [hsu] at ow
  clear ht1 su
  go_wp2_with fail
  obtain ⟨B, hB⟩ : ∃ B, B = w1.heap.size := ⟨_, rfl⟩
  obtain ⟨v, hv⟩ : ∃ v, v = w1.alloc (.cells #[.int .i64 b, .slice A ds.length C] 26) := ⟨_, rfl⟩
  rw [← hv, ← hB]
  have hbv : Below w1.heap.size w1 v := by rw [hv]; exact (Below.refl _ _).alloc (Nat.le_refl _) _
  have bB : Bx v B 26 #[.int .i64 b, .slice A ds.length C] := by rw [hv, hB]; exact Bx.new _ _ _
  have hrB : r < B := by rw [hB]; exact br.lt
  replace br := br.below hbv
  replace tu := tu.trans (Below.touch hbv)
  have hsx := hs1.lo hbv (by omega)
  replace ow := ow.below hbv
  rw [← hB] at ow
  clear hv hbv hs1 hB
  refine (pick_any s _ 20 v hsx (by omega) (by omega)).mono ?_
  rintro e w2 ⟨z, rfl, z0, z1, hs2, ht2⟩
  have hl2 := ht2.size
  replace bB := bB.touch ht2 (by omega)
  replace br := br.touch ht2 (by omega)
  replace ow := ow.touch ht2 (.inr (by omega))
  replace tu := tu.trans ht2
  replace hsx := hs2.mono (M := N + 60) (by omega)
  have hD : Hid (BentR b ds) := Lib.hid ⟨mid64 (by have := hdd.b0; omega) (by have := hdd.b1; omega), fun x hx => by have := hdd.digs x hx; have := hdd.b1; exact mid64 (by omega) (by omega), by have := hdd.n1; omega⟩
  have b0 := hdd.b0
  have b1 := hdd.b1
  have hn1 : 0 < ds.length := hdd.n0
  have hn6 := hdd.n1
  clear ht2 hs2 hdd hsu
  have hBz := bB.lt
  go_upto_block 0 with fail
  go_cut [3] from 8 to 54 (fun s3 wx => s3 = .pointer (some ⟨B, 0, none⟩) ∧ RgBnt s (N + 200) r B w wx)
  case first =>
    by_cases h0 : z = 0
    · subst h0
      go_wp2_with fail
      have hal : Below w2.heap.size w2 (w2.alloc (.cells ([1, 2, 16, 17, -9223372036854775808].map (Value.int .i64)).toArray 2)) := (Below.refl _ _).alloc (Nat.le_refl _) _
      refine (among_any s _ w2.heap.size 5 [1, 2, 16, 17, -9223372036854775808] _ (hsx.lo (L := w2.heap.size) hal (by omega)) (by omega) (by have := rd_new w2 [1, 2, 16, 17, -9223372036854775808] (by simp); exact this) (by omega) (by simp) (by simp)).mono ?_
      rintro e w3 ⟨y, rfl, hy, hs3, ht3⟩
      have iy : I64 y := by
        simp at hy
        rcases hy with rfl | rfl | rfl | rfl | rfl
        all_goals first | exact mid64 (by omega) (by omega) | (unfold I64; decide)
      have hl3 := hal.size
      have b3 := (bB.below hal).touch ht3 (by omega)
      have r3 := (br.below hal).touch ht3 (by omega)
      have o3 := (ow.below hal).touch ht3 (.inr (by omega))
      have t3 := (tu.trans (Below.touch hal)).trans ht3
      have tt : Touch B (B + 1) w3 (w3.setCell ⟨B, 0, none⟩ (.int .i64 y)) := (Touch.refl _ _ _).setCell (by simp) (by simp) _
      have b4 := b3.set_ 0 (.int .i64 y)
      have r4 := r3.touch tt (by omega)
      have o4 := (o3.touch tt (.inl (by omega))).wide (lo' := r + 1) (hi' := (w3.setCell ⟨B, 0, none⟩ (.int .i64 y)).heap.size) (by omega) (by have := b3.lt; simp; omega)
      have t4 := t3.then_ tt (by have := HR.out; omega)
      have s4 := (hs3.touch tt (by omega)).mono (M := N + 200) (by omega)
      have c3 := b3.at_ 0 rfl
      have f3 := b3.thaw 0
      clear tt ht3 hal hy bB br ow tu hsx
      go_wp2_with fail
      go_meet
      case rel => exact ⟨rfl, y, ds, A, C, ⟨iy, hD.out.2.1, hD.out.2.2⟩, b4, r4, o4, s4, t4⟩
    have h0b : (z == 0) = false := beq_eq_false_iff_ne.2 h0
    by_cases h1 : z = 1
    · subst h1
      obtain ⟨p, rfl, hp1, hp2⟩ := own_head ow hn1
      have g0 : ∀ w', Bx w' B 26 #[.int .i64 b, .slice (some ⟨p, 0, none⟩) ds.length C] → w'.cell? ⟨B, 0, none⟩ = some (.int .i64 b) := fun w' h => h.at_ 0 rfl
      have g1 : ∀ w', Bx w' B 26 #[.int .i64 b, .slice (some ⟨p, 0, none⟩) ds.length C] → w'.cell? ⟨B, 1, none⟩ = some (.slice (some ⟨p, 0, none⟩) ds.length C) := fun w' h => h.at_ 1 rfl
      have v1 : IntKind.i64.wrap (b - 1) = b - 1 := fits_int _ (by omega) (by omega)
      go_wp2_with fail
      refine wp_region_marked (fun w' => Bx w' B 26 #[.int .i64 b, .slice (some ⟨p, 0, none⟩) ds.length C]) 16 (by kernel_rfl) ?_
      have hS : Bx w2.drew B 26 #[.int .i64 b, .slice (some ⟨p, 0, none⟩) ds.length C] := bB.drew
      refine wpAnyM_take (i := 0) (v := ?_) rfl (by kernel_rfl) (by kernel_rfl) (by kernel_rfl) (by kernel_rfl) (by kernel_rfl) (fun _ _ _ h => h) hS (.inl ⟨by rfl, ?_⟩) ?_
      rotate_left 1
      · intro w' hS'; go_simp; try with_reducible rfl
      simp only [Act.put, List.setIfInBounds_toArray]
      refine wpAnyM_take (i := 1) (v := ?_) rfl (by kernel_rfl) (by kernel_rfl) (by kernel_rfl) (by kernel_rfl) (by kernel_rfl) (fun _ _ _ h => h) hS (.inl ⟨by rfl, ?_⟩) ?_
      rotate_left 1
      · intro w' hS'; go_simp; try with_reducible rfl
      simp only [Act.put]
      refine wpAnyM_take (i := 2) (v := ?_) rfl (by kernel_rfl) (by kernel_rfl) (by kernel_rfl) (by kernel_rfl) (by kernel_rfl) (fun _ _ _ h => h) hS (.inl ⟨by rfl, ?_⟩) ?_
      rotate_left 1
      · intro w' hS'; go_simp; try with_reducible rfl
      simp only [Act.put]
      refine wpAnyM_take (i := 3) (v := ?_) rfl (by kernel_rfl) (by kernel_rfl) (by kernel_rfl) (by kernel_rfl) (by kernel_rfl) (fun _ _ _ h => h) hS (.inl ⟨by rfl, ?_⟩) ?_
      rotate_left 1
      · intro w' hS'; go_simp; try with_reducible rfl
      simp only [Act.put]
      refine wpAnyM_take (i := 4) (v := ?_) rfl (by kernel_rfl) (by kernel_rfl) (by kernel_rfl) (by kernel_rfl) (by kernel_rfl) (fun _ _ _ h => h) hS (.inl ⟨by rfl, ?_⟩) ?_
      rotate_left 1
      · intro w' hS'; go_simp; try with_reducible rfl
      simp only [Act.put]
      refine wpAnyM_take (i := 5) (v := ?_) rfl (by kernel_rfl) (by kernel_rfl) (by kernel_rfl) (by kernel_rfl) (by kernel_rfl) (fun _ _ _ h => h) hS (.inl ⟨by rfl, ?_⟩) ?_
      rotate_left 1
      · intro w' hS'; go_simp; try with_reducible rfl
      simp only [Act.put]
      refine wpAnyM_take (i := 7) (v := ?_) rfl (by kernel_rfl) (by kernel_rfl) (by kernel_rfl) (by kernel_rfl) (by kernel_rfl) (fun _ _ _ h => h) hS (.inl ⟨by rfl, ?_⟩) ?_
      rotate_left 1
      · intro w' hS'; go_simp; try with_reducible rfl
      simp only [Act.put]
      refine wpAnyM_take (i := 8) (v := ?_) rfl (by kernel_rfl) (by kernel_rfl) (by kernel_rfl) (by kernel_rfl) (by kernel_rfl) (fun _ _ _ h => h) hS (.inl ⟨by rfl, ?_⟩) ?_
      rotate_left 1
      · intro w' hS'; go_simp; try with_reducible rfl
      simp only [Act.put]
      refine wpAnyM_take (i := 9) (v := ?_) rfl (by kernel_rfl) (by kernel_rfl) (by kernel_rfl) (by kernel_rfl) (by kernel_rfl) (fun _ _ _ h => h) hS (.inl ⟨by rfl, ?_⟩) ?_
      rotate_left 1
      · intro w' hS'; go_simp; try with_reducible rfl
      simp only [Act.put]
      refine wpAnyM_take (i := 10) (v := ?_) rfl (by kernel_rfl) (by kernel_rfl) (by kernel_rfl) (by kernel_rfl) (by kernel_rfl) (fun _ _ _ h => h) hS (.inl ⟨by rfl, ?_⟩) ?_
      rotate_left 1
      · intro w' hS'; go_simp; try with_reducible rfl
      simp only [Act.put]
      refine wpAnyM_take (i := 11) (v := ?_) rfl (by kernel_rfl) (by kernel_rfl) (by kernel_rfl) (by kernel_rfl) (by kernel_rfl) (fun _ _ _ h => h) hS (.inl ⟨by rfl, ?_⟩) ?_
      rotate_left 1
      · intro w' hS'; go_simp; try with_reducible rfl
      simp only [Act.put]
      refine wpAnyM_take (i := 12) (v := ?_) rfl (by kernel_rfl) (by kernel_rfl) (by kernel_rfl) (by kernel_rfl) (by kernel_rfl) (fun _ _ _ h => h) hS (.inl ⟨by rfl, ?_⟩) ?_
      rotate_left 1
      · intro w' hS'; go_simp; try with_reducible rfl
      simp only [Act.put]
      refine wpAnyM_two (i := 6) (j := 13) (by kernel_rfl) rfl rfl (by rfl) (by rfl) (fun K hK => ?_) (fun K hK => ?_)
      · go_simp
        refine (pick_any s _ (ds.length : Int) w2.drew (hsx.lo (L := w2.heap.size) ((Below.refl _ _).drew) (by omega)) (by omega) (by omega)).mono ?_
        rintro e w4 ⟨q0, rfl, q1, q2, hs4, ht4⟩
        obtain ⟨q, rfl⟩ := Int.eq_ofNat_of_zero_le q1
        have hqd : q < ds.length := by omega
        have hT4 : Touch s (s + 1) w2 w4 := ((Touch.refl _ _ _).drewN 1).trans ht4
        have hl4 := hT4.size
        replace hS := hS.touch ht4 (by omega)
        refine hK _ _ (.inr hS) ?_
        try simp only [Act.put, List.setIfInBounds_toArray]
        clear hK K ht4 q1 q2
        refine wpAnyM_one (i := 13) (by kernel_rfl) rfl (by rfl) (fun K hK => ?_)
        go_simp
        have hal : Below w4.heap.size w4 (w4.alloc (.cells ([-1, b, b - 1, 9223372036854775807].map (Value.int .i64)).toArray 2)) := (Below.refl _ _).alloc (Nat.le_refl _) _
        have hT5 : Touch s (s + 1) w2 _ := hT4.trans (Below.touch hal)
        replace hS := hS.below hal
        have hlal := hal.size
        refine hK _ _ (.inr hS) ?_
        try simp only [Act.put, List.setIfInBounds_toArray]
        clear hK K
        refine wpAnyM_one (i := 14) (by kernel_rfl) rfl (by rfl) (fun K hK => ?_)
        go_simp
        refine (among_any s _ w4.heap.size 4 [-1, b, b - 1, 9223372036854775807] _ (hs4.lo (L := w4.heap.size) hal (by omega)) (by omega) (by have := rd_new w4 [-1, b, b - 1, 9223372036854775807] (by simp); exact this) (by omega) (by simp) (by simp)).mono ?_
        rintro e w6 ⟨y, rfl, hy, hs6, ht6⟩
        have iy : I64 y := by
          have hb := hD.out.1
          simp at hy
          rcases hy with rfl | rfl | rfl | rfl
          · exact mid64 (by omega) (by omega)
          · exact hb
          · exact mid64 (by omega) (by omega)
          · unfold I64; decide
        have hT6 := hT5.trans ht6
        have hl6 := hT6.size
        replace hS := bB.touch hT6 (by omega)
        have o6 := (ow.touch hT6 (.inr (by omega)))
        refine hK _ _ (.inr hS) ?_
        try simp only [Act.put, List.setIfInBounds_toArray]
        clear hK K ht6 hy
        have hgt := o6.get (j := q) hqd
        have hth := o6.thaw q
        have hob := o6.block
        refine wpAnyM_take (i := 15) (v := ?_) rfl (by kernel_rfl) (by kernel_rfl) (by kernel_rfl) (by kernel_rfl) (by kernel_rfl) (fun _ _ _ h => h) hS (.inl ⟨by rfl, ?_⟩) ?_
        rotate_left 1
        · intro w' hS'; go_simp; try with_reducible rfl
        simp only [Act.put, List.setIfInBounds_toArray]
        refine wpAnyM_one (i := 16) (by kernel_rfl) rfl (by rfl) (fun K hK => ?_)
        go_simp
        refine hK _ _ (.inl rfl) ?_
        clear hK K
        refine wpAnyM_done (by kernel_rfl) ?_ _
        have tt : Touch p (p + 1) w6 (w6.setCell ⟨p, q, none⟩ (.int .i64 y)) := (Touch.refl _ _ _).setCell (by simp) (by simp) _
        have o7 := Lib.hid ((o6.put q y).wide (lo' := r + 1) (hi' := (w6.setCell ⟨p, q, none⟩ (.int .i64 y)).heap.size) (by omega) (by simp; omega))
        have b7 := Lib.hid (hS.touch tt (by omega))
        have r7 := Lib.hid ((br.touch hT6 (by omega)).touch tt (by omega))
        have t7 := Lib.hid ((tu.trans hT6).then_ tt (by have := HR.out; omega))
        have s7 := Lib.hid ((hs6.touch tt (by omega)).mono (M := N + 200) (by omega))
        have hln : (ds.set q y).length = ds.length := by simp
        have hD2 : Hid (BentR b (ds.set q y)) := Lib.hid ⟨hD.out.1, fun x hx => by
          rcases List.mem_or_eq_of_mem_set hx with h | h
          · exact hD.out.2.1 x h
          · subst h; exact iy, by rw [hln]; exact hD.out.2.2⟩
        clear tt o6 hgt hth
        go_wp2_with fail
        go_meet
        case rel => exact ⟨rfl, b, ds.set q y, some ⟨p, 0, none⟩, C, hD2.out, by rw [hln]; exact b7.out, r7.out, by rw [hln]; exact o7.out, s7.out, t7.out⟩
      · go_simp
        have hal : Below w2.heap.size w2 (w2.alloc (.cells ([-1, b, b - 1, 9223372036854775807].map (Value.int .i64)).toArray 2)).drew := ((Below.refl _ _).alloc (Nat.le_refl _) _).drew
        have hRd : Rd (w2.alloc (.cells ([-1, b, b - 1, 9223372036854775807].map (Value.int .i64)).toArray 2)).drew (some ⟨w2.heap.size, 0, none⟩) [-1, b, b - 1, 9223372036854775807] := (rd_new w2 [-1, b, b - 1, 9223372036854775807] (by simp)).drewN 1
        replace hS := bB.below hal
        have hlal : w2.heap.size + 1 ≤ (w2.alloc (.cells ([-1, b, b - 1, 9223372036854775807].map (Value.int .i64)).toArray 2)).drew.heap.size := by simp
        refine hK _ _ (.inr hS) ?_
        try simp only [Act.put, List.setIfInBounds_toArray]
        clear hK K
        obtain ⟨w4, hw4⟩ : ∃ w4, w4 = (w2.alloc (.cells ([-1, b, b - 1, 9223372036854775807].map (Value.int .i64)).toArray 2)).drew := ⟨_, rfl⟩
        have hw4' : w4 = (w2.alloc (.cells #[.int .i64 (-1), .int .i64 b, .int .i64 (b - 1), .int .i64 9223372036854775807] 2)).drew := hw4
        rw [← hw4] at hal hRd hS hlal
        rw [← hw4']
        clear hw4 hw4'
        refine wpAnyM_one (i := 6) (by kernel_rfl) rfl (by rfl) (fun K hK => ?_)
        go_simp
        refine (pick_any s _ (ds.length : Int) w4 (hsx.lo (L := w2.heap.size) hal (by omega)) (by omega) (by omega)).mono ?_
        rintro e w5 ⟨q0, rfl, q1, q2, hs5, ht5⟩
        obtain ⟨q, rfl⟩ := Int.eq_ofNat_of_zero_le q1
        have hqd : q < ds.length := by omega
        have hT5 : Touch s (s + 1) w2 w5 := (Below.touch hal : Touch s (s + 1) w2 w4).trans ht5
        have hl5 := hT5.size
        replace hS := hS.touch ht5 (by omega)
        have hRd5 : Rd w5 (some ⟨w2.heap.size, 0, none⟩) [-1, b, b - 1, 9223372036854775807] := rd_touch hRd ht5 (by omega)
        refine hK _ _ (.inr hS) ?_
        try simp only [Act.put, List.setIfInBounds_toArray]
        clear hK K ht5 q1 q2 hRd
        refine wpAnyM_one (i := 14) (by kernel_rfl) rfl (by rfl) (fun K hK => ?_)
        go_simp
        refine (among_any s _ w2.heap.size 4 [-1, b, b - 1, 9223372036854775807] _ hs5 (by omega) hRd5 (by omega) (by simp) (by simp)).mono ?_
        rintro e w6 ⟨y, rfl, hy, hs6, ht6⟩
        have iy : I64 y := by
          have hb := hD.out.1
          simp at hy
          rcases hy with rfl | rfl | rfl | rfl
          · exact mid64 (by omega) (by omega)
          · exact hb
          · exact mid64 (by omega) (by omega)
          · unfold I64; decide
        have hT6 := hT5.trans ht6
        have hl6 := hT6.size
        replace hS := bB.touch hT6 (by omega)
        have o6 := (ow.touch hT6 (.inr (by omega)))
        refine hK _ _ (.inr hS) ?_
        try simp only [Act.put, List.setIfInBounds_toArray]
        clear hK K ht6 hy
        have hgt := o6.get (j := q) hqd
        have hth := o6.thaw q
        have hob := o6.block
        refine wpAnyM_take (i := 15) (v := ?_) rfl (by kernel_rfl) (by kernel_rfl) (by kernel_rfl) (by kernel_rfl) (by kernel_rfl) (fun _ _ _ h => h) hS (.inl ⟨by rfl, ?_⟩) ?_
        rotate_left 1
        · intro w' hS'; go_simp; try with_reducible rfl
        simp only [Act.put, List.setIfInBounds_toArray]
        refine wpAnyM_one (i := 16) (by kernel_rfl) rfl (by rfl) (fun K hK => ?_)
        go_simp
        refine hK _ _ (.inl rfl) ?_
        clear hK K
        refine wpAnyM_done (by kernel_rfl) ?_ _
        have tt : Touch p (p + 1) w6 (w6.setCell ⟨p, q, none⟩ (.int .i64 y)) := (Touch.refl _ _ _).setCell (by simp) (by simp) _
        have o7 := Lib.hid ((o6.put q y).wide (lo' := r + 1) (hi' := (w6.setCell ⟨p, q, none⟩ (.int .i64 y)).heap.size) (by omega) (by simp; omega))
        have b7 := Lib.hid (hS.touch tt (by omega))
        have r7 := Lib.hid ((br.touch hT6 (by omega)).touch tt (by omega))
        have t7 := Lib.hid ((tu.trans hT6).then_ tt (by have := HR.out; omega))
        have s7 := Lib.hid ((hs6.touch tt (by omega)).mono (M := N + 200) (by omega))
        have hln : (ds.set q y).length = ds.length := by simp
        have hD2 : Hid (BentR b (ds.set q y)) := Lib.hid ⟨hD.out.1, fun x hx => by
          rcases List.mem_or_eq_of_mem_set hx with h | h
          · exact hD.out.2.1 x h
          · subst h; exact iy, by rw [hln]; exact hD.out.2.2⟩
        clear tt o6 hgt hth
        go_wp2_with fail
        go_meet
        case rel => exact ⟨rfl, b, ds.set q y, some ⟨p, 0, none⟩, C, hD2.out, by rw [hln]; exact b7.out, r7.out, by rw [hln]; exact o7.out, s7.out, t7.out⟩
    have h1b : (z == 1) = false := beq_eq_false_iff_ne.2 h1
    by_cases h2 : z = 2
    · subst h2
      have c1 := bB.at_ 1 rfl
      have f1 := bB.thaw 1
      obtain ⟨w3, hw3⟩ : ∃ w3, w3 = w2.setCell ⟨B, 1, none⟩ (.slice (some ⟨w2.heap.size, 0, none⟩) 0 0) := ⟨_, rfl⟩
      have tt : Touch B (B + 1) w2 w3 := by rw [hw3]; exact (Touch.refl _ _ _).setCell (by simp) (by simp) _
      have hz3 : w3.heap.size = w2.heap.size := by rw [hw3]; simp
      have b3 : Bx w3 B 26 #[.int .i64 b, .slice (some ⟨w2.heap.size, 0, none⟩) 0 0] := by rw [hw3]; exact bB.set_ 1 _
      obtain ⟨w4, hw4⟩ : ∃ w4, w4 = w3.alloc (.cells #[] 2) := ⟨_, rfl⟩
      have hal : Below w3.heap.size w3 w4 := by rw [hw4]; exact (Below.refl _ _).alloc (Nat.le_refl _) _
      have own : Own 2 w4 w2.heap.size (w2.heap.size + 1) (.slice (some ⟨w2.heap.size, 0, none⟩) 0 0) [] := by rw [← hz3, hw4]; exact own_of_row (zs := []) (row_new 2 1 w3 #[] 0 (by simp) (by omega)) rfl (by simp)
      have hz4 : w4.heap.size = w2.heap.size + 1 := by rw [hw4]; simp [hz3]
      have HW3 := Lib.hid (show w4 = (w2.setCell ⟨B, 1, none⟩ (.slice (some ⟨w2.heap.size, 0, none⟩) 0 0)).alloc (.cells #[] 2) by rw [hw4, hw3])
      have b4 := Lib.hid (b3.below hal)
      have r4 := Lib.hid ((br.touch tt (by omega)).below hal)
      have o4 := Lib.hid (own.wide (lo' := r + 1) (hi' := w4.heap.size) (by omega) (by omega))
      have t4 := Lib.hid ((tu.then_ tt (by have := HR.out; omega)).trans (Below.touch hal))
      have s4 := Lib.hid (((hsx.touch tt (by omega)).lo hal (by omega)).mono (M := N + 200) (by omega))
      have hE : Hid (BentR b []) := Lib.hid ⟨hD.out.1, (fun x hx => by cases hx), by simp⟩
      clear tt own hal hw3 hw4 hz3 hz4 b3 bB br ow tu hsx
      go_wp2_with fail
      rw [← HW3.out]
      go_meet
      case rel => exact ⟨rfl, b, [], _, _, hE.out, b4.out, r4.out, o4.out, s4.out, t4.out⟩
    have h2b : (z == 2) = false := beq_eq_false_iff_ne.2 h2
    by_cases h3 : z = 3
    · subst h3
      have c0 := bB.at_ 0 rfl
      have f0 := bB.thaw 0
      have t0 : Touch B (B + 1) w2 (w2.setCell ⟨B, 0, none⟩ (.int .i64 5)) := (Touch.refl _ _ _).setCell (by simp) (by simp) _
      obtain ⟨w3, hw3⟩ : ∃ w3, w3 = w2.setCell ⟨B, 0, none⟩ (.int .i64 5) := ⟨_, rfl⟩
      have b3 : Bx w3 B 26 #[.int .i64 5, .slice A ds.length C] := by rw [hw3]; exact bB.set_ 0 _
      rw [← hw3] at t0
      have r3 := br.touch t0 (by omega)
      have t3 := tu.then_ t0 (by have := HR.out; omega)
      have s3 := hsx.touch t0 (by omega)
      have hl3 := t0.size
      have HW3 := Lib.hid hw3
      clear hw3 t0 bB br ow tu hsx
      go_upto_region 11 with fail
      rw [← HW3.out]
      clear c0 f0
      go_wp2_with fail
      refine (pick_any s _ 2 w3 s3 (by omega) (by omega)).mono ?_
      rintro e w4 ⟨y, rfl, y0, y1, hs4, ht4⟩
      obtain ⟨n, hn⟩ : ∃ n : Nat, 16 + y = (n : Int) := ⟨(16 + y).toNat, by omega⟩
      have hn17 : n ≤ 17 := by omega
      have v2 : IntKind.i64.wrap (16 + y) = (n : Int) := by rw [fits_int _ (by omega) (by omega)]; exact hn
      have hl4 := ht4.size
      replace b3 := b3.touch ht4 (by omega)
      replace r3 := r3.touch ht4 (by omega)
      replace t3 := t3.trans ht4
      clear ht4 s3 hn
      go_wp2_with fail
      refine (drawDigits_any s _ 5 n w4 hs4 (by omega) (by omega) (by omega) (by omega)).mono ?_
      rintro e w5 ⟨es, A5, C5, rfl, hel, hdg, own, ht5, hs5⟩
      have hl5 := ht5.size
      replace b3 := b3.touch ht5 (by omega)
      replace r3 := r3.touch ht5 (by omega)
      replace t3 := t3.trans ht5
      have c3 := b3.at_ 1 rfl
      have f3 := b3.thaw 1
      subst hel
      have tt : Touch B (B + 1) w5 (w5.setCell ⟨B, 1, none⟩ (.slice A5 es.length C5)) := (Touch.refl _ _ _).setCell (by simp) (by simp) _
      have b4 := Lib.hid (b3.set_ 1 (.slice A5 es.length C5))
      have r4 := Lib.hid (r3.touch tt (by omega))
      have hbz := b3.lt
      have o4 := Lib.hid ((own.touch tt (.inr (by omega))).wide (lo' := r + 1) (hi' := (w5.setCell ⟨B, 1, none⟩ (.slice A5 es.length C5)).heap.size) (by omega) (by simp))
      have t4 := Lib.hid (t3.then_ tt (by have := HR.out; omega))
      have s4 := Lib.hid ((hs5.touch tt (by omega)).mono (M := N + 200) (by omega))
      have hE : Hid (BentR 5 es) := Lib.hid ⟨mid64 (by omega) (by omega), fun x hx => by have := hdg x hx; exact mid64 (by omega) (by omega), hn17⟩
      clear tt own r3 t3 hs5 ht5 hdg hs4
      go_wp2_with fail
      go_meet
      case rel => exact ⟨rfl, 5, es, A5, C5, hE.out, b4.out, r4.out, o4.out, s4.out, t4.out⟩
    have h3b : (z == 3) = false := beq_eq_false_iff_ne.2 h3
    by_cases h4 : z = 4
    · subst h4
      have c0 := bB.at_ 0 rfl
      have c1 := bB.at_ 1 rfl
      have f0 := bB.thaw 0
      have f1 := bB.thaw 1
      obtain ⟨w3, hw3⟩ : ∃ w3, w3 = (w2.setCell ⟨B, 0, none⟩ (.int .i64 10)).setCell ⟨B, 1, none⟩ (.slice (some ⟨w2.heap.size, 0, none⟩) 13 13) := ⟨_, rfl⟩
      have tt : Touch B (B + 1) w2 w3 := by rw [hw3]; exact ((Touch.refl _ _ _).setCell (by simp) (by simp) _).setCell (by simp) (by simp) _
      have hz3 : w3.heap.size = w2.heap.size := by rw [hw3]; simp
      have b3 : Bx w3 B 26 #[.int .i64 10, .slice (some ⟨w2.heap.size, 0, none⟩) 13 13] := by rw [hw3]; exact (bB.set_ 0 _).set_ 1 _
      obtain ⟨w5, hw5⟩ : ∃ w5, w5 = w3.alloc (.cells #[.int .i64 0, .int .i64 0, .int .i64 0, .int .i64 0, .int .i64 0, .int .i64 0, .int .i64 0, .int .i64 0, .int .i64 0, .int .i64 0, .int .i64 0, .int .i64 0, .int .i64 1] 2) := ⟨_, rfl⟩
      have hal : Below w3.heap.size w3 w5 := by rw [hw5]; exact (Below.refl _ _).alloc (Nat.le_refl _) _
      have hz5 : w5.heap.size = w2.heap.size + 1 := by rw [hw5]; simp [hz3]
      have own5 : Own 2 w5 w2.heap.size (w2.heap.size + 1) (.slice (some ⟨w2.heap.size, 0, none⟩) 13 13) [0, 0, 0, 0, 0, 0, 0, 0, 0, 0, 0, 0, 1] := by rw [← hz3, hw5]; exact own_of_row (zs := [0, 0, 0, 0, 0, 0, 0, 0, 0, 0, 0, 0, 1]) (row_new 2 1 w3 #[.int .i64 0, .int .i64 0, .int .i64 0, .int .i64 0, .int .i64 0, .int .i64 0, .int .i64 0, .int .i64 0, .int .i64 0, .int .i64 0, .int .i64 0, .int .i64 0, .int .i64 1] 13 (by simp) (by omega)) rfl (by simp)
      have b5 := b3.below hal
      have r5 := (br.touch tt (by omega)).below hal
      have tu5 := (tu.then_ tt (by have := HR.out; omega)).trans (Below.touch hal)
      have s5 := (hsx.touch tt (by omega)).lo hal (by omega)
      have HW := Lib.hid (show w5 = ((w2.setCell ⟨B, 0, none⟩ (.int .i64 10)).setCell ⟨B, 1, none⟩ (.slice (some ⟨w2.heap.size, 0, none⟩) 13 13)).alloc (.cells #[.int .i64 0, .int .i64 0, .int .i64 0, .int .i64 0, .int .i64 0, .int .i64 0, .int .i64 0, .int .i64 0, .int .i64 0, .int .i64 0, .int .i64 0, .int .i64 0, .int .i64 1] 2) by rw [hw5, hw3])
      have hz5' : w2.heap.size + 1 ≤ w5.heap.size := by omega
      clear hw3 hw5 tt hal b3 bB br ow tu hsx hz3 hz5
      go_upto_region 15 with fail
      rw [← HW.out]
      clear c0 c1 f0 f1
      have g1 : ∀ w', Bx w' B 26 #[.int .i64 10, .slice (some ⟨w2.heap.size, 0, none⟩) 13 13] → w'.cell? ⟨B, 1, none⟩ = some (.slice (some ⟨w2.heap.size, 0, none⟩) 13 13) := fun w' h => h.at_ 1 rfl
      refine wp_region_marked (fun w' => Bx w' B 26 #[.int .i64 10, .slice (some ⟨w2.heap.size, 0, none⟩) 13 13]) 5 (by kernel_rfl) ?_
      have hS : Bx w5.drew B 26 #[.int .i64 10, .slice (some ⟨w2.heap.size, 0, none⟩) 13 13] := b5.drew
      refine wpAnyM_take (i := 0) (v := ?_) rfl (by kernel_rfl) (by kernel_rfl) (by kernel_rfl) (by kernel_rfl) (by kernel_rfl) (fun _ _ _ h => h) hS (.inl ⟨by rfl, ?_⟩) ?_
      rotate_left 1
      · intro w' hS'; go_simp; try with_reducible rfl
      simp only [Act.put, List.setIfInBounds_toArray]
      refine wpAnyM_take (i := 1) (v := ?_) rfl (by kernel_rfl) (by kernel_rfl) (by kernel_rfl) (by kernel_rfl) (by kernel_rfl) (fun _ _ _ h => h) hS (.inl ⟨by rfl, ?_⟩) ?_
      rotate_left 1
      · intro w' hS'; go_simp; try with_reducible rfl
      simp only [Act.put]
      refine wpAnyM_take (i := 2) (v := ?_) rfl (by kernel_rfl) (by kernel_rfl) (by kernel_rfl) (by kernel_rfl) (by kernel_rfl) (fun _ _ _ h => h) hS (.inl ⟨by rfl, ?_⟩) ?_
      rotate_left 1
      · intro w' hS'; go_simp; try with_reducible rfl
      simp only [Act.put]
      refine wpAnyM_one (i := 3) (by kernel_rfl) rfl (by rfl) (fun K hK => ?_)
      go_simp
      refine (pick_any s _ 2 w5.drew (s5.lo (L := w5.heap.size) ((Below.refl _ _).drew) (by omega)) (by omega) (by omega)).mono ?_
      rintro e w6 ⟨y, rfl, y0, y1, hs6, ht6⟩
      have hT : Touch s (s + 1) w5 w6 := ((Touch.refl _ _ _).drewN 1).trans ht6
      have hl6 := hT.size
      replace hS := b5.touch hT (by omega)
      have own6 := own5.touch hT (.inr (by omega))
      refine hK _ _ (.inr hS) ?_
      try simp only [Act.put, List.setIfInBounds_toArray]
      clear hK K ht6
      have hgt := own6.get (j := 0) (by simp)
      have hth := own6.thaw 0
      refine wpAnyM_take (i := 4) (v := ?_) rfl (by kernel_rfl) (by kernel_rfl) (by kernel_rfl) (by kernel_rfl) (by kernel_rfl) (fun _ _ _ h => h) hS (.inl ⟨by rfl, ?_⟩) ?_
      rotate_left 1
      · intro w' hS'; go_simp; try with_reducible rfl
      simp only [Act.put, List.setIfInBounds_toArray]
      refine wpAnyM_one (i := 5) (by kernel_rfl) rfl (by rfl) (fun K hK => ?_)
      go_simp
      refine hK _ _ (.inl rfl) ?_
      clear hK K
      refine wpAnyM_done (by kernel_rfl) ?_ _
      obtain ⟨G, hG⟩ : ∃ G, G = w2.heap.size := ⟨_, rfl⟩
      have hGB : B < G := by omega
      have hGr : r < G := by omega
      have hGs : s < G := by omega
      have hGz : G + 1 ≤ w5.heap.size := by omega
      have HGG := Lib.hid hG
      rw [← hG] at own6 hS ⊢
      clear hG g1 hgt hth
      have tt : Touch G (G + 1) w6 (w6.setCell ⟨G, 0, none⟩ (.int .i64 y)) := (Touch.refl _ _ _).setCell (by simp) (by simp) _
      have o7 := Lib.hid ((own6.put 0 y).wide (lo' := r + 1) (hi' := (w6.setCell ⟨G, 0, none⟩ (.int .i64 y)).heap.size) (by omega) (by simp; omega))
      have b7 := Lib.hid (hS.touch tt (by omega))
      have r7 := Lib.hid ((r5.touch hT (by omega)).touch tt (by omega))
      have t7 := Lib.hid ((tu5.trans hT).then_ tt (by have := HR.out; omega))
      have s7 := Lib.hid ((hs6.touch tt (by omega)).mono (M := N + 200) (by omega))
      have hE : Hid (BentR 10 (List.set [0, 0, 0, 0, 0, 0, 0, 0, 0, 0, 0, 0, 1] 0 y)) := Lib.hid ⟨mid64 (by omega) (by omega), fun x hx => by
        rcases List.mem_or_eq_of_mem_set hx with h | h
        · simp at h; rcases h with rfl | rfl <;> exact mid64 (by omega) (by omega)
        · subst h; exact mid64 (by omega) (by omega), by simp⟩
      clear tt own6 own5 y0 y1
      go_wp2_with fail
      go_meet
      case rel => exact ⟨rfl, 10, _, some ⟨G, 0, none⟩, 13, hE.out, b7.out, r7.out, o7.out, s7.out, t7.out⟩
    have h4b : (z == 4) = false := beq_eq_false_iff_ne.2 h4
    go_wp2_with fail
    go_meet
    case rel => exact ⟨rfl, b, ds, A, C, hD.out, bB, br, ow.wide (Nat.le_refl _) (by omega), hsx.mono (by omega), tu⟩
  case rest =>
    clear bB br tu hsx z0 z1 b0 b1 hD ow hn1 hn6
    obtain ⟨rfl, b, ds, A, C, hD, bB, br, ow, hsx, tu⟩ := hcut
    obtain ⟨w5, rfl⟩ : ∃ v, v = wc := ⟨_, rfl⟩
    have HD := Lib.hid hD
    clear hD
    have d0 := bB.at_ 0 rfl
    have d1 := bB.at_ 1 rfl
    have c0 := br.at_ 0 rfl
    have c1 := br.at_ 1 rfl
    have fc0 := br.thaw 0
    have fc1 := br.thaw 1
    have hrl := br.lt
    have tt : Touch r (r + 1) w5 ((w5.setCell ⟨r, 0, none⟩ (.int .i64 b)).setCell ⟨r, 1, none⟩ (.slice A ds.length C)) := ((Touch.refl _ _ _).setCell (by simp) (by simp) _).setCell (by simp) (by simp) _
    have HO := Lib.hid ((ow.touch tt (.inr (by omega))).wide (lo' := w.heap.size) (hi' := ((w5.setCell ⟨r, 0, none⟩ (.int .i64 b)).setCell ⟨r, 1, none⟩ (.slice A ds.length C)).heap.size) (by have := HR.out; omega) (by simp))
    have HT := Lib.hid (tu.then_ tt (by have := HR.out; omega))
    have HS := Lib.hid (hsx.touch tt (by omega))
    clear tt tu hsx ow
    go_wp2_with fail
    refine bodyPost_ret (v := .agg #[.int .i64 b, .slice A ds.length C]) (by simp [results, Try.results161, go_sem, c0, c1]) rfl ?_
    exact ⟨b, ds, A, C, rfl, HD.out, HO.out, HT.out, HS.out⟩
end Go.Proofs.Ytgfpjcckkbhdjaa
