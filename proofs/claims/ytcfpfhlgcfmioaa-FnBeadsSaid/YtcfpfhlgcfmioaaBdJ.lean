/-
  impl.AddOnAbacus.
-/
import Derived.Test.YtcfpfhlgcfmioaaBackQ
import Derived.Test.YtcfpfhlgcfmioaaOrdIn
import Derived.Test.YtcfpfhlgcfmioaaGrow
import Derived.Test.YtcfpfhlgcfmioaaBdI
import Derived.Test.YtcfpfhlgcfmioaaAbaN
import Derived.Test.YtcfpfhlgcfmioaaArr
import Derived.Test.YtcfpfhlgcfmioaaBdT
import Derived.Test.YtcfpfhlgcfmioaaAbaZ
import Derived.Sort.CutIn
namespace Go.Proofs.Ytcfpfhlgcfmioaa
open Go.RowKit Go.Shelf

attribute [local go_sem] Oper.semAt_some

/-- The memory of the loop: the sum's box and rods, the moves' box and row, the boxes of the results. -/
structure AoS (w X : World) (g lo hi gb Bm L0 n C : Nat) (U L W : Int) (cur : List (Int × Int)) (acc : List (Int × Int × Int)) (MA : Option Addr) (MC : Nat) : Prop where
  at_ : AbaAt X g U L W (some ⟨gb, 0, none⟩) n C
  ow : OwnF pairF 102 X lo hi (.slice (some ⟨gb, 0, none⟩) n C) cur
  mv : Bx X Bm 29 #[.slice MA acc.length MC]
  gr : GrowF tripF 37 L0 X MA MC acc
  b1 : Bx X (w.heap.size + 1) 26 #[.int .i64 0, .int .i64 0, .int .i64 0, .slice none 0 0]
  b2 : Bx X (w.heap.size + 1 + 1) 29 #[.slice none 0 0]
  b3 : Bx X (w.heap.size + 1 + 1 + 1) 2 #[.int .i64 0]
  sz : L0 ≤ X.heap.size
theorem AbaAt.same {X Y : World} {g : Nat} {U L W : Int} {a : Option Addr} {n C : Nat} (h : AbaAt X g U L W a n C) (hs : Y.heap[g]? = X.heap[g]?) : AbaAt Y g U L W a n C :=
  ⟨(World.cell?_of_block hs).trans h.c0, (World.cell?_of_block hs).trans h.c1, (World.cell?_of_block hs).trans h.c2, (World.cell?_of_block hs).trans h.c3⟩
theorem AoS.same {w X Y : World} {g lo hi gb Bm L0 n C : Nat} {U L W : Int} {cur : List (Int × Int)} {acc : List (Int × Int × Int)} {MA : Option Addr} {MC : Nat} (h : AoS w X g lo hi gb Bm L0 n C U L W cur acc MA MC) (hs : ∀ (k : Nat) (o : Obj), X.heap[k]? = some o → o.isCells = true → Y.heap[k]? = X.heap[k]?) (hz : X.heap.size ≤ Y.heap.size) :
    AoS w Y g lo hi gb Bm L0 n C U L W cur acc MA MC := by
  obtain ⟨og, hog, hcg⟩ := cells_of_cell h.at_.c0
  exact ⟨h.at_.same (hs _ _ hog hcg), h.ow.same fun k o _ _ h1 h2 => hs k o h1 h2, (hs _ _ h.mv rfl).trans h.mv, h.gr.same fun k o _ h1 h2 => hs k o h1 h2, (hs _ _ h.b1 rfl).trans h.b1, (hs _ _ h.b2 rfl).trans h.b2, (hs _ _ h.b3 rfl).trans h.b3, Nat.le_trans h.sz hz⟩
theorem rd_of_bx {X : World} {b : Nat} {t : TypeId} {zs : List Int} (h : Bx X b t (zs.map (Value.int .i64)).toArray) (hl : zs.length ≤ 1000000000) : Rd X (some ⟨b, 0, none⟩) zs := by
  refine ⟨hl, fun _ => ⟨b, 0, rfl, fun i hi => ?_⟩⟩
  rw [Nat.zero_add, h.cell i, List.getElem?_toArray, List.getElem?_map, List.getElem?_eq_getElem hi, nth_get hi]
  rfl
theorem bq_snoc {q : Nat → Int → Prop} {zs : List Int} {h : ∀ j, j < zs.length → q j (nth zs j)} {pre : List (EntQ q)} {x : EntQ q} (hl : pre.length < zs.length) (he : pre ++ [x] = bq zs h (pre ++ [x]).length) : pre = bq zs h pre.length ∧ x.1.1 = zs.length - 1 - pre.length := by
  rw [List.length_append, List.length_singleton, bq_step (j := zs.length - 1 - pre.length) (by omega)] at he
  have := List.append_inj' he rfl
  refine ⟨this.1, ?_⟩
  have h2 := this.2
  injection h2 with h2 _
  rw [h2]

theorem drew_heap (w : World) (k : Nat) : w.drew.heap[k]? = w.heap[k]? := rfl
/-- A statement that ends nowhere but behind itself. -/
theorem wpIn_only {F : Fence} {n : Nat} {P : Program} {s : Code} {K : Act → World → Prop} {Q : Exit → Act → World → Prop} {a : Act} {w : World} (h : s.wpIn F n P (Exit.then K (fun _ _ _ => False)) a w) : s.wpIn F n P (Exit.then K Q) a w :=
  Code.wpIn_mono (fun e _ _ h => by cases e <;> first | exact h | exact h.elim) h

/-- AddOnAbacus by the program: what a round knows of the digits that have come. -/
def digQ (v : Int) (j : Nat) (d : Int) : Prop := j < 13 ∧ d = leftR 10 j v % 10

set_option maxRecDepth 100000 in
set_option maxHeartbeats 4000000 in
theorem implAddOnAbacus (U L W : Int) (a : Option Addr) (c : Nat) (rs : List (Int × Int)) (v : Int) (w : World) (ha : RdF pairF w a rs) (bU : I64 U) (bL : I64 L) (bW : I64 W) (z : All2 rs) (_ : I64 v) :
    Calls Try.prog 16 #[.agg #[.int .i64 U, .int .i64 L, .int .i64 W, .slice a rs.length c], .int .i64 v] w (AbaM2 (addAR U L W rs v) w) := by
  refine (callsIn_wide (n := 3)).1 ?_
  have hro : Fence.wide.round = none := rfl
  have hf1 : Fence.wide.fn 69 := trivial
  have hf2 : Fence.wide.fn 30 := trivial
  have hf3 : Fence.wide.fn 72 := trivial
  have hf5 : Fence.wide.fn 74 := trivial
  have hf4 : Fence.wide.fn 73 := trivial
  refine callsIn_of_wp_marks Try.func16 rfl trivial ?_ hro
  simp only [Try.ntmps16, List.size_toArray, List.length_cons, List.length_nil, Nat.reduceAdd, Nat.reduceSub, Array.replicate_succ, Array.replicate_zero, List.push_toArray, List.append_toArray, List.nil_append, List.cons_append]
  have hxl := ha.len
  obtain ⟨u, hu⟩ : ∃ u, u = (((w.alloc (.cells #[.int .i64 U, .int .i64 L, .int .i64 W, .slice a rs.length c] 26)).alloc (.cells #[.int .i64 0, .int .i64 0, .int .i64 0, .slice none 0 0] 26)).alloc (.cells #[.slice none 0 0] 29)).alloc (.cells #[.int .i64 0] 2) := ⟨_, rfl⟩
  have hbel : Below w.heap.size w u := by rw [hu]; exact (by repeat (first | exact Below.refl _ _ | refine Below.setCell ?_ (by first | omega | (simp <;> omega)) _ | refine Below.alloc ?_ (by first | omega | (simp <;> omega)) _ | refine Below.drew ?_))
  have bx0 : Bx u w.heap.size 26 #[.int .i64 U, .int .i64 L, .int .i64 W, .slice a rs.length c] := by rw [hu]; exact (((Bx.new _ _ _).alloc _).alloc _).alloc _
  have bx1 : Bx u (w.heap.size + 1) 26 #[.int .i64 0, .int .i64 0, .int .i64 0, .slice none 0 0] := by rw [hu]; simpa using ((Bx.new (w.alloc (.cells #[.int .i64 U, .int .i64 L, .int .i64 W, .slice a rs.length c] 26)) #[.int .i64 0, .int .i64 0, .int .i64 0, .slice none 0 0] 26).alloc (.cells #[.slice none 0 0] 29)).alloc (.cells #[.int .i64 0] 2)
  have bx2 : Bx u (w.heap.size + 1 + 1) 29 #[.slice none 0 0] := by rw [hu]; simpa using (Bx.new ((w.alloc (.cells #[.int .i64 U, .int .i64 L, .int .i64 W, .slice a rs.length c] 26)).alloc (.cells #[.int .i64 0, .int .i64 0, .int .i64 0, .slice none 0 0] 26)) #[.slice none 0 0] 29).alloc (.cells #[.int .i64 0] 2)
  have bx3 : Bx u (w.heap.size + 1 + 1 + 1) 2 #[.int .i64 0] := by rw [hu]; simpa using Bx.new (((w.alloc (.cells #[.int .i64 U, .int .i64 L, .int .i64 W, .slice a rs.length c] 26)).alloc (.cells #[.int .i64 0, .int .i64 0, .int .i64 0, .slice none 0 0] 26)).alloc (.cells #[.slice none 0 0] 29)) #[.int .i64 0] 2
  have HU := Lib.hid hu
  clear hu
  replace ha := ha.below hbel
  have HVC := Lib.hid (valueCode_any U L W a c rs v u ha bU bL bW z)
  have hcase : (vcC U L W rs v = 1 ∧ addAR U L W rs v = (0, 0, 0, [], [], 1)) ∨ (vcC U L W rs v = 2 ∧ addAR U L W rs v = (0, 0, 0, [], [], 2)) ∨ (vcC U L W rs v = 0 ∧ abaB U L W rs = true ∧ 0 ≤ v ∧ v ≤ 1000000000000) := by
    cases h : abaB U L W rs with
    | false => exact .inl ⟨vcC_bad h, addAR_bad h⟩
    | true =>
      by_cases hv : 0 ≤ v ∧ v ≤ 1000000000000
      · exact .inr (.inr ⟨vcC_ok h hv, rfl, hv⟩)
      · exact .inr (.inl ⟨vcC_range h hv, addAR_range h hv⟩)
  rcases hcase with ⟨hc, hs⟩ | ⟨hc, hs⟩ | ⟨hc, h, hv⟩
  · have HR := Lib.hid hs
    rw [hc] at HVC
    clear hc hs
    gi_wp2_with (gi_at_call 69; rw [← HU.out]; refine (callsIn_wide.2 HVC.out).mono ?_; rintro e w1 ⟨rfl, hb1⟩; have b1 := bx1.below hb1; have b2 := bx2.below hb1; have b3 := bx3.below hb1; have r0 := b1.at_ 0 rfl; have r1 := b1.at_ 1 rfl; have r2 := b1.at_ 2 rfl; have r3 := b1.at_ 3 rfl; have r4 := b2.at_ 0 rfl; have r5 := b3.at_ 0 rfl; have f0 := b1.thaw 0; have f1 := b1.thaw 1; have f2 := b1.thaw 2; have f3 := b1.thaw 3; have f4 := b2.thaw 0; have f5 := b3.thaw 0; have hb := hbel.trans (hb1.mono hbel.size))
    exact ⟨.tuple #[.agg #[.int .i64 0, .int .i64 0, .int .i64 0, .slice none 0 0], .slice none 0 0, .int .i64 1], by simp [results, Try.f16, go_sem, r0, r1, r2, r3, r4, r5], abaM2_err HR.out rfl (by repeat (first | with_reducible exact hb | with_reducible refine Below.setCell ?_ (by first | omega | (simp <;> omega)) _ | with_reducible refine Below.alloc ?_ (by first | omega | (simp <;> omega)) _ | with_reducible refine Below.drew ?_))⟩
  · have HR := Lib.hid hs
    rw [hc] at HVC
    clear hc hs
    gi_wp2_with (gi_at_call 69; rw [← HU.out]; refine (callsIn_wide.2 HVC.out).mono ?_; rintro e w1 ⟨rfl, hb1⟩; have b1 := bx1.below hb1; have b2 := bx2.below hb1; have b3 := bx3.below hb1; have r0 := b1.at_ 0 rfl; have r1 := b1.at_ 1 rfl; have r2 := b1.at_ 2 rfl; have r3 := b1.at_ 3 rfl; have r4 := b2.at_ 0 rfl; have r5 := b3.at_ 0 rfl; have f0 := b1.thaw 0; have f1 := b1.thaw 1; have f2 := b1.thaw 2; have f3 := b1.thaw 3; have f4 := b2.thaw 0; have f5 := b3.thaw 0; have hb := hbel.trans (hb1.mono hbel.size))
    exact ⟨.tuple #[.agg #[.int .i64 0, .int .i64 0, .int .i64 0, .slice none 0 0], .slice none 0 0, .int .i64 2], by simp [results, Try.f16, go_sem, r0, r1, r2, r3, r4, r5], abaM2_err HR.out rfl (by repeat (first | with_reducible exact hb | with_reducible refine Below.setCell ?_ (by first | omega | (simp <;> omega)) _ | with_reducible refine Below.alloc ?_ (by first | omega | (simp <;> omega)) _ | with_reducible refine Below.drew ?_))⟩
  · rw [hc] at HVC
    have HP := Lib.hid (fun (w' : World) (hw : Below u.heap.size u w') => implIsPlain U L W a c rs w' (ha.below hw) bU bL bW z)
    cases hpl : plainB U L W rs with
    | false =>
      have HR := Lib.hid (addAR_state h hv hpl)
      rw [hpl] at HP
      clear h hv hpl hc
      gi_wp2_with (first | (gi_at_call 69; rw [← HU.out]; refine (callsIn_wide.2 HVC.out).mono ?_; rintro e w1 ⟨rfl, hb1⟩; have b0 := bx0.below hb1; have c0 := b0.at_ 0 rfl; have c1 := b0.at_ 1 rfl; have c2 := b0.at_ 2 rfl; have c3 := b0.at_ 3 rfl) | (gi_at_call 30; refine (callsIn_wide.2 (HP.out _ hb1)).mono ?_; rintro e w3 ⟨rfl, hb3⟩; have hb13 := hb1.trans (hb3.mono hb1.size); have b1 := bx1.below hb13; have b2 := bx2.below hb13; have b3 := bx3.below hb13; have r0 := b1.at_ 0 rfl; have r1 := b1.at_ 1 rfl; have r2 := b1.at_ 2 rfl; have r3 := b1.at_ 3 rfl; have r4 := b2.at_ 0 rfl; have r5 := b3.at_ 0 rfl; have f0 := b1.thaw 0; have f1 := b1.thaw 1; have f2 := b1.thaw 2; have f3 := b1.thaw 3; have f4 := b2.thaw 0; have f5 := b3.thaw 0; have hb := hbel.trans (hb13.mono hbel.size)))
      exact ⟨.tuple #[.agg #[.int .i64 0, .int .i64 0, .int .i64 0, .slice none 0 0], .slice none 0 0, .int .i64 6], by simp [results, Try.f16, go_sem, r0, r1, r2, r3, r4, r5], abaM2_err HR.out rfl (by repeat (first | with_reducible exact hb | with_reducible refine Below.setCell ?_ (by first | omega | (simp <;> omega)) _ | with_reducible refine Below.alloc ?_ (by first | omega | (simp <;> omega)) _ | with_reducible refine Below.drew ?_))⟩
    | true =>
      rw [hpl] at HP
      have HPL := Lib.hid (pln_of h hpl)
      have HFU := Lib.hid (addAR_full h hv hpl)
      have HOK := Lib.hid (fun (cur : List (Int × Int)) (acc : List (Int × Int × Int)) => addAR_ok (cur := cur) (acc := acc) h hv hpl)
      have HVB := Lib.hid hv
      clear h hv hpl hc
      gi_upto_region 6 with (first | (gi_at_call 69; rw [← HU.out]; refine (callsIn_wide.2 HVC.out).mono ?_; rintro e w1 ⟨rfl, hb1⟩; have b0 := bx0.below hb1; have c0 := b0.at_ 0 rfl; have c1 := b0.at_ 1 rfl; have c2 := b0.at_ 2 rfl; have c3 := b0.at_ 3 rfl) | (gi_at_call 30; refine (callsIn_wide.2 (HP.out _ hb1)).mono ?_; rintro e V ⟨rfl, hb3⟩))
      have hb13 := hb1.trans (hb3.mono hb1.size)
      replace bx0 := bx0.below hb13
      replace bx1 := bx1.below hb13
      replace bx2 := bx2.below hb13
      replace bx3 := bx3.below hb13
      replace ha := ha.below hb13
      replace hbel := hbel.trans (hb13.mono hbel.size)
      have hzV : w.heap.size + 3 < V.heap.size := bx3.lt
      clear b0 c0 c1 c2 c3 hb1 hb3 hb13 HP HVC HU u w1
      have hn0 : 0 < rs.length := by have := HPL.out.aba.n0; omega
      have hmo : Try.prog.follows .mixedOrders = true := by kernel_rfl
      gi_cut [8] from 9 (fun s8 wx => BoxAba V U L W rs s8 wx)
      case first =>
        have k0 := kept_all (p := ⟨w.heap.size, 0, none⟩) (v := .int .i64 U) (bx0.at_ 0 rfl)
        have k1 := kept_all (p := ⟨w.heap.size, 1, none⟩) (v := .int .i64 L) (bx0.at_ 1 rfl)
        have k2 := kept_all (p := ⟨w.heap.size, 2, none⟩) (v := .int .i64 W) (bx0.at_ 2 rfl)
        have k3 := kept_all (p := ⟨w.heap.size, 3, none⟩) (v := .slice a rs.length c) (bx0.at_ 3 rfl)
        refine wpIn_only ?_
        refine wpInW_region_marked (fun w' => Below V.heap.size V w') 6 hmo (by kernel_rfl) (fun _ _ h => h) ?_
        have hS : Below V.heap.size V V.drew := (Below.refl _ _).drew
        refine wpAnyM_take (i := 0) (v := ?_) rfl (by kernel_rfl) (by kernel_rfl) (by kernel_rfl) (by kernel_rfl) (by kernel_rfl) (fun _ _ _ h => h) hS (.inl ⟨by rfl, ?_⟩) ?_
        rotate_left 1
        · intro w' hS'; go_simp; try with_reducible rfl
        simp only [Act.put, List.setIfInBounds_toArray]
        refine wpAnyM_take (i := 1) (v := ?_) rfl (by kernel_rfl) (by kernel_rfl) (by kernel_rfl) (by kernel_rfl) (by kernel_rfl) (fun _ _ _ h => h) hS (.inl ⟨by rfl, ?_⟩) ?_
        rotate_left 1
        · intro w' hS'; go_simp; try with_reducible rfl
        simp only [Act.put]
        refine wpAnyM_take (i := 2) (v := ?_) rfl (by kernel_rfl) (by kernel_rfl) (by kernel_rfl) (by kernel_rfl) (by kernel_rfl) (fun _ _ _ h => h) hS (.inl ⟨by rfl, ?_⟩) ?_
        rotate_left 1
        · intro w' hS'; go_simp; try with_reducible rfl
        simp only [Act.put]
        clear k0 k1 k2 k3
        refine wpAnyM_two (i := 3) (j := 5) (by kernel_rfl) rfl rfl (by rfl) (by rfl) (fun K hK => ?_) (fun K hK => ?_)
        · go_simp
          refine (cloneRods_any a c rs V.drew (ha.below hS) hn0).mono ?_
          rintro e w3 ⟨A, C, rfl, ow, hb3⟩
          have hS3 : Below V.heap.size V w3 := hS.trans (hb3.mono (by simp))
          replace ow : OwnF pairF 102 w3 V.heap.size w3.heap.size (.slice A rs.length C) rs := by simpa using ow
          refine hK _ _ (.inr hS3) ?_
          try simp only [Act.put, List.setIfInBounds_toArray]
          clear hK K hb3
          refine wpAnyM_two (i := 4) (j := 5) (by kernel_rfl) rfl rfl (by rfl) (by rfl) (fun K hK => ?_) (fun K hK => ?_)
          · go_simp
            refine (withRods_any U L W a rs.length c A rs.length C w3).mono ?_
            rintro e w4 ⟨rfl, hb4⟩
            have hS4 := hS3.trans (hb4.mono hS3.size)
            have ow4 := ow.below hb4
            refine hK _ _ (.inr hS4) ?_
            try simp only [Act.put, List.setIfInBounds_toArray]
            clear hK K
            refine wpAnyM_one (i := 5) (by kernel_rfl) rfl (by rfl) (fun K hK => ?_)
            go_simp
            refine hK _ _ (.inr (hS4.alloc hS4.size _)) ?_
            try simp only [Act.put, List.setIfInBounds_toArray]
            clear hK K
            refine wpAnyM_one (i := 6) (by kernel_rfl) rfl (by rfl) (fun K hK => ?_)
            go_simp
            refine hK _ _ (.inl rfl) ?_
            clear hK K
            refine wpAnyM_done (by kernel_rfl) ?_ _
            gi_wp2_with fail
            gi_meet
            case rel => exact boxAba_new hS4 ow4 (Nat.le_refl _) hb4.size
          · go_simp
            have bz := Bx.new w3 #[.int .i64 0, .int .i64 0, .int .i64 0, .slice none 0 0] 26
            have hS4 := hS3.alloc hS3.size (.cells #[.int .i64 0, .int .i64 0, .int .i64 0, .slice none 0 0] 26)
            have ow4 := ow.alloc (.cells #[.int .i64 0, .int .i64 0, .int .i64 0, .slice none 0 0] 26)
            have hg4 : V.heap.size ≤ w3.heap.size := hS3.size
            refine hK _ _ (.inr hS4) ?_
            try simp only [Act.put, List.setIfInBounds_toArray]
            clear hK K
            refine wpAnyM_one (i := 4) (by kernel_rfl) rfl (by rfl) (fun K hK => ?_)
            go_simp
            refine (withRods_any U L W a rs.length c A rs.length C _).mono ?_
            rintro e w4 ⟨rfl, hb4⟩
            have hS5 := hS4.trans (hb4.mono hS4.size)
            have ow5 := ow4.below hb4
            replace bz := bz.below hb4
            have hz4 : w3.heap.size < w4.heap.size := bz.lt
            have z0 := bz.at_ 0 rfl
            have z1 := bz.at_ 1 rfl
            have z2 := bz.at_ 2 rfl
            have z3 := bz.at_ 3 rfl
            have f0 := bz.thaw 0
            have f1 := bz.thaw 1
            have f2 := bz.thaw 2
            have f3 := bz.thaw 3
            refine hK _ _ (.inr hS5) ?_
            try simp only [Act.put, List.setIfInBounds_toArray]
            clear hK K
            refine wpAnyM_one (i := 6) (by kernel_rfl) rfl (by rfl) (fun K hK => ?_)
            go_simp
            refine hK _ _ (.inl rfl) ?_
            clear hK K
            refine wpAnyM_done (by kernel_rfl) ?_ _
            gi_wp2_with fail
            gi_meet
            case rel => exact boxAba_mk hS5 ow5 (.inr (Nat.le_refl _)) (Nat.le_refl _) (Nat.le_of_lt hz4) bz hg4
        · go_simp
          have bz := (Bx.new V #[.int .i64 0, .int .i64 0, .int .i64 0, .slice none 0 0] 26).drew
          have hS3 : Below V.heap.size V (V.alloc (.cells #[.int .i64 0, .int .i64 0, .int .i64 0, .slice none 0 0] 26)).drew := ((Below.refl _ _).alloc (Nat.le_refl _) _).drew
          refine hK _ _ (.inr hS3) ?_
          try simp only [Act.put, List.setIfInBounds_toArray]
          clear hK K
          refine wpAnyM_one (i := 3) (by kernel_rfl) rfl (by rfl) (fun K hK => ?_)
          go_simp
          refine (cloneRods_any a c rs (V.alloc (.cells #[.int .i64 0, .int .i64 0, .int .i64 0, .slice none 0 0] 26)).drew (ha.below hS3) hn0).mono ?_
          rintro e w3 ⟨A, C, rfl, ow, hb3⟩
          have hS4 : Below V.heap.size V w3 := hS3.trans (hb3.mono (by simp))
          replace ow : OwnF pairF 102 w3 (V.heap.size + 1) w3.heap.size (.slice A rs.length C) rs := by simpa using ow
          replace bz := bz.below hb3
          refine hK _ _ (.inr hS4) ?_
          try simp only [Act.put, List.setIfInBounds_toArray]
          clear hK K hb3
          refine wpAnyM_one (i := 4) (by kernel_rfl) rfl (by rfl) (fun K hK => ?_)
          go_simp
          refine (withRods_any U L W a rs.length c A rs.length C w3).mono ?_
          rintro e w4 ⟨rfl, hb4⟩
          have hS5 := hS4.trans (hb4.mono hS4.size)
          have ow5 := ow.below hb4
          replace bz := bz.below hb4
          have z0 := bz.at_ 0 rfl
          have z1 := bz.at_ 1 rfl
          have z2 := bz.at_ 2 rfl
          have z3 := bz.at_ 3 rfl
          have f0 := bz.thaw 0
          have f1 := bz.thaw 1
          have f2 := bz.thaw 2
          have f3 := bz.thaw 3
          refine hK _ _ (.inr hS5) ?_
          try simp only [Act.put, List.setIfInBounds_toArray]
          clear hK K
          refine wpAnyM_one (i := 6) (by kernel_rfl) rfl (by rfl) (fun K hK => ?_)
          go_simp
          refine hK _ _ (.inl rfl) ?_
          clear hK K
          refine wpAnyM_done (by kernel_rfl) ?_ _
          gi_wp2_with fail
          gi_meet
          case rel => exact boxAba_mk hS5 ow5 (.inl (by omega)) (by omega) hb4.size bz (Nat.le_refl _)
      case rest =>
        obtain ⟨g, A, C, lo, hi, rfl, b0, b1, b2, b3, ow, D1, D2, D3, D4, D5, hbw⟩ := hcut
        obtain ⟨v1, rfl⟩ : ∃ v, v = wc := ⟨_, rfl⟩
        obtain ⟨gb, rfl, l1, l2, l3⟩ := ow.head hn0
        replace bx1 := bx1.below hbw
        replace bx2 := bx2.below hbw
        replace bx3 := bx3.below hbw
        replace hbel := hbel.trans (hbw.mono hbel.size)
        have hge : g ≠ gb := by have := D1.out; omega
        have hlo : w.heap.size + 3 < lo := by have := D2.out; omega
        have hlg : w.heap.size + 3 < g := by have := D3.out; omega
        have atv : AbaAt v1 g U L W (some ⟨gb, 0, none⟩) rs.length C := ⟨b0, b1, b2, b3⟩
        clear b0 b1 b2 b3 hbw bx0 ha
        gi_upto_region 9 with (gi_at_call 72; refine (callsIn_wide.2 (digitsOf_any v _ HVB.out.1 HVB.out.2)).mono ?_; rintro e v2 ⟨rfl, hb2⟩; obtain ⟨d0, d1, d2, d3, d4, d5, d6, d7, d8, d9, d10, d11, d12, hD⟩ := list13 (digsR_len 10 13 v); rw [hD]; simp only [List.map_cons, List.map_nil])
        obtain ⟨D, hDD⟩ : ∃ D, D = digsR 10 13 v := ⟨_, rfl⟩
        have hDl : D.length = 13 := by rw [hDD, digsR_len]
        have hDe : (D.map (Value.int .i64)).toArray = #[.int .i64 d0, .int .i64 d1, .int .i64 d2, .int .i64 d3, .int .i64 d4, .int .i64 d5, .int .i64 d6, .int .i64 d7, .int .i64 d8, .int .i64 d9, .int .i64 d10, .int .i64 d11, .int .i64 d12] := by rw [hDD, hD]; rfl
        have hDq : ∀ j, j < D.length → digQ v j (nth D j) := fun j hj => ⟨by omega, by rw [hDD]; exact digs_at 10 (by omega)⟩
        clear hD hDD
        gi_wp2_with (gi_at_call 73; refine (backQ_in Fence.wide _ trivial rfl _ _ _ _).mono ?_; rintro e w' ⟨rfl, rfl⟩)
        have hz1 : v1.heap.size < v2.heap.size := by have := hb2.size; simp at this; omega
        obtain ⟨W0, hW0⟩ : ∃ W0, W0 = (v2.alloc (.cells #[.int .i64 d0, .int .i64 d1, .int .i64 d2, .int .i64 d3, .int .i64 d4, .int .i64 d5, .int .i64 d6, .int .i64 d7, .int .i64 d8, .int .i64 d9, .int .i64 d10, .int .i64 d11, .int .i64 d12] 103)).alloc (.cells #[.slice (some ⟨v2.heap.size, 0, none⟩) 13 13] 57) := ⟨_, rfl⟩
        rw [← hW0]
        have bm : Bx v2 v1.heap.size 29 #[.slice none 0 0] := (Bx.new v1 _ _).below hb2
        have hb12 : Below v1.heap.size v1 v2 := ((Below.refl _ _).alloc (Nat.le_refl _) _).trans (hb2.mono (by simp))
        have hbW : Below v2.heap.size v2 W0 := by rw [hW0]; exact (by repeat (first | with_reducible exact Below.refl _ _ | with_reducible refine Below.setCell ?_ (by first | omega | (simp <;> omega)) _ | with_reducible refine Below.alloc ?_ (by first | omega | (simp <;> omega)) _ | with_reducible refine Below.drew ?_))
        have bD : Bx W0 v2.heap.size 103 (D.map (Value.int .i64)).toArray := by rw [hDe, hW0]; exact (Bx.new _ _ _).alloc _
        have bs : Bx W0 (v2.heap.size + 1) 57 #[.slice (some ⟨v2.heap.size, 0, none⟩) 13 13] := by rw [hW0]; simpa using Bx.new (v2.alloc (.cells #[.int .i64 d0, .int .i64 d1, .int .i64 d2, .int .i64 d3, .int .i64 d4, .int .i64 d5, .int .i64 d6, .int .i64 d7, .int .i64 d8, .int .i64 d9, .int .i64 d10, .int .i64 d11, .int .i64 d12] 103)) #[.slice (some ⟨v2.heap.size, 0, none⟩) 13 13] 57
        have hzW : W0.heap.size = v2.heap.size + 2 := by rw [hW0]; simp
        clear hW0 hDe
        have hb1W : Below v1.heap.size v1 W0 := hb12.trans (hbW.mono (Nat.le_of_lt hz1))
        obtain ⟨n, hn⟩ : ∃ n, n = rs.length := ⟨_, rfl⟩
        rw [← hn] at ow atv
        have HN := Lib.hid hn.symm
        have hn10 : n ≤ 10 := by rw [hn]; exact HPL.out.aba.n1
        have S0 : AoS w W0 g lo hi gb v1.heap.size W0.heap.size n C U L W rs [] none 0 := ⟨atv.below hb1W, ow.below hb1W, bm.below hbW, growF_nil _ _ _ _, bx1.below hb1W, bx2.below hb1W, bx3.below hb1W, Nat.le_refl _⟩
        have hbel0 : Below w.heap.size w W0 := hbel.trans (hb1W.mono hbel.size)
        have hD1 := D1.out
        have hD4 := D4.out
        have hD5 := D5.out
        clear hn atv ow bm bx1 bx2 bx3 hbel hb1W hb12 hbW hb2
        refine wpIn_rangeFunc_ownH hro (by omega) (gf := 120) (lb := #[.pointer (some ⟨v2.heap.size + 1, 0, none⟩)]) rfl trivial (enters_of Try.func120 (by kernel_rfl) rfl)
          (backQ_stops (q := digQ v) Fence.wide _ trivial rfl (by omega) (v2.heap.size + 1) v2.heap.size 0 w.heap.size 13 D hDq W0 (by omega) (by rw [hDl]; exact bs.at_ 0 rfl) (rd_of_bx bD (by omega))) keepD_t (keepD_b (by omega) (by omega) (by omega)) (Below.refl _ _) (fun _ => rfl)
          (fun pre X => (∃ cur acc MA MC, Hid (pre = bq D hDq pre.length → AnAt U W (fun i => leftR 10 i v % 10) (addN U W (fun i => leftR 10 i v % 10) 13 rs) cur (13 - pre.length) acc) ∧ Hid (Pln U L W cur) ∧ Hid (cur.length = n) ∧ acc.length ≤ 10 * pre.length ∧
            AoS w X g lo hi gb v1.heap.size W0.heap.size n C U L W cur acc MA MC) ∧ Below w.heap.size w X)
          (fun c pre X => (c = .ret ∧ (pre = bq D hDq pre.length → (addN U W (fun i => leftR 10 i v % 10) 13 rs).2.2 = false) ∧ Bx X (w.heap.size + 1) 26 #[.int .i64 0, .int .i64 0, .int .i64 0, .slice none 0 0] ∧ Bx X (w.heap.size + 1 + 1) 29 #[.slice none 0 0] ∧ Bx X (w.heap.size + 1 + 1 + 1) 2 #[.int .i64 5]) ∧ Below w.heap.size w X)
          (OwnFrom.and (Own.from (fun s A B row hs hg hr => by
            obtain ⟨cur, acc, MA, MC, h1, h2, h3, h4, h5⟩ := hs
            exact ⟨cur, acc, MA, MC, h1, h2, h3, h4, h5.same (fun k o ho hc => grownBy_keeps_cells hg hr ho hc) hg.size⟩) _) (ownFrom_below (Nat.le_refl _) (by omega)))
          (fun _ => OwnFrom.and (Own.from (fun s A B row hs hg hr => ⟨hs.1, hs.2.1, (grownBy_keeps_cells hg hr hs.2.2.1 rfl).trans hs.2.2.1, (grownBy_keeps_cells hg hr hs.2.2.2.1 rfl).trans hs.2.2.2.1, (grownBy_keeps_cells hg hr hs.2.2.2.2 rfl).trans hs.2.2.2.2⟩) _) (ownFrom_below (Nat.le_refl _) (by omega)))
          ⟨⟨rs, [], none, 0, Lib.hid (fun _ => anAt_zero _ _ _ _ _), HPL, HN, by simp, S0⟩, hbel0⟩
          (fun x a' _ => a' = { tmps := #[.agg #[.int .i64 U, .int .i64 L, .int .i64 W, .slice a rs.length c], .int .i64 v, .pointer (some ⟨w.heap.size, 0, none⟩), undef, .pointer (some ⟨w.heap.size + 1, 0, none⟩), .pointer (some ⟨w.heap.size + 1 + 1, 0, none⟩), .pointer (some ⟨w.heap.size + 1 + 1 + 1, 0, none⟩), .int .i64 0,
            .pointer (some ⟨g, 0, none⟩), .pointer (some ⟨v1.heap.size, 0, none⟩), .pointer (some ⟨v2.heap.size, 0, none⟩), .int .i64 (x.1.1 : Int), .int .i64 x.1.2, u13, u14, u15, u16, u17, u18, u19, u20, u21, u22, u23, u24, u25, u26, u27, u28, u29, u30, .int .i64 v,
            .agg #[.int .i64 d0, .int .i64 d1, .int .i64 d2, .int .i64 d3, .int .i64 d4, .int .i64 d5, .int .i64 d6, .int .i64 d7, .int .i64 d8, .int .i64 d9, .int .i64 d10, .int .i64 d11, .int .i64 d12], .slice (some ⟨v2.heap.size, 0, none⟩) 13 13,
            .func (.func 120) #[] #[.pointer (some ⟨v2.heap.size + 1, 0, none⟩)], .int .i64 (x.1.1 : Int), .int .i64 x.1.2, u37, u38, u39, u40, u41, u42, u43, u44, u45, u46, u47, u48, u49, u50, u51], defers := [] })
          (fun _ _ _ _ _ _ hs _ _ => hs) ?assign ?body ?done ?stop
        case assign =>
          intro l pre x X K hI hK
          gi_wp2
          exact hK _ _ ((KeepsOthers.refl _).from _) (KeepD.refl _ _ _ _) hI rfl
        case body =>
          clear S0 hbel0 bs bD HPL HFU HOK
          rintro l pre x a' X hl ⟨r, hr⟩ ⟨⟨cur, acc, MA, MC, HAN, HPC, HLC, hal, S⟩, hB⟩ rfl hlen
          obtain ⟨hj, hd⟩ := x.2
          obtain ⟨j, hjx⟩ : ∃ j, j = x.1.1 := ⟨_, rfl⟩
          obtain ⟨d, hdx⟩ : ∃ d, d = x.1.2 := ⟨_, rfl⟩
          rw [← hjx] at hj hd ⊢
          rw [← hdx] at hd ⊢
          have hd0 : 0 ≤ d ∧ d ≤ 9 := by omega
          have hXs := S.sz
          have hcl := HLC.out
          have HRS := Lib.hid HN.out
          clear HLC HN
          subst hcl
          obtain ⟨R, hR⟩ : ∃ R, R = addD U W cur j d := ⟨_, rfl⟩
          have AD := Lib.hid (addDigit_any U L W (some ⟨gb, 0, none⟩) C lo hi cur j d X HPC.out hd0.1 hd0.2 (by omega) S.ow (by omega) (by omega))
          have HPN := Lib.hid (HPC.out.add cur.length (k := j) (d := d) (by omega) hd0.1 hd0.2)
          have HLE := Lib.hid (addD_len U W cur.length cur j d (by omega))
          have HML := Lib.hid (addD_moves U W cur.length cur j d (by omega))
          have HST := Lib.hid (show pre ++ [x] = bq D hDq (pre ++ [x]).length → R.2.2 = true → AnAt U W (fun i => leftR 10 i v % 10) (addN U W (fun i => leftR 10 i v % 10) 13 rs) R.1 (13 - (pre ++ [x]).length) (acc ++ R.2.1) from fun he hok => by
            obtain ⟨h1, h2⟩ := bq_snoc hlen he
            have hA := HAN.out h1
            have hjj : 13 - pre.length = j + 1 := by omega
            rw [hjj] at hA
            rw [hR, hd] at hok ⊢
            have := anAt_step hA hok
            rwa [show 13 - (pre ++ [x]).length = j by simp; omega])
          have HNO := Lib.hid (show pre ++ [x] = bq D hDq (pre ++ [x]).length → R.2.2 = false → (addN U W (fun i => leftR 10 i v % 10) 13 rs).2.2 = false from fun he hno => by
            obtain ⟨h1, h2⟩ := bq_snoc hlen he
            have hA := HAN.out h1
            have hjj : 13 - pre.length = j + 1 := by omega
            rw [hjj] at hA
            rw [hR, hd] at hno
            exact anAt_full hA hno)
          rw [← hR] at AD HPN HLE HML
          obtain ⟨c0, c1, c2, c3⟩ := S.at_
          have hXb := hB.size
          clear hR HAN HPC hd hjx hdx
          gi_upto_region 13 with (gi_at_call 74; refine (CallsIn.inRound l (callsIn_wide.2 AD.out)).mono ?_; rintro e w5 ⟨LA, LC, rfl, ow5, om5, ht5⟩)
          have hz5 := ht5.size
          have at5 := S.at_.same (ht5.block g (by omega) hD1)
          have mv5 : Bx w5 v1.heap.size 29 #[.slice MA acc.length MC] := (ht5.block _ S.mv.lt (.inr (by omega))).trans S.mv
          have gr5 := S.gr.same (w' := w5) fun k o h1 h2 _ => ht5.block k (Array.getElem?_eq_some_iff.1 h2).1 (.inr (by omega))
          have b15 : Bx w5 (w.heap.size + 1) _ _ := (ht5.block _ S.b1.lt (.inl (by omega))).trans S.b1
          have b25 : Bx w5 (w.heap.size + 1 + 1) _ _ := (ht5.block _ S.b2.lt (.inl (by omega))).trans S.b2
          have b35 : Bx w5 (w.heap.size + 1 + 1 + 1) _ _ := (ht5.block _ S.b3.lt (.inl (by omega))).trans S.b3
          have HX5 := Lib.hid ht5
          clear S c0 c1 c2 c3 AD ht5
          cases hbb : R.2.2 with
          | true =>
            have hadl : adL R = R.2.1 := by rw [adL, if_pos hbb]
            rw [hadl] at om5 ⊢
            have k9 := mv5.at_ 0 rfl
            have f9 := mv5.thaw 0
            have hml := HML.out
            gi_wp2_with (gi_at_builtin; refine wpListIn_appGrow tripF rfl (.tmp 47) (.tmp 48) 29 37 rfl (.agg #[.int .i64 0, .int .i64 0, .int .i64 0]) 24 Try.underlying29 info_Move rfl (by omega) rfl gr5 (by omega) rfl om5 (by omega) ?_; intro A' C' w6 gr6 hg6; have mv6 := mv5.lo hg6.1 (by omega); have k9' := mv6.at_ 0 rfl; have f9' := mv6.thaw 0)
            have hz6 := hg6.1.size
            have hb6 := hg6.1
            have hle : acc.length + R.2.1.length = (acc ++ R.2.1).length := by simp
            rw [hle]
            refine ⟨⟨by simp; omega, fun k o hk hko hno => ?_⟩, ⟨?_, ?_, ?_⟩, ⟨R.1, acc ++ R.2.1, A', C', Lib.hid (fun he => HST.out he hbb), HPN, HLE, by simp; omega, ⟨?_, ?_, ?_, ?_, ?_, ?_, ?_, by simp; omega⟩⟩, ?_⟩
            · rw [Below.heap_setCell _ _ _ _ (by simp; omega)]
              refine hg6.2 k o ?_ (no_row hno)
              rw [HX5.out.block k (Array.getElem?_eq_some_iff.1 hko).1 (.inr (by omega))]
              exact hko
            · exact ((HX5.out.below (by omega) hXb).trans (hb6.mono (by omega))).setCell (by simp; omega) _
            · rw [Below.heap_setCell _ _ _ _ (by simp; omega), hb6.block _ (by omega), HX5.out.block _ (by omega) (.inr (by omega))]
            · rw [Below.heap_setCell _ _ _ _ (by simp; omega), hb6.block _ (by omega), HX5.out.block _ (by omega) (.inr (by omega))]
            · exact (at5.same (hb6.block _ (by omega))).same (Below.heap_setCell _ _ _ _ (by simp; omega))
            · exact (ow5.low hb6 (by omega)).setCell (.inr (by simp; omega)) _
            · simpa using mv6.set_ 0 (.slice A' (acc ++ R.2.1).length C')
            · exact gr6.same fun k o h1 _ _ => Below.heap_setCell _ _ _ _ (by simp; omega)
            · exact (b15.lo hb6 (by omega)).far (by simp; omega) _
            · exact (b25.lo hb6 (by omega)).far (by simp; omega) _
            · exact (b35.lo hb6 (by omega)).far (by simp; omega) _
            · exact ((hB.trans (HX5.out.below (by omega) hXb)).trans (hb6.mono (by omega))).setCell (by simp; omega) _
          | false =>
            have r0 := b15.at_ 0 rfl
            have r1 := b15.at_ 1 rfl
            have r2 := b15.at_ 2 rfl
            have r3 := b15.at_ 3 rfl
            have r4 := b25.at_ 0 rfl
            have r5 := b35.at_ 0 rfl
            have f0 := b15.thaw 0
            have f1 := b15.thaw 1
            have f2 := b15.thaw 2
            have f3 := b15.thaw 3
            have f4 := b25.thaw 0
            have f5 := b35.thaw 0
            have hbX : Below w.heap.size X w5 := HX5.out.below (by omega) hXb
            have hbw := hB.trans hbX
            have hB1 : Bx (((((((w5.setCell ⟨w.heap.size + 1, 0, none⟩ (.int .i64 0)).setCell ⟨w.heap.size + 1, 1, none⟩ (.int .i64 0)).setCell ⟨w.heap.size + 1, 2, none⟩ (.int .i64 0)).setCell ⟨w.heap.size + 1, 3, none⟩ (.slice none 0 0)).setCell ⟨w.heap.size + 1 + 1, 0, none⟩ (.slice none 0 0)).setCell ⟨w.heap.size + 1 + 1 + 1, 0, none⟩ (.int .i64 5))) (w.heap.size + 1) 26 #[.int .i64 0, .int .i64 0, .int .i64 0, .slice none 0 0] :=
              ((((((b15.set_ 0 (.int .i64 0)).set_ 1 (.int .i64 0)).set_ 2 (.int .i64 0)).set_ 3 (.slice none 0 0)).far (by first | (simp; done) | (simp; omega)) _).far (by first | (simp; done) | (simp; omega)) _)
            have hB2 : Bx (((((((w5.setCell ⟨w.heap.size + 1, 0, none⟩ (.int .i64 0)).setCell ⟨w.heap.size + 1, 1, none⟩ (.int .i64 0)).setCell ⟨w.heap.size + 1, 2, none⟩ (.int .i64 0)).setCell ⟨w.heap.size + 1, 3, none⟩ (.slice none 0 0)).setCell ⟨w.heap.size + 1 + 1, 0, none⟩ (.slice none 0 0)).setCell ⟨w.heap.size + 1 + 1 + 1, 0, none⟩ (.int .i64 5))) (w.heap.size + 1 + 1) 29 #[.slice none 0 0] :=
              ((((((b25.far (by first | (simp; done) | (simp; omega)) _).far (by first | (simp; done) | (simp; omega)) _).far (by first | (simp; done) | (simp; omega)) _).far (by first | (simp; done) | (simp; omega)) _).set_ 0 (.slice none 0 0)).far (by first | (simp; done) | (simp; omega)) _)
            have hB3 : Bx (((((((w5.setCell ⟨w.heap.size + 1, 0, none⟩ (.int .i64 0)).setCell ⟨w.heap.size + 1, 1, none⟩ (.int .i64 0)).setCell ⟨w.heap.size + 1, 2, none⟩ (.int .i64 0)).setCell ⟨w.heap.size + 1, 3, none⟩ (.slice none 0 0)).setCell ⟨w.heap.size + 1 + 1, 0, none⟩ (.slice none 0 0)).setCell ⟨w.heap.size + 1 + 1 + 1, 0, none⟩ (.int .i64 5))) (w.heap.size + 1 + 1 + 1) 2 #[.int .i64 5] :=
              ((((((b35.far (by first | (simp; done) | (simp; omega)) _).far (by first | (simp; done) | (simp; omega)) _).far (by first | (simp; done) | (simp; omega)) _).far (by first | (simp; done) | (simp; omega)) _).far (by first | (simp; done) | (simp; omega)) _).set_ 0 (.int .i64 5))
            have HB1 := Lib.hid hB1
            have HB2 := Lib.hid hB2
            have HB3 := Lib.hid hB3
            clear hB1 hB2 hB3 gr5 om5 ow5 at5 mv5
            gi_wp2
            refine ⟨⟨by simp; omega, fun k o hk hko hno => ?_⟩, ⟨rfl, fun he => HNO.out he hbb, HB1.out, HB2.out, HB3.out⟩, (by repeat (first | with_reducible exact hbw | with_reducible refine Below.setCell ?_ (by first | omega | (simp <;> omega)) _ | with_reducible refine Below.alloc ?_ (by first | omega | (simp <;> omega)) _ | with_reducible refine Below.drew ?_))⟩
            rw [Below.heap_setCell _ _ _ _ (by simp; omega), Below.heap_setCell _ _ _ _ (by simp; omega), Below.heap_setCell _ _ _ _ (by simp; omega), Below.heap_setCell _ _ _ _ (by simp; omega), Below.heap_setCell _ _ _ _ (by simp; omega), Below.heap_setCell _ _ _ _ (by simp; omega), HX5.out.block k (Array.getElem?_eq_some_iff.1 hko).1 (.inr (by omega))]
            exact hko
        case done =>
          rintro Dd ys X hDd rfl ⟨⟨cur, acc, MA, MC, HAN, HPC, HLC, hal, S⟩, hB⟩ hK
          have hbl : (bq D hDq D.length).length = D.length := bq_len (Nat.le_refl _)
          have hA := HAN.out (by rw [hbl])
          rw [hbl, hDl, Nat.sub_self] at hA
          have HR := Lib.hid (HOK.out cur acc (anAt_end hA))
          clear hA HAN HPC HFU HOK HPL S0 hbel0
          have hcl := HLC.out
          clear HLC HN
          subst hcl
          have hXs := S.sz
          obtain ⟨c0, c1, c2, c3⟩ := S.at_
          have k9 := S.mv.at_ 0 rfl
          have r0 := S.b1.at_ 0 rfl
          have r1 := S.b1.at_ 1 rfl
          have r2 := S.b1.at_ 2 rfl
          have r3 := S.b1.at_ 3 rfl
          have r4 := S.b2.at_ 0 rfl
          have r5 := S.b3.at_ 0 rfl
          have f0 := S.b1.thaw 0
          have f1 := S.b1.thaw 1
          have f2 := S.b1.thaw 2
          have f3 := S.b1.thaw 3
          have f4 := S.b2.thaw 0
          have f5 := S.b3.thaw 0
          have q1 : ¬ g = w.heap.size + 1 := by omega
          have q2 : ¬ w.heap.size + 1 = g := by omega
          have q3 : ¬ v1.heap.size = w.heap.size + 1 := by omega
          have q4 : ¬ w.heap.size + 1 = v1.heap.size := by omega
          have q5 : ¬ v1.heap.size = w.heap.size + 1 + 1 := by omega
          have q6 : ¬ w.heap.size + 1 + 1 = v1.heap.size := by omega
          gi_wp2
          gi_region
          all_goals gi_wp2
          obtain ⟨Y, hY⟩ : ∃ Y, Y = ((((((X.setCell ⟨w.heap.size + 1, 0, none⟩ (.int .i64 U)).setCell ⟨w.heap.size + 1, 1, none⟩ (.int .i64 L)).setCell ⟨w.heap.size + 1, 2, none⟩ (.int .i64 W)).setCell ⟨w.heap.size + 1, 3, none⟩ (.slice (some ⟨gb, 0, none⟩) cur.length C)).setCell ⟨w.heap.size + 1 + 1, 0, none⟩ (.slice MA acc.length MC)).setCell ⟨w.heap.size + 1 + 1 + 1, 0, none⟩ (.int .i64 0)).drew := ⟨_, rfl⟩
          rw [← hY]
          have hfar : ∀ k, k ≠ w.heap.size + 1 → k ≠ w.heap.size + 1 + 1 → k ≠ w.heap.size + 1 + 1 + 1 → Y.heap[k]? = X.heap[k]? := by
            intro k h1 h2 h3
            rw [hY]
            rw [drew_heap, Below.heap_setCell _ _ _ _ h3, Below.heap_setCell _ _ _ _ h2, Below.heap_setCell _ _ _ _ h1, Below.heap_setCell _ _ _ _ h1, Below.heap_setCell _ _ _ _ h1, Below.heap_setCell _ _ _ _ h1]
          have hB1 : Bx Y (w.heap.size + 1) 26 #[.int .i64 U, .int .i64 L, .int .i64 W, .slice (some ⟨gb, 0, none⟩) cur.length C] := by
            rw [hY]
            exact ((((((S.b1.set_ 0 (.int .i64 U)).set_ 1 (.int .i64 L)).set_ 2 (.int .i64 W)).set_ 3 (.slice (some ⟨gb, 0, none⟩) cur.length C)).far (by first | (simp; done) | (simp; omega)) _).far (by first | (simp; done) | (simp; omega)) _).drew
          have hB2 : Bx Y (w.heap.size + 1 + 1) 29 #[.slice MA acc.length MC] := by
            rw [hY]
            exact ((((((S.b2.far (by first | (simp; done) | (simp; omega)) _).far (by first | (simp; done) | (simp; omega)) _).far (by first | (simp; done) | (simp; omega)) _).far (by first | (simp; done) | (simp; omega)) _).set_ 0 (.slice MA acc.length MC)).far (by first | (simp; done) | (simp; omega)) _).drew
          have hB3 : Bx Y (w.heap.size + 1 + 1 + 1) 2 #[.int .i64 0] := by
            rw [hY]
            exact ((((((S.b3.far (by first | (simp; done) | (simp; omega)) _).far (by first | (simp; done) | (simp; omega)) _).far (by first | (simp; done) | (simp; omega)) _).far (by first | (simp; done) | (simp; omega)) _).far (by first | (simp; done) | (simp; omega)) _).set_ 0 (.int .i64 0)).drew
          have hYs : Y.heap.size = X.heap.size := by rw [hY]; simp
          have hBY : Below w.heap.size w Y := by rw [hY]; exact (by repeat (first | with_reducible exact hB | with_reducible refine Below.setCell ?_ (by first | omega | (simp <;> omega)) _ | with_reducible refine Below.alloc ?_ (by first | omega | (simp <;> omega)) _ | with_reducible refine Below.drew ?_))
          have owY := S.ow.same (w' := Y) fun k o h1 _ _ _ => hfar k (by omega) (by omega) (by omega)
          have grY := S.gr.same (w' := Y) fun k o h1 _ _ => hfar k (by omega) (by omega) (by omega)
          have hKY : Y.heap[Dd]? = some (.deferred (some [])) := (hfar Dd (by omega) (by omega) (by omega)).trans hK
          clear hY hfar S c0 c1 c2 c3 k9 r0 r1 r2 r3 r4 r5 f0 f1 f2 f3 f4 f5 hB
          refine ⟨by simp, .inl ⟨_, _, rfl, run_takeDeferred hKY, ?_⟩⟩
          have kp : ∀ {p : Addr} {u : Value}, Y.cell? p = some u → (Y.putObj Dd (.deferred none)).cell? p = some u := fun h => cell_kept h (grownBy_putObj' _ Dd (.deferred none)) (fun r e => by cases e; exact ⟨_, hKY, rfl⟩)
          have kc : ∀ (k : Nat) (o : Obj), Y.heap[k]? = some o → o.isCells = true → (Y.putObj Dd (.deferred none)).heap[k]? = Y.heap[k]? := fun k o h1 h2 => grownBy_keeps_cells (grownBy_putObj' Y Dd (.deferred none)) (fun r e => by cases e; exact ⟨_, hKY, rfl⟩) h1 h2
          have r0 := kp (hB1.at_ 0 rfl)
          have r1 := kp (hB1.at_ 1 rfl)
          have r2 := kp (hB1.at_ 2 rfl)
          have r3 := kp (hB1.at_ 3 rfl)
          have r4 := kp (hB2.at_ 0 rfl)
          have r5 := kp (hB3.at_ 0 rfl)
          have hbD := belowK_b (w := w) (Nat.le_refl _) Y Dd _ (.deferred none) (by omega) hKY rfl rfl
          have hzD : Y.heap.size ≤ (Y.putObj Dd (.deferred none)).heap.size := (grownBy_putObj' Y Dd (.deferred none)).size
          have owD := owY.same (w' := Y.putObj Dd (.deferred none)) fun k o _ _ h1 h2 => kc k o h1 h2
          have grD := (grY.same (w' := Y.putObj Dd (.deferred none)) fun k o _ h1 h2 => kc k o h1 h2).own (by omega)
          refine ⟨.tuple #[.agg #[.int .i64 U, .int .i64 L, .int .i64 W, .slice (some ⟨gb, 0, none⟩) cur.length C], .slice MA acc.length MC, .int .i64 0], ?_, abaM2_ok HR.out rfl rfl rfl owD grD (by omega) (by omega) (by omega) (Nat.le_refl _) (by omega) (hBY.trans hbD)⟩
          simp [results, Try.f16, go_sem, r0, r1, r2, r3, r4, r5]
        case stop =>
          rintro Dd c pre X hDd ⟨k, hk, rfl⟩ ⟨⟨rfl, hno, b1, b2, b3⟩, hB⟩ hK
          have HR := Lib.hid (HFU.out (hno (by rw [bq_len hk])))
          clear HFU HOK HPL S0 hbel0 hno
          gi_wp2
          refine ⟨by simp, .inl ⟨_, _, rfl, run_takeDeferred hK, ?_⟩⟩
          have kp : ∀ {p : Addr} {u : Value}, X.cell? p = some u → (X.putObj Dd (.deferred none)).cell? p = some u := fun h => cell_kept h (grownBy_putObj' _ Dd (.deferred none)) (fun r e => by cases e; exact ⟨_, hK, rfl⟩)
          have r0 := kp (b1.at_ 0 rfl)
          have r1 := kp (b1.at_ 1 rfl)
          have r2 := kp (b1.at_ 2 rfl)
          have r3 := kp (b1.at_ 3 rfl)
          have r4 := kp (b2.at_ 0 rfl)
          have r5 := kp (b3.at_ 0 rfl)
          refine ⟨.tuple #[.agg #[.int .i64 0, .int .i64 0, .int .i64 0, .slice none 0 0], .slice none 0 0, .int .i64 5], ?_, abaM2_err HR.out rfl (hB.trans (belowK_b (w := w) (Nat.le_refl _) X Dd _ _ (by omega) hK rfl rfl))⟩
          simp [results, Try.f16, go_sem, r0, r1, r2, r3, r4, r5]
end Go.Proofs.Ytcfpfhlgcfmioaa
