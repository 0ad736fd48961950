/-
  impl.RightTable.
-/
import Derived.Test.YtmdngcoccekdgaaRowsR
import Derived.Test.YtmdngcoccekdgaaTabS
import Derived.Test.YtmdngcoccekdgaaGrow
import Derived.Test.YtmdngcoccekdgaaDrumI
namespace Go.Proofs.Ytmdngcoccekdgaa
open Go.RowKit Go.Shelf

attribute [local go_sem] Oper.semAt_some

/-- The rows that have come. -/
def lst (pre : List (Nat × Row5)) : List Row5 := pre.map fun x => x.2
theorem lst_snoc (pre : List (Nat × Row5)) (x : Nat × Row5) : lst (pre ++ [x]) = lst pre ++ [x.2] := by simp [lst]
theorem lst_len (pre : List (Nat × Row5)) : (lst pre).length = pre.length := by simp [lst]
theorem lst_all (m n : Nat) : lst (rws m n) = tbl m n := by simp [lst, rws, tbl]

set_option maxRecDepth 100000 in
set_option maxHeartbeats 4000000 in
theorem implRightTable (b : Int) (w : World) (_ : I64 b) : Calls Try.prog 41 #[.int .i64 b] w (RowsC (rtR b) w) := by
  refine (callsIn_wide (n := 3)).1 ?_
  have hro : Fence.wide.round = none := rfl
  have hf1 : Fence.wide.fn 61 := trivial
  have hf2 : Fence.wide.fn 88 := trivial
  refine callsIn_of_wp_marks Try.func41 rfl trivial ?_ hro
  simp only [Try.ntmps41, List.size_toArray, List.length_cons, List.length_nil, Nat.reduceAdd, Nat.reduceSub, Array.replicate_succ, Array.replicate_zero, List.push_toArray, List.append_toArray, List.nil_append, List.cons_append]
  cases h : baseB b with
  | false =>
    have HB := Lib.hid (isBase_any b w)
    rw [h] at HB
    have HR := Lib.hid (rtR_bad h)
    clear h
    gi_wp2_with (gi_at_call 61; refine (callsIn_wide.2 HB.out).mono ?_; rintro e w1 ⟨rfl, rfl⟩)
    exact ⟨.tuple #[.slice none 0 0, .int .i64 2], by simp [results, Try.f41, go_sem], rowsC_err HR.out rfl (Below.refl _ _)⟩
  | true =>
    have hb := baseB_true h
    obtain ⟨m, rfl⟩ : ∃ m : Nat, b = m := ⟨b.toNat, by omega⟩
    have HB := Lib.hid (isBase_any (m : Int) w)
    rw [h] at HB
    have HR := Lib.hid (rtR_ok h)
    have hm1 : 2 ≤ m := by omega
    have hm2 : m ≤ 16 := by omega
    clear h hb
    gi_wp2_with (first | (gi_at_call 61; refine (callsIn_wide.2 HB.out).mono ?_; rintro e w1 ⟨rfl, rfl⟩) | (gi_at_call 88; refine (rightRows_in _ _ _).mono ?_; rintro e w' ⟨rfl, rfl⟩))
    obtain ⟨g, hg⟩ : ∃ g, g = w1.heap.size := ⟨_, rfl⟩
    obtain ⟨W0, hW0⟩ : ∃ W0, W0 = (w1.alloc (.cells #[.slice none 0 0] 24)).alloc (.cells #[.int .i64 (m : Int)] 2) := ⟨_, rfl⟩
    have bv : Bx W0 g 24 #[.slice none 0 0] := by rw [hW0, hg]; exact (Bx.new _ _ _).alloc _
    have bs : Bx W0 (g + 1) 2 #[.int .i64 (m : Int)] := by rw [hW0, hg]; simpa using Bx.new (w1.alloc (.cells #[.slice none 0 0] 24)) #[.int .i64 (m : Int)] 2
    have hB1 : Below g w1 W0 := by rw [hW0, hg]; exact (by repeat (first | exact Below.refl _ _ | refine Below.setCell ?_ (by first | omega | (simp <;> omega)) _ | refine Below.alloc ?_ (by first | omega | (simp <;> omega)) _ | refine Below.drew ?_))
    have hsz : W0.heap.size = g + 2 := by rw [hW0, hg]; simp
    rw [← hW0, ← hg]
    have HG := Lib.hid hg
    clear hW0 hg
    have hsq := two_sq hm2
    refine wpIn_rangeFunc_ownH hro (by omega) (gf := 121) (lb := #[.pointer (some ⟨g + 1, 0, none⟩)]) rfl trivial (enters_of Try.func121 (by kernel_rfl) rfl)
      (rows_stops _ (by omega) (g + 1) w1.heap.size m hm1 hm2 W0 (by omega) (bs.at_ 0 rfl)) keepF_t (keepF_b (by have := HG.out; omega) (by omega)) (Below.refl _ _) (fun _ => rfl)
      (fun pre X => ((∃ A C, X.cell? ⟨g, 0, none⟩ = some (.slice A (lst pre).length C) ∧ X.frozen? ⟨g, 0, none⟩ = false ∧ GrowF quinF 88 (g + 2) X A C (lst pre) ∧ g + 2 ≤ X.heap.size) ∧ Below w1.heap.size w1 X))
      (fun _ _ _ => False)
      (OwnFrom.and (Own.from (fun s A B row hs hg hr => by
        obtain ⟨A1, C1, h1, h2, h3, h4⟩ := hs
        exact ⟨A1, C1, cell_kept h1 hg hr, (frozen_kept h1 hg hr).trans h2, h3.same fun g' o _ ho hc => grownBy_keeps_cells hg hr ho hc, Nat.le_trans h4 hg.size⟩) _) (ownFrom_below (Nat.le_refl _) (by have := HG.out; omega)))
      (fun _ _ _ _ _ hs _ _ => hs)
      ⟨⟨none, 0, bv.at_ 0 rfl, bv.thaw 0, growF_nil _ _ _ _, by omega⟩, by rw [← HG.out]; exact hB1⟩
      (fun x a' X => ∃ B6, g + 1 < B6 ∧ X.cell? ⟨B6, 0, none⟩ = some (.int .i64 x.2.1) ∧ X.cell? ⟨B6, 1, none⟩ = some (.int .i64 x.2.2.1) ∧ X.cell? ⟨B6, 2, none⟩ = some (.int .i64 x.2.2.2.1) ∧ X.cell? ⟨B6, 3, none⟩ = some (.int .i64 x.2.2.2.2.1) ∧ X.cell? ⟨B6, 4, none⟩ = some (.int .i64 x.2.2.2.2.2) ∧
        a' = { tmps := #[.int .i64 (m : Int), undef, .slice none 0 0, .int .i64 0, .pointer (some ⟨g, 0, none⟩), undef, .pointer (some ⟨B6, 0, none⟩), .int .i64 (m : Int), .bool true, .bool false, .int .i64 (m : Int), .func (.func 121) #[] #[.pointer (some ⟨g + 1, 0, none⟩)],
          .int .i64 (x.1 : Int), .agg #[.int .i64 x.2.1, .int .i64 x.2.2.1, .int .i64 x.2.2.2.1, .int .i64 x.2.2.2.2.1, .int .i64 x.2.2.2.2.2], undef, undef, undef, undef, undef], defers := [] })
      (fun x a' _ A B row hs hg hr => by
        obtain ⟨B6, h1, h2, h3, h4, h5, h6, h7⟩ := hs
        have hr' : ∀ r, row = some r → ∃ o : Obj, A.heap[r]? = some o ∧ o.isCells = false := fun r e => (hr r e).2
        exact ⟨B6, h1, cell_kept h2 hg hr', cell_kept h3 hg hr', cell_kept h4 hg hr', cell_kept h5 hg hr', cell_kept h6 hg hr', h7⟩) ?assign ?body ?done ?stop
    case assign =>
      intro l pre x X K hI hK
      obtain ⟨⟨A1, C1, i1, i2, i3, i4⟩, i5⟩ := hI
      have hXb := i5.size
      gi_wp2
      refine hK _ _ ((KeepsOthers.alloc _ _).from _) ?_ ?_ ?_
      · exact KeepF.alloc_ _ (by have := HG.out; omega) (by omega) _
      · exact ⟨⟨A1, C1, kept_alloc i1 _, by simpa using (Below.refl X.heap.size X).alloc (Nat.le_refl _) _ |>.frozen (p := ⟨g, 0, none⟩) (by simp; omega) |>.trans i2, i3.same fun g' o _ ho _ => Below.heap_alloc _ _ _ (Array.getElem?_eq_some_iff.1 ho).1, by simp; omega⟩, i5.alloc (by have := HG.out; omega) _⟩
      · exact ⟨X.heap.size, by omega, (Bx.new _ _ _).at_ 0 rfl, (Bx.new _ _ _).at_ 1 rfl, (Bx.new _ _ _).at_ 2 rfl, (Bx.new _ _ _).at_ 3 rfl, (Bx.new _ _ _).at_ 4 rfl, rfl⟩
    case body =>
      rintro l pre x a' X hl ⟨r, hr⟩ ⟨⟨A1, C1, i1, i2, i3, i4⟩, hB⟩ ⟨B6, hB6, r0, r1, r2, r3, r4, rfl⟩ hlen
      have q3 : B6 < X.heap.size := World.block_lt_of_cell? _ _ r0
      have hXb := hB.size
      have hlen2 : (lst pre).length ≤ 512 := by rw [lst_len]; omega
      have iX : GrowF quinF 88 (g + 2) (X.alloc (.cells #[.int .i64 x.2.1, .int .i64 x.2.2.1, .int .i64 x.2.2.2.1, .int .i64 x.2.2.2.2.1, .int .i64 x.2.2.2.2.2] 88)) A1 C1 (lst pre) := i3.same fun g' o _ ho _ => Below.heap_alloc _ _ _ (Array.getElem?_eq_some_iff.1 ho).1
      have oX : OwnF quinF 88 (X.alloc (.cells #[.int .i64 x.2.1, .int .i64 x.2.2.1, .int .i64 x.2.2.2.1, .int .i64 x.2.2.2.2.1, .int .i64 x.2.2.2.2.2] 88)) X.heap.size (X.heap.size + 1) (.slice (some ⟨X.heap.size, 0, none⟩) 1 1) [x.2] :=
        ownF_row (n := 1) (row_new 88 5 X #[.int .i64 x.2.1, .int .i64 x.2.2.1, .int .i64 x.2.2.2.1, .int .i64 x.2.2.2.2.1, .int .i64 x.2.2.2.2.2] 1 (by simp) (by omega)) rfl (by simp)
      have hbX : Below X.heap.size X (X.alloc (.cells #[.int .i64 x.2.1, .int .i64 x.2.2.1, .int .i64 x.2.2.2.1, .int .i64 x.2.2.2.2.1, .int .i64 x.2.2.2.2.2] 88)) := (Below.refl _ _).alloc (Nat.le_refl _) _
      gi_wp2_with (gi_at_builtin; refine wpListIn_appGrow quinF rfl (.tmp 14) (.tmp 16) 24 88 rfl (.agg #[.int .i64 0, .int .i64 0, .int .i64 0, .int .i64 0, .int .i64 0]) 40 Try.underlying24 info_AddRow rfl (by omega) rfl iX (by simp; omega) rfl oX (by omega) ?_; intro A' C' w5 hg5 hgr5; have c5 := hgr5.1.cell (p := ⟨g, 0, none⟩) (by simp) |>.trans (kept hbX i1); have f5 := hgr5.1.frozen (p := ⟨g, 0, none⟩) (by simp) |>.trans ((hbX.frozen (p := ⟨g, 0, none⟩) (by simp; omega)).trans i2))
      have hs5 := hgr5.1.size
      simp only [World.size_alloc] at hs5
      have hX5 : Below (g + 2) X w5 := (hbX.mono (by omega)).trans hgr5.1
      refine ⟨⟨by simp; omega, fun k o hk hko hno => ?_⟩, ⟨?_, ?_⟩, ⟨A', C', ?_, ?_, ?_, by simp; omega⟩, ?_⟩
      · rw [Below.heap_setCell _ _ _ _ (by simp; omega)]
        exact hgr5.2 k o ((Below.heap_alloc _ _ _ (Array.getElem?_eq_some_iff.1 hko).1).trans hko) (no_row hno)
      · exact (hX5.mono (by have := HG.out; omega)).setCell (by have := HG.out; simp; omega) _
      · rw [Below.heap_setCell _ _ _ _ (by simp)]; exact hX5.block (g + 1) (by omega)
      · rw [lst_snoc, List.length_append]; exact cell_put c5 _
      · exact thaw_set f5 _ _
      · rw [lst_snoc]
        exact hg5.same fun k o h1 _ _ => Below.heap_setCell _ _ _ _ (by simp; omega)
      · exact (hB.trans (hX5.mono (by have := HG.out; omega))).setCell (by have := HG.out; simp; omega) _
    case done =>
      rintro D ys X hD rfl ⟨⟨A1, C1, i1, i2, i3, i4⟩, hB⟩ hK
      rw [lst_all] at i1 i3
      rw [tbl_len] at i1
      gi_wp2
      refine ⟨by simp, .inl ⟨_, _, rfl, run_takeDeferred hK, ?_⟩⟩
      have hbD := belowK_b (w := w1) (Nat.le_refl _) X D _ (.deferred none) (by have := HG.out; omega) hK rfl rfl
      have hXs := hB.size
      have g3 := (i3.same (w' := X.putObj D (.deferred none)) fun g' o _ ho hc => grownBy_keeps_cells (grownBy_putObj' X D (.deferred none)) (fun r e => by cases e; exact ⟨_, hK, rfl⟩) ho hc).own (by have := hbD.size; omega)
      rw [tbl_len] at g3
      exact ⟨.tuple #[.slice A1 (2 * m * m) C1, .int .i64 0], by simp [results, Try.f41, go_sem], rowsC_ok HR.out (tbl_len _ _) rfl g3 (by have := HG.out; omega) (Nat.le_refl _) (hB.trans hbD)⟩
    case stop =>
      rintro D c pre X hD _ hF
      exact hF.elim
end Go.Proofs.Ytmdngcoccekdgaa
