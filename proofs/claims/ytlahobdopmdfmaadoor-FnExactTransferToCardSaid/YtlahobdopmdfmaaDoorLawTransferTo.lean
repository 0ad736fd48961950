/-
  laws.FnExactTransferTo returns true at every input (no condition, but the texts of the library's tables, which the card ties), and leaves its arguments as they were.
-/
import Derived.Test.YtlahobdopmdfmaaDoorTrnQ1
import Derived.Test.YtlahobdopmdfmaaDoorTrnQ2
import Derived.Test.YtlahobdopmdfmaaDoorDoorFrame
import Derived.Deep.RegionHeld3
import Derived.Lay
import Derived.Test.YtlahobdopmdfmaaDoorFacts
import Derived.Test.YtlahobdopmdfmaaDoorRows
namespace Go.Proofs.YtlahobdopmdfmaaDoor.lawTransferTo
open Go.ChangeShapes Go.WideShapes Go.ChangeAt Go.WideElems Go.RowKit Go.Joins
open Go.ChangeMaps (open_string shut_string)

theorem rowErr (u : TypeId) (h : Tryd.prog.typeName? 3 u = some "*errors.errorString") : u = 220 :=
  typeName_ptr_named (nm := "errors.errorString") (by rw [show "*" ++ "errors.errorString" = "*errors.errorString" by decide]; kernel_rfl) (by kernel_rfl) (by decide) u (by rw [show "*" ++ "errors.errorString" = "*errors.errorString" by decide]; exact h)
theorem gVar : Tryd.prog.globalNamed "loop.example/g00930/impl.errBell" = some 0 := by kernel_rfl
theorem tVar : (Tryd.prog.globals[0]?).map (·.type) = some 117 := by kernel_rfl
abbrev Door (w : World) : Prop := BellD w
theorem door_below {w w' : World} (h : Door w) (hb : Below w.heap.size w w') : Door w' := h.below hb
theorem of_laid {W : World} (h : laidMetH Tryd.prog Rows.fnExactTransferToRow.laid W) : Door W := by
  rw [MakeChecks.laidMetH_plain _ _ _ (by kernel_rfl)] at h
  obtain ⟨a, t, hv, _⟩ := laid_sentinel h (g := 0) (ti := 117) (tp := 220) (te := 243) (ts := 9) (by kernel_rfl) (by kernel_rfl) Tryd.underlying117 rowErr Tryd.underlying220 Tryd.underlying243 rfl rfl Tryd.underlying9 (by kernel_rfl) (by kernel_rfl)
  exact ⟨_, by simpa [BellAt, bellV] using World.var?_cell (g := 0) (by kernel_rfl) hv 0⟩

set_option maxRecDepth 100000 in
set_option maxHeartbeats 20000000 in
theorem law_walk (xFromB : Int) (xFromA : Option Addr) (xFromC : Nat) (xFromZ : List Int) (xToB : Int) (xToA : Option Addr) (xToC : Nat) (xToZ : List Int) (w : World) (hxFrom : Raw w xFromA xFromZ) (bxFrom : I64 xFromB) (hxTo : Raw w xToA xToZ) (bxTo : I64 xToB) (hD : Door w) :
    Calls Tryd.prog 15 #[.agg #[.int .i64 xFromB, .slice xFromA xFromZ.length xFromC], .agg #[.int .i64 xToB, .slice xToA xToZ.length xToC]] w fun e w' => e = .returned (.bool true) ∧ Below w.heap.size w w' := by
  have hbel : Below w.heap.size w ((w.alloc (.cells #[.int .i64 xFromB, .slice xFromA xFromZ.length xFromC] 70)).alloc (.cells #[.int .i64 xToB, .slice xToA xToZ.length xToC] 70)) := ((Below.refl _ _).alloc (by simp <;> omega) _).alloc (by simp <;> omega) _
  have cxFrom0 : ((w.alloc (.cells #[.int .i64 xFromB, .slice xFromA xFromZ.length xFromC] 70)).alloc (.cells #[.int .i64 xToB, .slice xToA xToZ.length xToC] 70)).cell? ⟨w.heap.size, 0, none⟩ = some (.int .i64 xFromB) := by go_simp
  have cxFrom1 : ((w.alloc (.cells #[.int .i64 xFromB, .slice xFromA xFromZ.length xFromC] 70)).alloc (.cells #[.int .i64 xToB, .slice xToA xToZ.length xToC] 70)).cell? ⟨w.heap.size, 1, none⟩ = some (.slice xFromA xFromZ.length xFromC) := by go_simp
  have cxTo0 : ((w.alloc (.cells #[.int .i64 xFromB, .slice xFromA xFromZ.length xFromC] 70)).alloc (.cells #[.int .i64 xToB, .slice xToA xToZ.length xToC] 70)).cell? ⟨w.heap.size + 1, 0, none⟩ = some (.int .i64 xToB) := by go_simp
  have cxTo1 : ((w.alloc (.cells #[.int .i64 xFromB, .slice xFromA xFromZ.length xFromC] 70)).alloc (.cells #[.int .i64 xToB, .slice xToA xToZ.length xToC] 70)).cell? ⟨w.heap.size + 1, 1, none⟩ = some (.slice xToA xToZ.length xToC) := by go_simp
  go_enter Tryd.func15, Tryd.ntmps15
  go_wp2_with fail
  obtain ⟨v1, hu⟩ : ∃ u, u = ((w.alloc (.cells #[.int .i64 xFromB, .slice xFromA xFromZ.length xFromC] 70)).alloc (.cells #[.int .i64 xToB, .slice xToA xToZ.length xToC] 70)) := ⟨_, rfl⟩
  have s1 : Hid (w.heap.size + 2 ≤ v1.heap.size) := Lib.hid (by rw [hu]; simp)
  rw [← hu] at cxFrom0 cxFrom1 cxTo0 cxTo1 hbel ⊢
  clear hu
  rcases Int.lt_or_le (leftOf xFromZ.length 1048576) 0 with k1 | k1
  · refine (szRegister_any xFromB xFromA xFromZ.length xFromC 1048576 v1 hxFrom.len (by omega) (by omega)).mono ?_
    rintro e v2 ⟨rfl, hb⟩
    go_wp2
    go_ret
    exact ⟨rfl, hbel.trans (hb.mono hbel.size)⟩
  have m1 := leftOf_le xFromZ.length 1048576 (by omega)
  refine (szRegister_any xFromB xFromA xFromZ.length xFromC 1048576 v1 hxFrom.len (by omega) (by omega)).mono ?_
  rintro e v2 ⟨rfl, hb⟩
  have s2 : Hid (v1.heap.size ≤ v2.heap.size) := Lib.hid hb.size
  replace cxFrom0 := kept hb cxFrom0
  replace cxFrom1 := kept hb cxFrom1
  replace cxTo0 := kept hb cxTo0
  replace cxTo1 := kept hb cxTo1
  replace hbel := hbel.trans (hb.mono hbel.size)
  clear hb
  have zxFrom := hxFrom.wf
  replace hxFrom := hxFrom.rd (by have := leftOf_len k1; omega)
  go_wp2_with fail
  rcases Int.lt_or_le (leftOf xToZ.length (leftOf xFromZ.length 1048576)) 0 with k2 | k2
  · refine (szRegister_any xToB xToA xToZ.length xToC (leftOf xFromZ.length 1048576) v2 hxTo.len (by omega) (by omega)).mono ?_
    rintro e v3 ⟨rfl, hb⟩
    go_wp2
    go_ret
    exact ⟨rfl, hbel.trans (hb.mono hbel.size)⟩
  have m2 := leftOf_le xToZ.length (leftOf xFromZ.length 1048576) (by omega)
  refine (szRegister_any xToB xToA xToZ.length xToC (leftOf xFromZ.length 1048576) v2 hxTo.len (by omega) (by omega)).mono ?_
  rintro e v3 ⟨rfl, hb⟩
  have s3 : Hid (v2.heap.size ≤ v3.heap.size) := Lib.hid hb.size
  replace cxFrom0 := kept hb cxFrom0
  replace cxFrom1 := kept hb cxFrom1
  replace cxTo0 := kept hb cxTo0
  replace cxTo1 := kept hb cxTo1
  replace hbel := hbel.trans (hb.mono hbel.size)
  clear hb
  have zxTo := hxTo.wf
  replace hxTo := hxTo.rd (by have := leftOf_len k2; omega)
  go_upto_region 8 with fail
  go_cut [6, 7, 8, 9] from 23 (fun sl6 sl7 sl8 sl9 wx => BoxReg2 v3 (trnR xFromB xFromZ xToB xToZ).1 (trnR xFromB xFromZ xToB xToZ).2.1 (trnR xFromB xFromZ xToB xToZ).2.2.1 (trnR xFromB xFromZ xToB xToZ).2.2.2.1 sl6 sl7 wx ∧ sl8 = .bool (trnR xFromB xFromZ xToB xToZ).2.2.2.2.1 ∧ sl9 = .int .i64 (trnR xFromB xFromZ xToB xToZ).2.2.2.2.2)
  case first =>
    refine wp_region_nodes (fun w' => Below v3.heap.size v3 w') 15 (by kernel_rfl) ?_
    intro G hG
    have K301 : ∀ (v : World) (hk : Below v3.heap.size v3 v) (t4A : Option Addr) (t4C : Nat) (t5A : Option Addr) (t5C : Nat) (w0A : Option Addr) (w0C : Nat) (w1A : Option Addr) (w1C : Nat) (lo hi : Nat) (e1 : v3.heap.size ≤ lo) (e2 : hi ≤ v.heap.size) (ow0 : Own 2 v lo hi (.slice w0A (trnR xFromB xFromZ xToB xToZ).2.1.length w0C) (trnR xFromB xFromZ xToB xToZ).2.1) (ow1 : Own 2 v lo hi (.slice w1A (trnR xFromB xFromZ xToB xToZ).2.2.2.1.length w1C) (trnR xFromB xFromZ xToB xToZ).2.2.2.1) (g0 : Nat) (b0 : Bx v g0 26 #[.int .i64 0, .slice none 0 0]) (l0 : v3.heap.size ≤ g0) (d0 : g0 < lo ∨ hi ≤ g0) (g1 : Nat) (b1 : Bx v g1 26 #[.int .i64 0, .slice none 0 0]) (l1 : v3.heap.size ≤ g1) (d1 : g1 < lo ∨ hi ≤ g1) (ne : ¬ g0 = g1), G [0, 2, 1, 3, 4, 5, 6, 7, 8, 9, 10, 11] [(34, .agg #[.int .i64 xFromB, .slice xFromA xFromZ.length xFromC]), (36, .agg #[.int .i64 xToB, .slice xToA xToZ.length xToC]), (35, .agg #[.int .i64 xFromB, .slice t4A xFromZ.length t4C]), (37, .agg #[.int .i64 xToB, .slice t5A xToZ.length t5C]), (38, .tuple #[.agg #[.int .i64 (trnR xFromB xFromZ xToB xToZ).1, .slice w0A (trnR xFromB xFromZ xToB xToZ).2.1.length w0C], .agg #[.int .i64 (trnR xFromB xFromZ xToB xToZ).2.2.1, .slice w1A (trnR xFromB xFromZ xToB xToZ).2.2.2.1.length w1C], .bool (trnR xFromB xFromZ xToB xToZ).2.2.2.2.1, .int .i64 (trnR xFromB xFromZ xToB xToZ).2.2.2.2.2]), (33, .tuple #[.agg #[.int .i64 (trnR xFromB xFromZ xToB xToZ).1, .slice w0A (trnR xFromB xFromZ xToB xToZ).2.1.length w0C], .agg #[.int .i64 (trnR xFromB xFromZ xToB xToZ).2.2.1, .slice w1A (trnR xFromB xFromZ xToB xToZ).2.2.2.1.length w1C], .bool (trnR xFromB xFromZ xToB xToZ).2.2.2.2.1, .int .i64 (trnR xFromB xFromZ xToB xToZ).2.2.2.2.2]), (39, .agg #[.int .i64 (trnR xFromB xFromZ xToB xToZ).1, .slice w0A (trnR xFromB xFromZ xToB xToZ).2.1.length w0C]), (40, .agg #[.int .i64 (trnR xFromB xFromZ xToB xToZ).2.2.1, .slice w1A (trnR xFromB xFromZ xToB xToZ).2.2.2.1.length w1C]), (41, .bool (trnR xFromB xFromZ xToB xToZ).2.2.2.2.1), (42, .int .i64 (trnR xFromB xFromZ xToB xToZ).2.2.2.2.2), (6, .pointer (some ⟨g0, 0, none⟩)), (7, .pointer (some ⟨g1, 0, none⟩))] v := by
      intro v hk t4A t4C t5A t5C w0A w0C w1A w1C lo hi e1 e2 ow0 ow1 g0 b0 l0 d0 g1 b1 l1 d1 ne
      refine (hG _ _ _).2 ?_
      show wpAnyM _ _ _ _ _ _ 4 _ _ _
      clear cxFrom0 cxFrom1 cxTo0 cxTo1
      simp only [puts, List.foldl_cons, List.foldl_nil, Act.put, List.setIfInBounds_toArray, List.set_cons_succ, List.set_cons_zero]
      have f00 := b0.thaw 0
      have z00 := b0.at_ 0 rfl
      have f01 := b0.thaw 1
      have z01 := b0.at_ 1 rfl
      have t0 := b0.lt
      have f10 := b1.thaw 0
      have z10 := b1.at_ 0 rfl
      have f11 := b1.thaw 1
      have z11 := b1.at_ 1 rfl
      have t1 := b1.lt
      have ne' := fun e => ne (Eq.symm e)
      refine wpAnyM_one (i := 12) (by kernel_rfl) rfl (by rfl) (fun K hK => ?_)
      go_simp
      refine hK _ _ (.inr (by repeat (first | with_reducible exact hk | with_reducible refine Below.setCell ?_ (by first | exact l0 | exact l1) _))) ?_
      clear hK K
      try simp only [Act.put, List.setIfInBounds_toArray]
      refine wpAnyM_one (i := 13) (by kernel_rfl) rfl (by rfl) (fun K hK => ?_)
      go_simp
      refine hK _ _ (.inr (by repeat (first | with_reducible exact hk | with_reducible refine Below.setCell ?_ (by first | exact l0 | exact l1) _))) ?_
      clear hK K
      try simp only [Act.put, List.setIfInBounds_toArray]
      refine wpAnyM_one (i := 14) (by kernel_rfl) rfl (by rfl) (fun K hK => ?_)
      go_simp
      refine hK _ _ (.inr (by repeat (first | with_reducible exact hk | with_reducible refine Below.setCell ?_ (by first | exact l0 | exact l1) _))) ?_
      clear hK K
      try simp only [Act.put, List.setIfInBounds_toArray]
      refine wpAnyM_one (i := 15) (by kernel_rfl) rfl (by rfl) (fun K hK => ?_)
      go_simp
      refine hK _ _ (.inl rfl) ?_
      clear hK K
      try simp only [Act.put, List.setIfInBounds_toArray]
      refine wpAnyM_done (by kernel_rfl) ?_ _
      go_wp2_with fail
      go_meet
      case rel => exact ⟨boxReg2_of hk e1 e2 ow0 ow1 b0 l0 d0 b1 l1 d1 ne, rfl, rfl⟩
    have K30 : ∀ (v : World) (hk : Below v3.heap.size v3 v) (t4A : Option Addr) (t4C : Nat) (t5A : Option Addr) (t5C : Nat) (w0A : Option Addr) (w0C : Nat) (w1A : Option Addr) (w1C : Nat) (lo hi : Nat) (e1 : v3.heap.size ≤ lo) (e2 : hi ≤ v.heap.size) (ow0 : Own 2 v lo hi (.slice w0A (trnR xFromB xFromZ xToB xToZ).2.1.length w0C) (trnR xFromB xFromZ xToB xToZ).2.1) (ow1 : Own 2 v lo hi (.slice w1A (trnR xFromB xFromZ xToB xToZ).2.2.2.1.length w1C) (trnR xFromB xFromZ xToB xToZ).2.2.2.1) (g0 : Nat) (b0 : Bx v g0 26 #[.int .i64 0, .slice none 0 0]) (l0 : v3.heap.size ≤ g0) (d0 : g0 < lo ∨ hi ≤ g0), G [0, 2, 1, 3, 4, 5, 6, 7, 8, 9, 10] [(34, .agg #[.int .i64 xFromB, .slice xFromA xFromZ.length xFromC]), (36, .agg #[.int .i64 xToB, .slice xToA xToZ.length xToC]), (35, .agg #[.int .i64 xFromB, .slice t4A xFromZ.length t4C]), (37, .agg #[.int .i64 xToB, .slice t5A xToZ.length t5C]), (38, .tuple #[.agg #[.int .i64 (trnR xFromB xFromZ xToB xToZ).1, .slice w0A (trnR xFromB xFromZ xToB xToZ).2.1.length w0C], .agg #[.int .i64 (trnR xFromB xFromZ xToB xToZ).2.2.1, .slice w1A (trnR xFromB xFromZ xToB xToZ).2.2.2.1.length w1C], .bool (trnR xFromB xFromZ xToB xToZ).2.2.2.2.1, .int .i64 (trnR xFromB xFromZ xToB xToZ).2.2.2.2.2]), (33, .tuple #[.agg #[.int .i64 (trnR xFromB xFromZ xToB xToZ).1, .slice w0A (trnR xFromB xFromZ xToB xToZ).2.1.length w0C], .agg #[.int .i64 (trnR xFromB xFromZ xToB xToZ).2.2.1, .slice w1A (trnR xFromB xFromZ xToB xToZ).2.2.2.1.length w1C], .bool (trnR xFromB xFromZ xToB xToZ).2.2.2.2.1, .int .i64 (trnR xFromB xFromZ xToB xToZ).2.2.2.2.2]), (39, .agg #[.int .i64 (trnR xFromB xFromZ xToB xToZ).1, .slice w0A (trnR xFromB xFromZ xToB xToZ).2.1.length w0C]), (40, .agg #[.int .i64 (trnR xFromB xFromZ xToB xToZ).2.2.1, .slice w1A (trnR xFromB xFromZ xToB xToZ).2.2.2.1.length w1C]), (41, .bool (trnR xFromB xFromZ xToB xToZ).2.2.2.2.1), (42, .int .i64 (trnR xFromB xFromZ xToB xToZ).2.2.2.2.2), (6, .pointer (some ⟨g0, 0, none⟩))] v := by
      intro v hk t4A t4C t5A t5C w0A w0C w1A w1C lo hi e1 e2 ow0 ow1 g0 b0 l0 d0
      refine (hG _ _ _).2 ?_
      show wpAnyM _ _ _ _ _ _ 5 _ _ _
      clear cxFrom0 cxFrom1 cxTo0 cxTo1
      simp only [puts, List.foldl_cons, List.foldl_nil, Act.put, List.setIfInBounds_toArray, List.set_cons_succ, List.set_cons_zero]
      refine wpAnyM_one (i := 11) (by kernel_rfl) rfl (by rfl) (fun K hK => ?_)
      go_simp
      have hb : Below v.heap.size v (v.alloc (.cells #[.int .i64 0, .slice none 0 0] 26)) := (Below.refl _ _).alloc (Nat.le_refl _) _
      have hk' := hk.trans (hb.mono hk.size)
      refine hK _ _ (.inr hk') ?_
      clear hK K
      exact cast (by kernel_rfl) ((hG _ _ _).1 (K301 (v.alloc (.cells #[.int .i64 0, .slice none 0 0] 26)) hk' t4A t4C t5A t5C w0A w0C w1A w1C lo hi e1 (Nat.le_trans e2 hb.size) (ow0.below hb) (ow1.below hb) g0 (b0.below hb) l0 d0 v.heap.size (Bx.new _ _ _) hk.size (.inr e2) (Nat.ne_of_lt b0.lt)))
    have K31 : ∀ (v : World) (hk : Below v3.heap.size v3 v) (t4A : Option Addr) (t4C : Nat) (t5A : Option Addr) (t5C : Nat) (w0A : Option Addr) (w0C : Nat) (w1A : Option Addr) (w1C : Nat) (lo hi : Nat) (e1 : v3.heap.size ≤ lo) (e2 : hi ≤ v.heap.size) (ow0 : Own 2 v lo hi (.slice w0A (trnR xFromB xFromZ xToB xToZ).2.1.length w0C) (trnR xFromB xFromZ xToB xToZ).2.1) (ow1 : Own 2 v lo hi (.slice w1A (trnR xFromB xFromZ xToB xToZ).2.2.2.1.length w1C) (trnR xFromB xFromZ xToB xToZ).2.2.2.1) (g1 : Nat) (b1 : Bx v g1 26 #[.int .i64 0, .slice none 0 0]) (l1 : v3.heap.size ≤ g1) (d1 : g1 < lo ∨ hi ≤ g1), G [0, 2, 1, 3, 4, 5, 6, 7, 8, 9, 11] [(34, .agg #[.int .i64 xFromB, .slice xFromA xFromZ.length xFromC]), (36, .agg #[.int .i64 xToB, .slice xToA xToZ.length xToC]), (35, .agg #[.int .i64 xFromB, .slice t4A xFromZ.length t4C]), (37, .agg #[.int .i64 xToB, .slice t5A xToZ.length t5C]), (38, .tuple #[.agg #[.int .i64 (trnR xFromB xFromZ xToB xToZ).1, .slice w0A (trnR xFromB xFromZ xToB xToZ).2.1.length w0C], .agg #[.int .i64 (trnR xFromB xFromZ xToB xToZ).2.2.1, .slice w1A (trnR xFromB xFromZ xToB xToZ).2.2.2.1.length w1C], .bool (trnR xFromB xFromZ xToB xToZ).2.2.2.2.1, .int .i64 (trnR xFromB xFromZ xToB xToZ).2.2.2.2.2]), (33, .tuple #[.agg #[.int .i64 (trnR xFromB xFromZ xToB xToZ).1, .slice w0A (trnR xFromB xFromZ xToB xToZ).2.1.length w0C], .agg #[.int .i64 (trnR xFromB xFromZ xToB xToZ).2.2.1, .slice w1A (trnR xFromB xFromZ xToB xToZ).2.2.2.1.length w1C], .bool (trnR xFromB xFromZ xToB xToZ).2.2.2.2.1, .int .i64 (trnR xFromB xFromZ xToB xToZ).2.2.2.2.2]), (39, .agg #[.int .i64 (trnR xFromB xFromZ xToB xToZ).1, .slice w0A (trnR xFromB xFromZ xToB xToZ).2.1.length w0C]), (40, .agg #[.int .i64 (trnR xFromB xFromZ xToB xToZ).2.2.1, .slice w1A (trnR xFromB xFromZ xToB xToZ).2.2.2.1.length w1C]), (41, .bool (trnR xFromB xFromZ xToB xToZ).2.2.2.2.1), (42, .int .i64 (trnR xFromB xFromZ xToB xToZ).2.2.2.2.2), (7, .pointer (some ⟨g1, 0, none⟩))] v := by
      intro v hk t4A t4C t5A t5C w0A w0C w1A w1C lo hi e1 e2 ow0 ow1 g1 b1 l1 d1
      refine (hG _ _ _).2 ?_
      show wpAnyM _ _ _ _ _ _ 5 _ _ _
      clear cxFrom0 cxFrom1 cxTo0 cxTo1
      simp only [puts, List.foldl_cons, List.foldl_nil, Act.put, List.setIfInBounds_toArray, List.set_cons_succ, List.set_cons_zero]
      refine wpAnyM_one (i := 10) (by kernel_rfl) rfl (by rfl) (fun K hK => ?_)
      go_simp
      have hb : Below v.heap.size v (v.alloc (.cells #[.int .i64 0, .slice none 0 0] 26)) := (Below.refl _ _).alloc (Nat.le_refl _) _
      have hk' := hk.trans (hb.mono hk.size)
      refine hK _ _ (.inr hk') ?_
      clear hK K
      exact cast (by kernel_rfl) ((hG _ _ _).1 (K301 (v.alloc (.cells #[.int .i64 0, .slice none 0 0] 26)) hk' t4A t4C t5A t5C w0A w0C w1A w1C lo hi e1 (Nat.le_trans e2 hb.size) (ow0.below hb) (ow1.below hb) v.heap.size (Bx.new _ _ _) hk.size (.inr e2) g1 (b1.below hb) l1 d1 (Nat.ne_of_gt b1.lt)))
    have K3 : ∀ (v : World) (hk : Below v3.heap.size v3 v) (t4A : Option Addr) (t4C : Nat) (t5A : Option Addr) (t5C : Nat) (w0A : Option Addr) (w0C : Nat) (w1A : Option Addr) (w1C : Nat) (lo hi : Nat) (e1 : v3.heap.size ≤ lo) (e2 : hi ≤ v.heap.size) (ow0 : Own 2 v lo hi (.slice w0A (trnR xFromB xFromZ xToB xToZ).2.1.length w0C) (trnR xFromB xFromZ xToB xToZ).2.1) (ow1 : Own 2 v lo hi (.slice w1A (trnR xFromB xFromZ xToB xToZ).2.2.2.1.length w1C) (trnR xFromB xFromZ xToB xToZ).2.2.2.1), G [0, 2, 1, 3, 4, 5, 6, 7, 8, 9] [(34, .agg #[.int .i64 xFromB, .slice xFromA xFromZ.length xFromC]), (36, .agg #[.int .i64 xToB, .slice xToA xToZ.length xToC]), (35, .agg #[.int .i64 xFromB, .slice t4A xFromZ.length t4C]), (37, .agg #[.int .i64 xToB, .slice t5A xToZ.length t5C]), (38, .tuple #[.agg #[.int .i64 (trnR xFromB xFromZ xToB xToZ).1, .slice w0A (trnR xFromB xFromZ xToB xToZ).2.1.length w0C], .agg #[.int .i64 (trnR xFromB xFromZ xToB xToZ).2.2.1, .slice w1A (trnR xFromB xFromZ xToB xToZ).2.2.2.1.length w1C], .bool (trnR xFromB xFromZ xToB xToZ).2.2.2.2.1, .int .i64 (trnR xFromB xFromZ xToB xToZ).2.2.2.2.2]), (33, .tuple #[.agg #[.int .i64 (trnR xFromB xFromZ xToB xToZ).1, .slice w0A (trnR xFromB xFromZ xToB xToZ).2.1.length w0C], .agg #[.int .i64 (trnR xFromB xFromZ xToB xToZ).2.2.1, .slice w1A (trnR xFromB xFromZ xToB xToZ).2.2.2.1.length w1C], .bool (trnR xFromB xFromZ xToB xToZ).2.2.2.2.1, .int .i64 (trnR xFromB xFromZ xToB xToZ).2.2.2.2.2]), (39, .agg #[.int .i64 (trnR xFromB xFromZ xToB xToZ).1, .slice w0A (trnR xFromB xFromZ xToB xToZ).2.1.length w0C]), (40, .agg #[.int .i64 (trnR xFromB xFromZ xToB xToZ).2.2.1, .slice w1A (trnR xFromB xFromZ xToB xToZ).2.2.2.1.length w1C]), (41, .bool (trnR xFromB xFromZ xToB xToZ).2.2.2.2.1), (42, .int .i64 (trnR xFromB xFromZ xToB xToZ).2.2.2.2.2)] v := by
      intro v hk t4A t4C t5A t5C w0A w0C w1A w1C lo hi e1 e2 ow0 ow1
      refine (hG _ _ _).2 ?_
      show wpAnyM _ _ _ _ _ _ 6 _ _ _
      clear cxFrom0 cxFrom1 cxTo0 cxTo1
      simp only [puts, List.foldl_cons, List.foldl_nil, Act.put, List.setIfInBounds_toArray, List.set_cons_succ, List.set_cons_zero]
      refine wpAnyM_two (i := 10) (j := 11) (by kernel_rfl) rfl rfl (by rfl) (by rfl) ?_ ?_
      · intro K hK
        go_simp
        have hb : Below v.heap.size v (v.alloc (.cells #[.int .i64 0, .slice none 0 0] 26)) := (Below.refl _ _).alloc (Nat.le_refl _) _
        have hk' := hk.trans (hb.mono hk.size)
        refine hK _ _ (.inr hk') ?_
        clear hK K
        exact cast (by kernel_rfl) ((hG _ _ _).1 (K30 (v.alloc (.cells #[.int .i64 0, .slice none 0 0] 26)) hk' t4A t4C t5A t5C w0A w0C w1A w1C lo hi e1 (Nat.le_trans e2 hb.size) (ow0.below hb) (ow1.below hb) v.heap.size (Bx.new _ _ _) hk.size (.inr e2)))
      · intro K hK
        go_simp
        have hb : Below v.heap.size v (v.alloc (.cells #[.int .i64 0, .slice none 0 0] 26)) := (Below.refl _ _).alloc (Nat.le_refl _) _
        have hk' := hk.trans (hb.mono hk.size)
        refine hK _ _ (.inr hk') ?_
        clear hK K
        exact cast (by kernel_rfl) ((hG _ _ _).1 (K31 (v.alloc (.cells #[.int .i64 0, .slice none 0 0] 26)) hk' t4A t4C t5A t5C w0A w0C w1A w1C lo hi e1 (Nat.le_trans e2 hb.size) (ow0.below hb) (ow1.below hb) v.heap.size (Bx.new _ _ _) hk.size (.inr e2)))
    have K201 : ∀ (v : World) (hk : Below v3.heap.size v3 v) (t4A : Option Addr) (t4C : Nat) (r0 : Rd v t4A xFromZ) (t5A : Option Addr) (t5C : Nat) (r1 : Rd v t5A xToZ) (g0 : Nat) (b0 : Bx v g0 26 #[.int .i64 0, .slice none 0 0]) (l0 : v3.heap.size ≤ g0) (g1 : Nat) (b1 : Bx v g1 26 #[.int .i64 0, .slice none 0 0]) (l1 : v3.heap.size ≤ g1) (ne : ¬ g0 = g1), G [0, 2, 1, 3, 10, 11] [(34, .agg #[.int .i64 xFromB, .slice xFromA xFromZ.length xFromC]), (36, .agg #[.int .i64 xToB, .slice xToA xToZ.length xToC]), (35, .agg #[.int .i64 xFromB, .slice t4A xFromZ.length t4C]), (37, .agg #[.int .i64 xToB, .slice t5A xToZ.length t5C]), (6, .pointer (some ⟨g0, 0, none⟩)), (7, .pointer (some ⟨g1, 0, none⟩))] v := by
      intro v hk t4A t4C r0 t5A t5C r1 g0 b0 l0 g1 b1 l1 ne
      refine (hG _ _ _).2 ?_
      show wpAnyM _ _ _ _ _ _ 10 _ _ _
      clear cxFrom0 cxFrom1 cxTo0 cxTo1
      simp only [puts, List.foldl_cons, List.foldl_nil, Act.put, List.setIfInBounds_toArray, List.set_cons_succ, List.set_cons_zero]
      refine wpAnyM_one (i := 4) (by kernel_rfl) rfl (by rfl) (fun K hK => ?_)
      go_simp
      have qB := hk
      with_reducible refine (specTransferToL xFromB t4A t4C xFromZ xToB t5A t5C xToZ v r0 zxFrom bxFrom r1 zxTo bxTo).mono ?_
      rintro e v' ⟨w0A, w0C, w1A, w1C, rfl, ow0, ow1, hb⟩
      have hk' := hk.trans (hb.mono hk.size)
      refine hK _ _ (.inr hk') ?_
      clear hK K
      try simp only [Act.put, List.setIfInBounds_toArray]
      refine wpAnyM_pure (i := 5) (v := ?_) rfl (by kernel_rfl) (by kernel_rfl) (by kernel_rfl) (by kernel_rfl) (fun _ _ _ h => h) (.inr hk') (.inl ⟨by rfl, ?_⟩) ?_
      rotate_left 1
      · intro w' hS'; go_simp; try with_reducible rfl
      simp only [Act.put, List.setIfInBounds_toArray]
      refine wpAnyM_pure (i := 6) (v := ?_) rfl (by kernel_rfl) (by kernel_rfl) (by kernel_rfl) (by kernel_rfl) (fun _ _ _ h => h) (.inr hk') (.inl ⟨by rfl, ?_⟩) ?_
      rotate_left 1
      · intro w' hS'; go_simp; try with_reducible rfl
      simp only [Act.put]
      refine wpAnyM_pure (i := 7) (v := ?_) rfl (by kernel_rfl) (by kernel_rfl) (by kernel_rfl) (by kernel_rfl) (fun _ _ _ h => h) (.inr hk') (.inl ⟨by rfl, ?_⟩) ?_
      rotate_left 1
      · intro w' hS'; go_simp; try with_reducible rfl
      simp only [Act.put]
      refine wpAnyM_pure (i := 8) (v := ?_) rfl (by kernel_rfl) (by kernel_rfl) (by kernel_rfl) (by kernel_rfl) (fun _ _ _ h => h) (.inr hk') (.inl ⟨by rfl, ?_⟩) ?_
      rotate_left 1
      · intro w' hS'; go_simp; try with_reducible rfl
      simp only [Act.put]
      refine wpAnyM_pure (i := 9) (v := ?_) rfl (by kernel_rfl) (by kernel_rfl) (by kernel_rfl) (by kernel_rfl) (fun _ _ _ h => h) (.inr hk') (.inl ⟨by rfl, ?_⟩) ?_
      rotate_left 1
      · intro w' hS'; go_simp; try with_reducible rfl
      simp only [Act.put]
      exact cast (by kernel_rfl) ((hG _ _ _).1 (K301 v' hk' t4A t4C t5A t5C w0A w0C w1A w1C v.heap.size v'.heap.size hk.size (Nat.le_refl _) ow0 ow1 g0 (b0.below hb) l0 (.inl b0.lt) g1 (b1.below hb) l1 (.inl b1.lt) ne))
    have K20 : ∀ (v : World) (hk : Below v3.heap.size v3 v) (t4A : Option Addr) (t4C : Nat) (r0 : Rd v t4A xFromZ) (t5A : Option Addr) (t5C : Nat) (r1 : Rd v t5A xToZ) (g0 : Nat) (b0 : Bx v g0 26 #[.int .i64 0, .slice none 0 0]) (l0 : v3.heap.size ≤ g0), G [0, 2, 1, 3, 10] [(34, .agg #[.int .i64 xFromB, .slice xFromA xFromZ.length xFromC]), (36, .agg #[.int .i64 xToB, .slice xToA xToZ.length xToC]), (35, .agg #[.int .i64 xFromB, .slice t4A xFromZ.length t4C]), (37, .agg #[.int .i64 xToB, .slice t5A xToZ.length t5C]), (6, .pointer (some ⟨g0, 0, none⟩))] v := by
      intro v hk t4A t4C r0 t5A t5C r1 g0 b0 l0
      refine (hG _ _ _).2 ?_
      show wpAnyM _ _ _ _ _ _ 11 _ _ _
      clear cxFrom0 cxFrom1 cxTo0 cxTo1
      simp only [puts, List.foldl_cons, List.foldl_nil, Act.put, List.setIfInBounds_toArray, List.set_cons_succ, List.set_cons_zero]
      refine wpAnyM_two (i := 4) (j := 11) (by kernel_rfl) rfl rfl (by rfl) (by rfl) ?_ ?_
      · intro K hK
        go_simp
        have qB := hk
        with_reducible refine (specTransferToL xFromB t4A t4C xFromZ xToB t5A t5C xToZ v r0 zxFrom bxFrom r1 zxTo bxTo).mono ?_
        rintro e v' ⟨w0A, w0C, w1A, w1C, rfl, ow0, ow1, hb⟩
        have hk' := hk.trans (hb.mono hk.size)
        refine hK _ _ (.inr hk') ?_
        clear hK K
        try simp only [Act.put, List.setIfInBounds_toArray]
        refine wpAnyM_pure (i := 5) (v := ?_) rfl (by kernel_rfl) (by kernel_rfl) (by kernel_rfl) (by kernel_rfl) (fun _ _ _ h => h) (.inr hk') (.inl ⟨by rfl, ?_⟩) ?_
        rotate_left 1
        · intro w' hS'; go_simp; try with_reducible rfl
        simp only [Act.put, List.setIfInBounds_toArray]
        refine wpAnyM_pure (i := 6) (v := ?_) rfl (by kernel_rfl) (by kernel_rfl) (by kernel_rfl) (by kernel_rfl) (fun _ _ _ h => h) (.inr hk') (.inl ⟨by rfl, ?_⟩) ?_
        rotate_left 1
        · intro w' hS'; go_simp; try with_reducible rfl
        simp only [Act.put]
        refine wpAnyM_pure (i := 7) (v := ?_) rfl (by kernel_rfl) (by kernel_rfl) (by kernel_rfl) (by kernel_rfl) (fun _ _ _ h => h) (.inr hk') (.inl ⟨by rfl, ?_⟩) ?_
        rotate_left 1
        · intro w' hS'; go_simp; try with_reducible rfl
        simp only [Act.put]
        refine wpAnyM_pure (i := 8) (v := ?_) rfl (by kernel_rfl) (by kernel_rfl) (by kernel_rfl) (by kernel_rfl) (fun _ _ _ h => h) (.inr hk') (.inl ⟨by rfl, ?_⟩) ?_
        rotate_left 1
        · intro w' hS'; go_simp; try with_reducible rfl
        simp only [Act.put]
        refine wpAnyM_pure (i := 9) (v := ?_) rfl (by kernel_rfl) (by kernel_rfl) (by kernel_rfl) (by kernel_rfl) (fun _ _ _ h => h) (.inr hk') (.inl ⟨by rfl, ?_⟩) ?_
        rotate_left 1
        · intro w' hS'; go_simp; try with_reducible rfl
        simp only [Act.put]
        exact cast (by kernel_rfl) ((hG _ _ _).1 (K30 v' hk' t4A t4C t5A t5C w0A w0C w1A w1C v.heap.size v'.heap.size hk.size (Nat.le_refl _) ow0 ow1 g0 (b0.below hb) l0 (.inl b0.lt)))
      · intro K hK
        go_simp
        have hb : Below v.heap.size v (v.alloc (.cells #[.int .i64 0, .slice none 0 0] 26)) := (Below.refl _ _).alloc (Nat.le_refl _) _
        have hk' := hk.trans (hb.mono hk.size)
        refine hK _ _ (.inr hk') ?_
        clear hK K
        exact cast (by kernel_rfl) ((hG _ _ _).1 (K201 (v.alloc (.cells #[.int .i64 0, .slice none 0 0] 26)) hk' t4A t4C (r0.below hb) t5A t5C (r1.below hb) g0 (b0.below hb) l0 v.heap.size (Bx.new _ _ _) hk.size (Nat.ne_of_lt b0.lt)))
    have K21 : ∀ (v : World) (hk : Below v3.heap.size v3 v) (t4A : Option Addr) (t4C : Nat) (r0 : Rd v t4A xFromZ) (t5A : Option Addr) (t5C : Nat) (r1 : Rd v t5A xToZ) (g1 : Nat) (b1 : Bx v g1 26 #[.int .i64 0, .slice none 0 0]) (l1 : v3.heap.size ≤ g1), G [0, 2, 1, 3, 11] [(34, .agg #[.int .i64 xFromB, .slice xFromA xFromZ.length xFromC]), (36, .agg #[.int .i64 xToB, .slice xToA xToZ.length xToC]), (35, .agg #[.int .i64 xFromB, .slice t4A xFromZ.length t4C]), (37, .agg #[.int .i64 xToB, .slice t5A xToZ.length t5C]), (7, .pointer (some ⟨g1, 0, none⟩))] v := by
      intro v hk t4A t4C r0 t5A t5C r1 g1 b1 l1
      refine (hG _ _ _).2 ?_
      show wpAnyM _ _ _ _ _ _ 11 _ _ _
      clear cxFrom0 cxFrom1 cxTo0 cxTo1
      simp only [puts, List.foldl_cons, List.foldl_nil, Act.put, List.setIfInBounds_toArray, List.set_cons_succ, List.set_cons_zero]
      refine wpAnyM_two (i := 4) (j := 10) (by kernel_rfl) rfl rfl (by rfl) (by rfl) ?_ ?_
      · intro K hK
        go_simp
        have qB := hk
        with_reducible refine (specTransferToL xFromB t4A t4C xFromZ xToB t5A t5C xToZ v r0 zxFrom bxFrom r1 zxTo bxTo).mono ?_
        rintro e v' ⟨w0A, w0C, w1A, w1C, rfl, ow0, ow1, hb⟩
        have hk' := hk.trans (hb.mono hk.size)
        refine hK _ _ (.inr hk') ?_
        clear hK K
        try simp only [Act.put, List.setIfInBounds_toArray]
        refine wpAnyM_pure (i := 5) (v := ?_) rfl (by kernel_rfl) (by kernel_rfl) (by kernel_rfl) (by kernel_rfl) (fun _ _ _ h => h) (.inr hk') (.inl ⟨by rfl, ?_⟩) ?_
        rotate_left 1
        · intro w' hS'; go_simp; try with_reducible rfl
        simp only [Act.put, List.setIfInBounds_toArray]
        refine wpAnyM_pure (i := 6) (v := ?_) rfl (by kernel_rfl) (by kernel_rfl) (by kernel_rfl) (by kernel_rfl) (fun _ _ _ h => h) (.inr hk') (.inl ⟨by rfl, ?_⟩) ?_
        rotate_left 1
        · intro w' hS'; go_simp; try with_reducible rfl
        simp only [Act.put]
        refine wpAnyM_pure (i := 7) (v := ?_) rfl (by kernel_rfl) (by kernel_rfl) (by kernel_rfl) (by kernel_rfl) (fun _ _ _ h => h) (.inr hk') (.inl ⟨by rfl, ?_⟩) ?_
        rotate_left 1
        · intro w' hS'; go_simp; try with_reducible rfl
        simp only [Act.put]
        refine wpAnyM_pure (i := 8) (v := ?_) rfl (by kernel_rfl) (by kernel_rfl) (by kernel_rfl) (by kernel_rfl) (fun _ _ _ h => h) (.inr hk') (.inl ⟨by rfl, ?_⟩) ?_
        rotate_left 1
        · intro w' hS'; go_simp; try with_reducible rfl
        simp only [Act.put]
        refine wpAnyM_pure (i := 9) (v := ?_) rfl (by kernel_rfl) (by kernel_rfl) (by kernel_rfl) (by kernel_rfl) (fun _ _ _ h => h) (.inr hk') (.inl ⟨by rfl, ?_⟩) ?_
        rotate_left 1
        · intro w' hS'; go_simp; try with_reducible rfl
        simp only [Act.put]
        exact cast (by kernel_rfl) ((hG _ _ _).1 (K31 v' hk' t4A t4C t5A t5C w0A w0C w1A w1C v.heap.size v'.heap.size hk.size (Nat.le_refl _) ow0 ow1 g1 (b1.below hb) l1 (.inl b1.lt)))
      · intro K hK
        go_simp
        have hb : Below v.heap.size v (v.alloc (.cells #[.int .i64 0, .slice none 0 0] 26)) := (Below.refl _ _).alloc (Nat.le_refl _) _
        have hk' := hk.trans (hb.mono hk.size)
        refine hK _ _ (.inr hk') ?_
        clear hK K
        exact cast (by kernel_rfl) ((hG _ _ _).1 (K201 (v.alloc (.cells #[.int .i64 0, .slice none 0 0] 26)) hk' t4A t4C (r0.below hb) t5A t5C (r1.below hb) v.heap.size (Bx.new _ _ _) hk.size g1 (b1.below hb) l1 (Nat.ne_of_gt b1.lt)))
    have K2 : ∀ (v : World) (hk : Below v3.heap.size v3 v) (t4A : Option Addr) (t4C : Nat) (r0 : Rd v t4A xFromZ) (t5A : Option Addr) (t5C : Nat) (r1 : Rd v t5A xToZ), G [0, 2, 1, 3] [(34, .agg #[.int .i64 xFromB, .slice xFromA xFromZ.length xFromC]), (36, .agg #[.int .i64 xToB, .slice xToA xToZ.length xToC]), (35, .agg #[.int .i64 xFromB, .slice t4A xFromZ.length t4C]), (37, .agg #[.int .i64 xToB, .slice t5A xToZ.length t5C])] v := by
      intro v hk t4A t4C r0 t5A t5C r1
      refine (hG _ _ _).2 ?_
      show wpAnyM _ _ _ _ _ _ 12 _ _ _
      clear cxFrom0 cxFrom1 cxTo0 cxTo1
      simp only [puts, List.foldl_cons, List.foldl_nil, Act.put, List.setIfInBounds_toArray, List.set_cons_succ, List.set_cons_zero]
      refine wpAnyM_three (i := 4) (j := 10) (k := 11) (by kernel_rfl) rfl rfl rfl (by rfl) (by rfl) (by rfl) ?_ ?_ ?_
      · intro K hK
        go_simp
        have qB := hk
        with_reducible refine (specTransferToL xFromB t4A t4C xFromZ xToB t5A t5C xToZ v r0 zxFrom bxFrom r1 zxTo bxTo).mono ?_
        rintro e v' ⟨w0A, w0C, w1A, w1C, rfl, ow0, ow1, hb⟩
        have hk' := hk.trans (hb.mono hk.size)
        refine hK _ _ (.inr hk') ?_
        clear hK K
        try simp only [Act.put, List.setIfInBounds_toArray]
        refine wpAnyM_pure (i := 5) (v := ?_) rfl (by kernel_rfl) (by kernel_rfl) (by kernel_rfl) (by kernel_rfl) (fun _ _ _ h => h) (.inr hk') (.inl ⟨by rfl, ?_⟩) ?_
        rotate_left 1
        · intro w' hS'; go_simp; try with_reducible rfl
        simp only [Act.put, List.setIfInBounds_toArray]
        refine wpAnyM_pure (i := 6) (v := ?_) rfl (by kernel_rfl) (by kernel_rfl) (by kernel_rfl) (by kernel_rfl) (fun _ _ _ h => h) (.inr hk') (.inl ⟨by rfl, ?_⟩) ?_
        rotate_left 1
        · intro w' hS'; go_simp; try with_reducible rfl
        simp only [Act.put]
        refine wpAnyM_pure (i := 7) (v := ?_) rfl (by kernel_rfl) (by kernel_rfl) (by kernel_rfl) (by kernel_rfl) (fun _ _ _ h => h) (.inr hk') (.inl ⟨by rfl, ?_⟩) ?_
        rotate_left 1
        · intro w' hS'; go_simp; try with_reducible rfl
        simp only [Act.put]
        refine wpAnyM_pure (i := 8) (v := ?_) rfl (by kernel_rfl) (by kernel_rfl) (by kernel_rfl) (by kernel_rfl) (fun _ _ _ h => h) (.inr hk') (.inl ⟨by rfl, ?_⟩) ?_
        rotate_left 1
        · intro w' hS'; go_simp; try with_reducible rfl
        simp only [Act.put]
        refine wpAnyM_pure (i := 9) (v := ?_) rfl (by kernel_rfl) (by kernel_rfl) (by kernel_rfl) (by kernel_rfl) (fun _ _ _ h => h) (.inr hk') (.inl ⟨by rfl, ?_⟩) ?_
        rotate_left 1
        · intro w' hS'; go_simp; try with_reducible rfl
        simp only [Act.put]
        exact cast (by kernel_rfl) ((hG _ _ _).1 (K3 v' hk' t4A t4C t5A t5C w0A w0C w1A w1C v.heap.size v'.heap.size hk.size (Nat.le_refl _) ow0 ow1))
      · intro K hK
        go_simp
        have hb : Below v.heap.size v (v.alloc (.cells #[.int .i64 0, .slice none 0 0] 26)) := (Below.refl _ _).alloc (Nat.le_refl _) _
        have hk' := hk.trans (hb.mono hk.size)
        refine hK _ _ (.inr hk') ?_
        clear hK K
        exact cast (by kernel_rfl) ((hG _ _ _).1 (K20 (v.alloc (.cells #[.int .i64 0, .slice none 0 0] 26)) hk' t4A t4C (r0.below hb) t5A t5C (r1.below hb) v.heap.size (Bx.new _ _ _) hk.size))
      · intro K hK
        go_simp
        have hb : Below v.heap.size v (v.alloc (.cells #[.int .i64 0, .slice none 0 0] 26)) := (Below.refl _ _).alloc (Nat.le_refl _) _
        have hk' := hk.trans (hb.mono hk.size)
        refine hK _ _ (.inr hk') ?_
        clear hK K
        exact cast (by kernel_rfl) ((hG _ _ _).1 (K21 (v.alloc (.cells #[.int .i64 0, .slice none 0 0] 26)) hk' t4A t4C (r0.below hb) t5A t5C (r1.below hb) v.heap.size (Bx.new _ _ _) hk.size))
    have K101 : ∀ (v : World) (hk : Below v3.heap.size v3 v) (t4A : Option Addr) (t4C : Nat) (r0 : Rd v t4A xFromZ) (g0 : Nat) (b0 : Bx v g0 26 #[.int .i64 0, .slice none 0 0]) (l0 : v3.heap.size ≤ g0) (g1 : Nat) (b1 : Bx v g1 26 #[.int .i64 0, .slice none 0 0]) (l1 : v3.heap.size ≤ g1) (ne : ¬ g0 = g1), G [0, 2, 1, 10, 11] [(34, .agg #[.int .i64 xFromB, .slice xFromA xFromZ.length xFromC]), (36, .agg #[.int .i64 xToB, .slice xToA xToZ.length xToC]), (35, .agg #[.int .i64 xFromB, .slice t4A xFromZ.length t4C]), (6, .pointer (some ⟨g0, 0, none⟩)), (7, .pointer (some ⟨g1, 0, none⟩))] v := by
      intro v hk t4A t4C r0 g0 b0 l0 g1 b1 l1 ne
      refine (hG _ _ _).2 ?_
      show wpAnyM _ _ _ _ _ _ 11 _ _ _
      clear cxFrom0 cxFrom1 cxTo0 cxTo1
      simp only [puts, List.foldl_cons, List.foldl_nil, Act.put, List.setIfInBounds_toArray, List.set_cons_succ, List.set_cons_zero]
      refine wpAnyM_one (i := 3) (by kernel_rfl) rfl (by rfl) (fun K hK => ?_)
      go_simp
      have qB := hk
      with_reducible refine (toRegister_any xToB xToA xToC xToZ v (hxTo.below (hbel.trans (hk.mono hbel.size)))).mono ?_
      rintro e v' ⟨t5A, t5C, rfl, ot5, hb⟩
      have hk' := hk.trans (hb.mono hk.size)
      refine hK _ _ (.inr hk') ?_
      clear hK K
      exact cast (by kernel_rfl) ((hG _ _ _).1 (K201 v' hk' t4A t4C (r0.below hb) t5A t5C ot5.rd g0 (b0.below hb) l0 g1 (b1.below hb) l1 ne))
    have K10 : ∀ (v : World) (hk : Below v3.heap.size v3 v) (t4A : Option Addr) (t4C : Nat) (r0 : Rd v t4A xFromZ) (g0 : Nat) (b0 : Bx v g0 26 #[.int .i64 0, .slice none 0 0]) (l0 : v3.heap.size ≤ g0), G [0, 2, 1, 10] [(34, .agg #[.int .i64 xFromB, .slice xFromA xFromZ.length xFromC]), (36, .agg #[.int .i64 xToB, .slice xToA xToZ.length xToC]), (35, .agg #[.int .i64 xFromB, .slice t4A xFromZ.length t4C]), (6, .pointer (some ⟨g0, 0, none⟩))] v := by
      intro v hk t4A t4C r0 g0 b0 l0
      refine (hG _ _ _).2 ?_
      show wpAnyM _ _ _ _ _ _ 12 _ _ _
      clear cxFrom0 cxFrom1 cxTo0 cxTo1
      simp only [puts, List.foldl_cons, List.foldl_nil, Act.put, List.setIfInBounds_toArray, List.set_cons_succ, List.set_cons_zero]
      refine wpAnyM_two (i := 3) (j := 11) (by kernel_rfl) rfl rfl (by rfl) (by rfl) ?_ ?_
      · intro K hK
        go_simp
        have qB := hk
        with_reducible refine (toRegister_any xToB xToA xToC xToZ v (hxTo.below (hbel.trans (hk.mono hbel.size)))).mono ?_
        rintro e v' ⟨t5A, t5C, rfl, ot5, hb⟩
        have hk' := hk.trans (hb.mono hk.size)
        refine hK _ _ (.inr hk') ?_
        clear hK K
        exact cast (by kernel_rfl) ((hG _ _ _).1 (K20 v' hk' t4A t4C (r0.below hb) t5A t5C ot5.rd g0 (b0.below hb) l0))
      · intro K hK
        go_simp
        have hb : Below v.heap.size v (v.alloc (.cells #[.int .i64 0, .slice none 0 0] 26)) := (Below.refl _ _).alloc (Nat.le_refl _) _
        have hk' := hk.trans (hb.mono hk.size)
        refine hK _ _ (.inr hk') ?_
        clear hK K
        exact cast (by kernel_rfl) ((hG _ _ _).1 (K101 (v.alloc (.cells #[.int .i64 0, .slice none 0 0] 26)) hk' t4A t4C (r0.below hb) g0 (b0.below hb) l0 v.heap.size (Bx.new _ _ _) hk.size (Nat.ne_of_lt b0.lt)))
    have K11 : ∀ (v : World) (hk : Below v3.heap.size v3 v) (t4A : Option Addr) (t4C : Nat) (r0 : Rd v t4A xFromZ) (g1 : Nat) (b1 : Bx v g1 26 #[.int .i64 0, .slice none 0 0]) (l1 : v3.heap.size ≤ g1), G [0, 2, 1, 11] [(34, .agg #[.int .i64 xFromB, .slice xFromA xFromZ.length xFromC]), (36, .agg #[.int .i64 xToB, .slice xToA xToZ.length xToC]), (35, .agg #[.int .i64 xFromB, .slice t4A xFromZ.length t4C]), (7, .pointer (some ⟨g1, 0, none⟩))] v := by
      intro v hk t4A t4C r0 g1 b1 l1
      refine (hG _ _ _).2 ?_
      show wpAnyM _ _ _ _ _ _ 12 _ _ _
      clear cxFrom0 cxFrom1 cxTo0 cxTo1
      simp only [puts, List.foldl_cons, List.foldl_nil, Act.put, List.setIfInBounds_toArray, List.set_cons_succ, List.set_cons_zero]
      refine wpAnyM_two (i := 3) (j := 10) (by kernel_rfl) rfl rfl (by rfl) (by rfl) ?_ ?_
      · intro K hK
        go_simp
        have qB := hk
        with_reducible refine (toRegister_any xToB xToA xToC xToZ v (hxTo.below (hbel.trans (hk.mono hbel.size)))).mono ?_
        rintro e v' ⟨t5A, t5C, rfl, ot5, hb⟩
        have hk' := hk.trans (hb.mono hk.size)
        refine hK _ _ (.inr hk') ?_
        clear hK K
        exact cast (by kernel_rfl) ((hG _ _ _).1 (K21 v' hk' t4A t4C (r0.below hb) t5A t5C ot5.rd g1 (b1.below hb) l1))
      · intro K hK
        go_simp
        have hb : Below v.heap.size v (v.alloc (.cells #[.int .i64 0, .slice none 0 0] 26)) := (Below.refl _ _).alloc (Nat.le_refl _) _
        have hk' := hk.trans (hb.mono hk.size)
        refine hK _ _ (.inr hk') ?_
        clear hK K
        exact cast (by kernel_rfl) ((hG _ _ _).1 (K101 (v.alloc (.cells #[.int .i64 0, .slice none 0 0] 26)) hk' t4A t4C (r0.below hb) v.heap.size (Bx.new _ _ _) hk.size g1 (b1.below hb) l1 (Nat.ne_of_gt b1.lt)))
    have K1 : ∀ (v : World) (hk : Below v3.heap.size v3 v) (t4A : Option Addr) (t4C : Nat) (r0 : Rd v t4A xFromZ), G [0, 2, 1] [(34, .agg #[.int .i64 xFromB, .slice xFromA xFromZ.length xFromC]), (36, .agg #[.int .i64 xToB, .slice xToA xToZ.length xToC]), (35, .agg #[.int .i64 xFromB, .slice t4A xFromZ.length t4C])] v := by
      intro v hk t4A t4C r0
      refine (hG _ _ _).2 ?_
      show wpAnyM _ _ _ _ _ _ 13 _ _ _
      clear cxFrom0 cxFrom1 cxTo0 cxTo1
      simp only [puts, List.foldl_cons, List.foldl_nil, Act.put, List.setIfInBounds_toArray, List.set_cons_succ, List.set_cons_zero]
      refine wpAnyM_three (i := 3) (j := 10) (k := 11) (by kernel_rfl) rfl rfl rfl (by rfl) (by rfl) (by rfl) ?_ ?_ ?_
      · intro K hK
        go_simp
        have qB := hk
        with_reducible refine (toRegister_any xToB xToA xToC xToZ v (hxTo.below (hbel.trans (hk.mono hbel.size)))).mono ?_
        rintro e v' ⟨t5A, t5C, rfl, ot5, hb⟩
        have hk' := hk.trans (hb.mono hk.size)
        refine hK _ _ (.inr hk') ?_
        clear hK K
        exact cast (by kernel_rfl) ((hG _ _ _).1 (K2 v' hk' t4A t4C (r0.below hb) t5A t5C ot5.rd))
      · intro K hK
        go_simp
        have hb : Below v.heap.size v (v.alloc (.cells #[.int .i64 0, .slice none 0 0] 26)) := (Below.refl _ _).alloc (Nat.le_refl _) _
        have hk' := hk.trans (hb.mono hk.size)
        refine hK _ _ (.inr hk') ?_
        clear hK K
        exact cast (by kernel_rfl) ((hG _ _ _).1 (K10 (v.alloc (.cells #[.int .i64 0, .slice none 0 0] 26)) hk' t4A t4C (r0.below hb) v.heap.size (Bx.new _ _ _) hk.size))
      · intro K hK
        go_simp
        have hb : Below v.heap.size v (v.alloc (.cells #[.int .i64 0, .slice none 0 0] 26)) := (Below.refl _ _).alloc (Nat.le_refl _) _
        have hk' := hk.trans (hb.mono hk.size)
        refine hK _ _ (.inr hk') ?_
        clear hK K
        exact cast (by kernel_rfl) ((hG _ _ _).1 (K11 (v.alloc (.cells #[.int .i64 0, .slice none 0 0] 26)) hk' t4A t4C (r0.below hb) v.heap.size (Bx.new _ _ _) hk.size))
    have K001 : ∀ (v : World) (hk : Below v3.heap.size v3 v) (g0 : Nat) (b0 : Bx v g0 26 #[.int .i64 0, .slice none 0 0]) (l0 : v3.heap.size ≤ g0) (g1 : Nat) (b1 : Bx v g1 26 #[.int .i64 0, .slice none 0 0]) (l1 : v3.heap.size ≤ g1) (ne : ¬ g0 = g1), G [0, 2, 10, 11] [(34, .agg #[.int .i64 xFromB, .slice xFromA xFromZ.length xFromC]), (36, .agg #[.int .i64 xToB, .slice xToA xToZ.length xToC]), (6, .pointer (some ⟨g0, 0, none⟩)), (7, .pointer (some ⟨g1, 0, none⟩))] v := by
      intro v hk g0 b0 l0 g1 b1 l1 ne
      refine (hG _ _ _).2 ?_
      show wpAnyM _ _ _ _ _ _ 12 _ _ _
      clear cxFrom0 cxFrom1 cxTo0 cxTo1
      simp only [puts, List.foldl_cons, List.foldl_nil, Act.put, List.setIfInBounds_toArray, List.set_cons_succ, List.set_cons_zero]
      refine wpAnyM_one (i := 1) (by kernel_rfl) rfl (by rfl) (fun K hK => ?_)
      go_simp
      have qB := hk
      with_reducible refine (toRegister_any xFromB xFromA xFromC xFromZ v (hxFrom.below (hbel.trans (hk.mono hbel.size)))).mono ?_
      rintro e v' ⟨t4A, t4C, rfl, ot4, hb⟩
      have hk' := hk.trans (hb.mono hk.size)
      refine hK _ _ (.inr hk') ?_
      clear hK K
      exact cast (by kernel_rfl) ((hG _ _ _).1 (K101 v' hk' t4A t4C ot4.rd g0 (b0.below hb) l0 g1 (b1.below hb) l1 ne))
    have K00 : ∀ (v : World) (hk : Below v3.heap.size v3 v) (g0 : Nat) (b0 : Bx v g0 26 #[.int .i64 0, .slice none 0 0]) (l0 : v3.heap.size ≤ g0), G [0, 2, 10] [(34, .agg #[.int .i64 xFromB, .slice xFromA xFromZ.length xFromC]), (36, .agg #[.int .i64 xToB, .slice xToA xToZ.length xToC]), (6, .pointer (some ⟨g0, 0, none⟩))] v := by
      intro v hk g0 b0 l0
      refine (hG _ _ _).2 ?_
      show wpAnyM _ _ _ _ _ _ 13 _ _ _
      clear cxFrom0 cxFrom1 cxTo0 cxTo1
      simp only [puts, List.foldl_cons, List.foldl_nil, Act.put, List.setIfInBounds_toArray, List.set_cons_succ, List.set_cons_zero]
      refine wpAnyM_two (i := 1) (j := 11) (by kernel_rfl) rfl rfl (by rfl) (by rfl) ?_ ?_
      · intro K hK
        go_simp
        have qB := hk
        with_reducible refine (toRegister_any xFromB xFromA xFromC xFromZ v (hxFrom.below (hbel.trans (hk.mono hbel.size)))).mono ?_
        rintro e v' ⟨t4A, t4C, rfl, ot4, hb⟩
        have hk' := hk.trans (hb.mono hk.size)
        refine hK _ _ (.inr hk') ?_
        clear hK K
        exact cast (by kernel_rfl) ((hG _ _ _).1 (K10 v' hk' t4A t4C ot4.rd g0 (b0.below hb) l0))
      · intro K hK
        go_simp
        have hb : Below v.heap.size v (v.alloc (.cells #[.int .i64 0, .slice none 0 0] 26)) := (Below.refl _ _).alloc (Nat.le_refl _) _
        have hk' := hk.trans (hb.mono hk.size)
        refine hK _ _ (.inr hk') ?_
        clear hK K
        exact cast (by kernel_rfl) ((hG _ _ _).1 (K001 (v.alloc (.cells #[.int .i64 0, .slice none 0 0] 26)) hk' g0 (b0.below hb) l0 v.heap.size (Bx.new _ _ _) hk.size (Nat.ne_of_lt b0.lt)))
    have K01 : ∀ (v : World) (hk : Below v3.heap.size v3 v) (g1 : Nat) (b1 : Bx v g1 26 #[.int .i64 0, .slice none 0 0]) (l1 : v3.heap.size ≤ g1), G [0, 2, 11] [(34, .agg #[.int .i64 xFromB, .slice xFromA xFromZ.length xFromC]), (36, .agg #[.int .i64 xToB, .slice xToA xToZ.length xToC]), (7, .pointer (some ⟨g1, 0, none⟩))] v := by
      intro v hk g1 b1 l1
      refine (hG _ _ _).2 ?_
      show wpAnyM _ _ _ _ _ _ 13 _ _ _
      clear cxFrom0 cxFrom1 cxTo0 cxTo1
      simp only [puts, List.foldl_cons, List.foldl_nil, Act.put, List.setIfInBounds_toArray, List.set_cons_succ, List.set_cons_zero]
      refine wpAnyM_two (i := 1) (j := 10) (by kernel_rfl) rfl rfl (by rfl) (by rfl) ?_ ?_
      · intro K hK
        go_simp
        have qB := hk
        with_reducible refine (toRegister_any xFromB xFromA xFromC xFromZ v (hxFrom.below (hbel.trans (hk.mono hbel.size)))).mono ?_
        rintro e v' ⟨t4A, t4C, rfl, ot4, hb⟩
        have hk' := hk.trans (hb.mono hk.size)
        refine hK _ _ (.inr hk') ?_
        clear hK K
        exact cast (by kernel_rfl) ((hG _ _ _).1 (K11 v' hk' t4A t4C ot4.rd g1 (b1.below hb) l1))
      · intro K hK
        go_simp
        have hb : Below v.heap.size v (v.alloc (.cells #[.int .i64 0, .slice none 0 0] 26)) := (Below.refl _ _).alloc (Nat.le_refl _) _
        have hk' := hk.trans (hb.mono hk.size)
        refine hK _ _ (.inr hk') ?_
        clear hK K
        exact cast (by kernel_rfl) ((hG _ _ _).1 (K001 (v.alloc (.cells #[.int .i64 0, .slice none 0 0] 26)) hk' v.heap.size (Bx.new _ _ _) hk.size g1 (b1.below hb) l1 (Nat.ne_of_gt b1.lt)))
    have K0 : ∀ (v : World) (hk : Below v3.heap.size v3 v), G [0, 2] [(34, .agg #[.int .i64 xFromB, .slice xFromA xFromZ.length xFromC]), (36, .agg #[.int .i64 xToB, .slice xToA xToZ.length xToC])] v := by
      intro v hk
      refine (hG _ _ _).2 ?_
      show wpAnyM _ _ _ _ _ _ 14 _ _ _
      clear cxFrom0 cxFrom1 cxTo0 cxTo1
      simp only [puts, List.foldl_cons, List.foldl_nil, Act.put, List.setIfInBounds_toArray, List.set_cons_succ, List.set_cons_zero]
      refine wpAnyM_three (i := 1) (j := 10) (k := 11) (by kernel_rfl) rfl rfl rfl (by rfl) (by rfl) (by rfl) ?_ ?_ ?_
      · intro K hK
        go_simp
        have qB := hk
        with_reducible refine (toRegister_any xFromB xFromA xFromC xFromZ v (hxFrom.below (hbel.trans (hk.mono hbel.size)))).mono ?_
        rintro e v' ⟨t4A, t4C, rfl, ot4, hb⟩
        have hk' := hk.trans (hb.mono hk.size)
        refine hK _ _ (.inr hk') ?_
        clear hK K
        exact cast (by kernel_rfl) ((hG _ _ _).1 (K1 v' hk' t4A t4C ot4.rd))
      · intro K hK
        go_simp
        have hb : Below v.heap.size v (v.alloc (.cells #[.int .i64 0, .slice none 0 0] 26)) := (Below.refl _ _).alloc (Nat.le_refl _) _
        have hk' := hk.trans (hb.mono hk.size)
        refine hK _ _ (.inr hk') ?_
        clear hK K
        exact cast (by kernel_rfl) ((hG _ _ _).1 (K00 (v.alloc (.cells #[.int .i64 0, .slice none 0 0] 26)) hk' v.heap.size (Bx.new _ _ _) hk.size))
      · intro K hK
        go_simp
        have hb : Below v.heap.size v (v.alloc (.cells #[.int .i64 0, .slice none 0 0] 26)) := (Below.refl _ _).alloc (Nat.le_refl _) _
        have hk' := hk.trans (hb.mono hk.size)
        refine hK _ _ (.inr hk') ?_
        clear hK K
        exact cast (by kernel_rfl) ((hG _ _ _).1 (K01 (v.alloc (.cells #[.int .i64 0, .slice none 0 0] 26)) hk' v.heap.size (Bx.new _ _ _) hk.size))
    refine (hG _ _ _).2 ?_
    show wpAnyM _ _ _ _ _ _ 16 _ _ _
    have hS : Below v3.heap.size v3 v3.drew := (Below.refl _ _).drew
    simp only [puts, List.foldl_nil]
    refine wpAnyM_take (i := 0) (v := ?_) rfl (by kernel_rfl) (by kernel_rfl) (by kernel_rfl) (by kernel_rfl) (by kernel_rfl) (fun _ _ _ h => h) hS (.inl ⟨by rfl, ?_⟩) ?_
    rotate_left 1
    · intro w' hS'; have q0 := kept hS' cxFrom0; have q1 := kept hS' cxFrom1; go_simp; try with_reducible rfl
    simp only [Act.put, List.setIfInBounds_toArray]
    refine wpAnyM_take (i := 2) (v := ?_) rfl (by kernel_rfl) (by kernel_rfl) (by kernel_rfl) (by kernel_rfl) (by kernel_rfl) (fun _ _ _ h => h) hS (.inl ⟨by rfl, ?_⟩) ?_
    rotate_left 1
    · intro w' hS'; have q0 := kept hS' cxTo0; have q1 := kept hS' cxTo1; go_simp; try with_reducible rfl
    simp only [Act.put]
    exact cast (by kernel_rfl) ((hG _ _ _).1 (K0 _ hS))
  case rest =>
  obtain ⟨⟨B6, B7, w0A, w0C, w1A, w1C, B6l, B6h, B7l, B7h, rfl, rfl, cw00, cw01, cw10, cw11, ow0, ow1, s8, s9, s10, s11, s12, s13, s14, s15, hb⟩, rfl, rfl⟩ := hcut
  obtain ⟨v4, rfl⟩ : ∃ u, u = wc := ⟨_, rfl⟩
  have s16 : Hid (v3.heap.size ≤ v4.heap.size) := Lib.hid hb.size
  replace cxFrom0 := kept hb cxFrom0
  replace cxFrom1 := kept hb cxFrom1
  replace cxTo0 := kept hb cxTo0
  replace cxTo1 := kept hb cxTo1
  replace hbel := hbel.trans (hb.mono hbel.size)
  clear hb
  go_wp2_with fail
  refine (toRegister_any xFromB xFromA xFromC xFromZ v4 (hxFrom.below hbel)).mono ?_
  rintro e v5 ⟨t17A, t17C, rfl, ot17, hb⟩
  have s18 : Hid (v4.heap.size ≤ v5.heap.size) := Lib.hid hb.size
  replace cxFrom0 := kept hb cxFrom0
  replace cxFrom1 := kept hb cxFrom1
  replace cxTo0 := kept hb cxTo0
  replace cxTo1 := kept hb cxTo1
  replace cw00 := kept hb cw00
  replace cw10 := kept hb cw10
  replace cw01 := kept hb cw01
  replace cw11 := kept hb cw11
  replace ow0 := ow0.below hb
  replace ow1 := ow1.below hb
  replace hbel := hbel.trans (hb.mono hbel.size)
  clear hb
  have ha19 : Below v5.heap.size v5 (v5.alloc (.cells #[.int .i64 xFromB, .slice t17A xFromZ.length t17C] 26)) := (Below.refl _ _).alloc (by simp <;> omega) _
  replace cxFrom0 := kept ha19 cxFrom0
  replace cxFrom1 := kept ha19 cxFrom1
  replace cxTo0 := kept ha19 cxTo0
  replace cxTo1 := kept ha19 cxTo1
  replace cw00 := kept ha19 cw00
  replace cw10 := kept ha19 cw10
  replace cw01 := kept ha19 cw01
  replace cw11 := kept ha19 cw11
  replace ow0 := ow0.below ha19
  replace ow1 := ow1.below ha19
  replace ot17 := ot17.below ha19
  replace hbel := hbel.trans (ha19.mono hbel.size)
  clear ha19
  have cx00 : (v5.alloc (.cells #[.int .i64 xFromB, .slice t17A xFromZ.length t17C] 26)).cell? ⟨v5.heap.size, 0, none⟩ = some (.int .i64 xFromB) := by go_simp
  have cx01 : (v5.alloc (.cells #[.int .i64 xFromB, .slice t17A xFromZ.length t17C] 26)).cell? ⟨v5.heap.size, 1, none⟩ = some (.slice t17A xFromZ.length t17C) := by go_simp
  go_wp2_with fail
  obtain ⟨v6, hu⟩ : ∃ u, u = (v5.alloc (.cells #[.int .i64 xFromB, .slice t17A xFromZ.length t17C] 26)) := ⟨_, rfl⟩
  have s21 : Hid (v5.heap.size + 1 ≤ v6.heap.size) := Lib.hid (by rw [hu]; simp)
  rw [← hu] at cxFrom0 cxFrom1 cxTo0 cxTo1 cw00 cw10 cw01 cw11 cx00 cx01 ow0 ow1 ot17 hbel ⊢
  clear hu
  refine (toRegister_any xToB xToA xToC xToZ v6 (hxTo.below hbel)).mono ?_
  rintro e v7 ⟨t20A, t20C, rfl, ot20, hb⟩
  have s22 : Hid (v6.heap.size ≤ v7.heap.size) := Lib.hid hb.size
  replace cxFrom0 := kept hb cxFrom0
  replace cxFrom1 := kept hb cxFrom1
  replace cxTo0 := kept hb cxTo0
  replace cxTo1 := kept hb cxTo1
  replace cw00 := kept hb cw00
  replace cw10 := kept hb cw10
  replace cw01 := kept hb cw01
  replace cw11 := kept hb cw11
  replace cx00 := kept hb cx00
  replace cx01 := kept hb cx01
  replace ow0 := ow0.below hb
  replace ow1 := ow1.below hb
  replace ot17 := ot17.below hb
  replace hbel := hbel.trans (hb.mono hbel.size)
  clear hb
  have ha23 : Below v7.heap.size v7 (v7.alloc (.cells #[.int .i64 xToB, .slice t20A xToZ.length t20C] 26)) := (Below.refl _ _).alloc (by simp <;> omega) _
  replace cxFrom0 := kept ha23 cxFrom0
  replace cxFrom1 := kept ha23 cxFrom1
  replace cxTo0 := kept ha23 cxTo0
  replace cxTo1 := kept ha23 cxTo1
  replace cw00 := kept ha23 cw00
  replace cw10 := kept ha23 cw10
  replace cw01 := kept ha23 cw01
  replace cw11 := kept ha23 cw11
  replace cx00 := kept ha23 cx00
  replace cx01 := kept ha23 cx01
  replace ow0 := ow0.below ha23
  replace ow1 := ow1.below ha23
  replace ot17 := ot17.below ha23
  replace ot20 := ot20.below ha23
  replace hbel := hbel.trans (ha23.mono hbel.size)
  clear ha23
  have cx10 : (v7.alloc (.cells #[.int .i64 xToB, .slice t20A xToZ.length t20C] 26)).cell? ⟨v7.heap.size, 0, none⟩ = some (.int .i64 xToB) := by go_simp
  have cx11 : (v7.alloc (.cells #[.int .i64 xToB, .slice t20A xToZ.length t20C] 26)).cell? ⟨v7.heap.size, 1, none⟩ = some (.slice t20A xToZ.length t20C) := by go_simp
  go_wp2_with fail
  obtain ⟨v8, hu⟩ : ∃ u, u = (v7.alloc (.cells #[.int .i64 xToB, .slice t20A xToZ.length t20C] 26)) := ⟨_, rfl⟩
  have s24 : Hid (v7.heap.size + 1 ≤ v8.heap.size) := Lib.hid (by rw [hu]; simp)
  rw [← hu] at cxFrom0 cxFrom1 cxTo0 cxTo1 cw00 cw10 cw01 cw11 cx00 cx01 cx10 cx11 ow0 ow1 ot17 ot20 hbel ⊢
  clear hu
  refine (implTransferTo xFromB t17A t17C xFromZ xToB t20A t20C xToZ v8 ot17.rd zxFrom bxFrom ot20.rd zxTo bxTo (door_below hD hbel)).mono ?_
  rintro e v9 ⟨g0A, g0C, g1A, g1C, g0m, rfl, og0, og1, g0m1, g0m2, hb⟩
  have s25 := Lib.hid g0m1
  have s26 := Lib.hid g0m2
  clear g0m1 g0m2
  have s27 : Hid (v8.heap.size ≤ v9.heap.size) := Lib.hid hb.size
  replace cxFrom0 := kept hb cxFrom0
  replace cxFrom1 := kept hb cxFrom1
  replace cxTo0 := kept hb cxTo0
  replace cxTo1 := kept hb cxTo1
  replace cw00 := kept hb cw00
  replace cw10 := kept hb cw10
  replace cw01 := kept hb cw01
  replace cw11 := kept hb cw11
  replace cx00 := kept hb cx00
  replace cx01 := kept hb cx01
  replace cx10 := kept hb cx10
  replace cx11 := kept hb cx11
  replace ow0 := ow0.below hb
  replace ow1 := ow1.below hb
  replace ot17 := ot17.below hb
  replace ot20 := ot20.below hb
  replace hbel := hbel.trans (hb.mono hbel.size)
  clear hb
  have ha28 : Below v9.heap.size v9 ((v9.alloc (.cells #[.int .i64 (trnR xFromB xFromZ xToB xToZ).1, .slice g0A (trnR xFromB xFromZ xToB xToZ).2.1.length g0C] 26)).alloc (.cells #[.int .i64 (trnR xFromB xFromZ xToB xToZ).2.2.1, .slice g1A (trnR xFromB xFromZ xToB xToZ).2.2.2.1.length g1C] 26)) := ((Below.refl _ _).alloc (by simp <;> omega) _).alloc (by simp <;> omega) _
  replace cxFrom0 := kept ha28 cxFrom0
  replace cxFrom1 := kept ha28 cxFrom1
  replace cxTo0 := kept ha28 cxTo0
  replace cxTo1 := kept ha28 cxTo1
  replace cw00 := kept ha28 cw00
  replace cw10 := kept ha28 cw10
  replace cw01 := kept ha28 cw01
  replace cw11 := kept ha28 cw11
  replace cx00 := kept ha28 cx00
  replace cx01 := kept ha28 cx01
  replace cx10 := kept ha28 cx10
  replace cx11 := kept ha28 cx11
  replace ow0 := ow0.below ha28
  replace ow1 := ow1.below ha28
  replace ot17 := ot17.below ha28
  replace ot20 := ot20.below ha28
  replace og1 := og1.below ha28
  replace og0 := og0.below ha28
  replace hbel := hbel.trans (ha28.mono hbel.size)
  clear ha28
  have cg00 : ((v9.alloc (.cells #[.int .i64 (trnR xFromB xFromZ xToB xToZ).1, .slice g0A (trnR xFromB xFromZ xToB xToZ).2.1.length g0C] 26)).alloc (.cells #[.int .i64 (trnR xFromB xFromZ xToB xToZ).2.2.1, .slice g1A (trnR xFromB xFromZ xToB xToZ).2.2.2.1.length g1C] 26)).cell? ⟨v9.heap.size, 0, none⟩ = some (.int .i64 (trnR xFromB xFromZ xToB xToZ).1) := by go_simp
  have cg01 : ((v9.alloc (.cells #[.int .i64 (trnR xFromB xFromZ xToB xToZ).1, .slice g0A (trnR xFromB xFromZ xToB xToZ).2.1.length g0C] 26)).alloc (.cells #[.int .i64 (trnR xFromB xFromZ xToB xToZ).2.2.1, .slice g1A (trnR xFromB xFromZ xToB xToZ).2.2.2.1.length g1C] 26)).cell? ⟨v9.heap.size, 1, none⟩ = some (.slice g0A (trnR xFromB xFromZ xToB xToZ).2.1.length g0C) := by go_simp
  have cg10 : ((v9.alloc (.cells #[.int .i64 (trnR xFromB xFromZ xToB xToZ).1, .slice g0A (trnR xFromB xFromZ xToB xToZ).2.1.length g0C] 26)).alloc (.cells #[.int .i64 (trnR xFromB xFromZ xToB xToZ).2.2.1, .slice g1A (trnR xFromB xFromZ xToB xToZ).2.2.2.1.length g1C] 26)).cell? ⟨v9.heap.size + 1, 0, none⟩ = some (.int .i64 (trnR xFromB xFromZ xToB xToZ).2.2.1) := by go_simp
  have cg11 : ((v9.alloc (.cells #[.int .i64 (trnR xFromB xFromZ xToB xToZ).1, .slice g0A (trnR xFromB xFromZ xToB xToZ).2.1.length g0C] 26)).alloc (.cells #[.int .i64 (trnR xFromB xFromZ xToB xToZ).2.2.1, .slice g1A (trnR xFromB xFromZ xToB xToZ).2.2.2.1.length g1C] 26)).cell? ⟨v9.heap.size + 1, 1, none⟩ = some (.slice g1A (trnR xFromB xFromZ xToB xToZ).2.2.2.1.length g1C) := by go_simp
  have q29 : regEqB (trnR xFromB xFromZ xToB xToZ).1 (trnR xFromB xFromZ xToB xToZ).1 (trnR xFromB xFromZ xToB xToZ).2.1 (trnR xFromB xFromZ xToB xToZ).2.1 = true := regEqB_self _ _
  go_wp2_with fail
  obtain ⟨v10, hu⟩ : ∃ u, u = ((v9.alloc (.cells #[.int .i64 (trnR xFromB xFromZ xToB xToZ).1, .slice g0A (trnR xFromB xFromZ xToB xToZ).2.1.length g0C] 26)).alloc (.cells #[.int .i64 (trnR xFromB xFromZ xToB xToZ).2.2.1, .slice g1A (trnR xFromB xFromZ xToB xToZ).2.2.2.1.length g1C] 26)) := ⟨_, rfl⟩
  have s30 : Hid (v9.heap.size + 2 ≤ v10.heap.size) := Lib.hid (by rw [hu]; simp)
  rw [← hu] at cxFrom0 cxFrom1 cxTo0 cxTo1 cw00 cw10 cw01 cw11 cx00 cx01 cx10 cx11 cg00 cg01 cg10 cg11 ow0 ow1 ot17 ot20 og1 og0 hbel ⊢
  clear hu
  refine (eqRegister_any (trnR xFromB xFromZ xToB xToZ).1 (trnR xFromB xFromZ xToB xToZ).1 g0A w0A g0C w0C (trnR xFromB xFromZ xToB xToZ).2.1 (trnR xFromB xFromZ xToB xToZ).2.1 v10 og0.rd ow0.rd).mono ?_
  rintro e v11 ⟨rfl, hb⟩
  have s31 : Hid (v10.heap.size ≤ v11.heap.size) := Lib.hid hb.size
  replace cxFrom0 := kept hb cxFrom0
  replace cxFrom1 := kept hb cxFrom1
  replace cxTo0 := kept hb cxTo0
  replace cxTo1 := kept hb cxTo1
  replace cw00 := kept hb cw00
  replace cw10 := kept hb cw10
  replace cw01 := kept hb cw01
  replace cw11 := kept hb cw11
  replace cx00 := kept hb cx00
  replace cx01 := kept hb cx01
  replace cx10 := kept hb cx10
  replace cx11 := kept hb cx11
  replace cg00 := kept hb cg00
  replace cg01 := kept hb cg01
  replace cg10 := kept hb cg10
  replace cg11 := kept hb cg11
  replace ow0 := ow0.below hb
  replace ow1 := ow1.below hb
  replace ot17 := ot17.below hb
  replace ot20 := ot20.below hb
  replace og1 := og1.below hb
  replace og0 := og0.below hb
  replace hbel := hbel.trans (hb.mono hbel.size)
  clear hb
  have q32 : regEqB (trnR xFromB xFromZ xToB xToZ).2.2.1 (trnR xFromB xFromZ xToB xToZ).2.2.1 (trnR xFromB xFromZ xToB xToZ).2.2.2.1 (trnR xFromB xFromZ xToB xToZ).2.2.2.1 = true := regEqB_self _ _
  go_wp2_with fail
  refine (eqRegister_any (trnR xFromB xFromZ xToB xToZ).2.2.1 (trnR xFromB xFromZ xToB xToZ).2.2.1 g1A w1A g1C w1C (trnR xFromB xFromZ xToB xToZ).2.2.2.1 (trnR xFromB xFromZ xToB xToZ).2.2.2.1 v11 og1.rd ow1.rd).mono ?_
  rintro e v12 ⟨rfl, hb⟩
  have s33 : Hid (v11.heap.size ≤ v12.heap.size) := Lib.hid hb.size
  replace cxFrom0 := kept hb cxFrom0
  replace cxFrom1 := kept hb cxFrom1
  replace cxTo0 := kept hb cxTo0
  replace cxTo1 := kept hb cxTo1
  replace cw00 := kept hb cw00
  replace cw10 := kept hb cw10
  replace cw01 := kept hb cw01
  replace cw11 := kept hb cw11
  replace cx00 := kept hb cx00
  replace cx01 := kept hb cx01
  replace cx10 := kept hb cx10
  replace cx11 := kept hb cx11
  replace cg00 := kept hb cg00
  replace cg01 := kept hb cg01
  replace cg10 := kept hb cg10
  replace cg11 := kept hb cg11
  replace ow0 := ow0.below hb
  replace ow1 := ow1.below hb
  replace ot17 := ot17.below hb
  replace ot20 := ot20.below hb
  replace og1 := og1.below hb
  replace og0 := og0.below hb
  replace hbel := hbel.trans (hb.mono hbel.size)
  clear hb
  have q34 : regEqB xFromB xFromB xFromZ xFromZ = true := regEqB_self _ _
  go_wp2_with fail
  have rcxFrom0 := kept_all cxFrom0
  have rcxFrom1 := kept_all cxFrom1
  have rcxTo0 := kept_all cxTo0
  have rcxTo1 := kept_all cxTo1
  have rcw00 := kept_all cw00
  have rcw10 := kept_all cw10
  have rcw01 := kept_all cw01
  have rcw11 := kept_all cw11
  have rcx00 := kept_all cx00
  have rcx01 := kept_all cx01
  have rcx10 := kept_all cx10
  have rcx11 := kept_all cx11
  have rcg00 := kept_all cg00
  have rcg01 := kept_all cg01
  have rcg10 := kept_all cg10
  have rcg11 := kept_all cg11
  go_region_held3 (fun w' => Below v12.heap.size v12 w') (first | exact hk | exact (Below.refl _ _).drew | exact hk.alloc hk.size _ | exact (hk.alloc hk.size _).setCell hk.size _)
    (first | (go_at_call 82; have qB := ‹Below v12.heap.size v12 _›; ((with_reducible refine (toRegister_any xFromB xFromA xFromC xFromZ _ (hxFrom.below (hbel.trans (qB.mono hbel.size)))).mono ?_)); rintro e v14 ⟨t35A, t35C, rfl, ot35, hb⟩; have hk := qB.trans (hb.mono qB.size)) | (go_at_call 83; have qB := ‹Below v12.heap.size v12 _›; refine (eqRegister_any xFromB xFromB t17A t35A t17C t35C xFromZ xFromZ _ (ot17.below qB).rd (by first | exact ot35.rd | exact (ot35.alloc _).rd)).mono ?_; rintro e v13 ⟨rfl, hb⟩; have hk := qB.trans (hb.mono qB.size)))
  have hb : Below v12.heap.size v12 v13 := by assumption
  clear rcxFrom0 rcxFrom1 rcxTo0 rcxTo1 rcw00 rcw10 rcw01 rcw11 rcx00 rcx01 rcx10 rcx11 rcg00 rcg01 rcg10 rcg11
  clear ot35
  have s36 : Hid (v12.heap.size ≤ v13.heap.size) := Lib.hid hb.size
  replace cxFrom0 := kept hb cxFrom0
  replace cxFrom1 := kept hb cxFrom1
  replace cxTo0 := kept hb cxTo0
  replace cxTo1 := kept hb cxTo1
  replace cw00 := kept hb cw00
  replace cw10 := kept hb cw10
  replace cw01 := kept hb cw01
  replace cw11 := kept hb cw11
  replace cx00 := kept hb cx00
  replace cx01 := kept hb cx01
  replace cx10 := kept hb cx10
  replace cx11 := kept hb cx11
  replace cg00 := kept hb cg00
  replace cg01 := kept hb cg01
  replace cg10 := kept hb cg10
  replace cg11 := kept hb cg11
  replace ow0 := ow0.below hb
  replace ow1 := ow1.below hb
  replace ot17 := ot17.below hb
  replace ot20 := ot20.below hb
  replace og1 := og1.below hb
  replace og0 := og0.below hb
  replace hbel := hbel.trans (hb.mono hbel.size)
  clear hb
  have q37 : regEqB xToB xToB xToZ xToZ = true := regEqB_self _ _
  go_wp2_with fail
  have rcxFrom0 := kept_all cxFrom0
  have rcxFrom1 := kept_all cxFrom1
  have rcxTo0 := kept_all cxTo0
  have rcxTo1 := kept_all cxTo1
  have rcw00 := kept_all cw00
  have rcw10 := kept_all cw10
  have rcw01 := kept_all cw01
  have rcw11 := kept_all cw11
  have rcx00 := kept_all cx00
  have rcx01 := kept_all cx01
  have rcx10 := kept_all cx10
  have rcx11 := kept_all cx11
  have rcg00 := kept_all cg00
  have rcg01 := kept_all cg01
  have rcg10 := kept_all cg10
  have rcg11 := kept_all cg11
  go_region_held3 (fun w' => Below v13.heap.size v13 w') (first | exact hk | exact (Below.refl _ _).drew | exact hk.alloc hk.size _ | exact (hk.alloc hk.size _).setCell hk.size _)
    (first | (go_at_call 82; have qB := ‹Below v13.heap.size v13 _›; ((with_reducible refine (toRegister_any xToB xToA xToC xToZ _ (hxTo.below (hbel.trans (qB.mono hbel.size)))).mono ?_)); rintro e v16 ⟨t38A, t38C, rfl, ot38, hb⟩; have hk := qB.trans (hb.mono qB.size)) | (go_at_call 83; have qB := ‹Below v13.heap.size v13 _›; refine (eqRegister_any xToB xToB t20A t38A t20C t38C xToZ xToZ _ (ot20.below qB).rd (by first | exact ot38.rd | exact (ot38.alloc _).rd)).mono ?_; rintro e v15 ⟨rfl, hb⟩; have hk := qB.trans (hb.mono qB.size)))
  have hb : Below v13.heap.size v13 v15 := by assumption
  clear rcxFrom0 rcxFrom1 rcxTo0 rcxTo1 rcw00 rcw10 rcw01 rcw11 rcx00 rcx01 rcx10 rcx11 rcg00 rcg01 rcg10 rcg11
  clear ot38
  have s39 : Hid (v13.heap.size ≤ v15.heap.size) := Lib.hid hb.size
  replace cxFrom0 := kept hb cxFrom0
  replace cxFrom1 := kept hb cxFrom1
  replace cxTo0 := kept hb cxTo0
  replace cxTo1 := kept hb cxTo1
  replace cw00 := kept hb cw00
  replace cw10 := kept hb cw10
  replace cw01 := kept hb cw01
  replace cw11 := kept hb cw11
  replace cx00 := kept hb cx00
  replace cx01 := kept hb cx01
  replace cx10 := kept hb cx10
  replace cx11 := kept hb cx11
  replace cg00 := kept hb cg00
  replace cg01 := kept hb cg01
  replace cg10 := kept hb cg10
  replace cg11 := kept hb cg11
  replace ow0 := ow0.below hb
  replace ow1 := ow1.below hb
  replace ot17 := ot17.below hb
  replace ot20 := ot20.below hb
  replace og1 := og1.below hb
  replace og0 := og0.below hb
  replace hbel := hbel.trans (hb.mono hbel.size)
  clear hb
  go_wp2_with fail
  refine (markRegister_any _ _ _ xFromB t17A t17C 1 xFromZ v15 ot17 (by have := ow0.len; have := ow1.len; have := ot17.len; have := ot20.len; have := og1.len; have := og0.len; have := hxFrom.len; have := hxTo.len; omega) (by have := ow0.len; have := ow1.len; have := ot17.len; have := ot20.len; have := og1.len; have := og0.len; have := hxFrom.len; have := hxTo.len; omega)).mono ?_
  rintro e v17 ⟨rfl, om, ht⟩
  have s40 : Hid (v15.heap.size ≤ v17.heap.size) := Lib.hid ht.size
  clear ot17
  have ot17 := om
  clear om
  replace cxFrom0 := keptT ht cxFrom0 (by have := s1.out; have := s2.out; have := s3.out; have := s8.out; have := s9.out; have := s10.out; have := s11.out; have := s12.out; have := s13.out; have := s14.out; have := s15.out; have := s16.out; have := s18.out; have := s21.out; have := s22.out; have := s24.out; have := s25.out; have := s26.out; have := s27.out; have := s30.out; have := s31.out; have := s33.out; have := s36.out; have := s39.out; have := s40.out; omega)
  replace cxFrom1 := keptT ht cxFrom1 (by have := s1.out; have := s2.out; have := s3.out; have := s8.out; have := s9.out; have := s10.out; have := s11.out; have := s12.out; have := s13.out; have := s14.out; have := s15.out; have := s16.out; have := s18.out; have := s21.out; have := s22.out; have := s24.out; have := s25.out; have := s26.out; have := s27.out; have := s30.out; have := s31.out; have := s33.out; have := s36.out; have := s39.out; have := s40.out; omega)
  replace cxTo0 := keptT ht cxTo0 (by have := s1.out; have := s2.out; have := s3.out; have := s8.out; have := s9.out; have := s10.out; have := s11.out; have := s12.out; have := s13.out; have := s14.out; have := s15.out; have := s16.out; have := s18.out; have := s21.out; have := s22.out; have := s24.out; have := s25.out; have := s26.out; have := s27.out; have := s30.out; have := s31.out; have := s33.out; have := s36.out; have := s39.out; have := s40.out; omega)
  replace cxTo1 := keptT ht cxTo1 (by have := s1.out; have := s2.out; have := s3.out; have := s8.out; have := s9.out; have := s10.out; have := s11.out; have := s12.out; have := s13.out; have := s14.out; have := s15.out; have := s16.out; have := s18.out; have := s21.out; have := s22.out; have := s24.out; have := s25.out; have := s26.out; have := s27.out; have := s30.out; have := s31.out; have := s33.out; have := s36.out; have := s39.out; have := s40.out; omega)
  replace cw00 := keptT ht cw00 (by have := s1.out; have := s2.out; have := s3.out; have := s8.out; have := s9.out; have := s10.out; have := s11.out; have := s12.out; have := s13.out; have := s14.out; have := s15.out; have := s16.out; have := s18.out; have := s21.out; have := s22.out; have := s24.out; have := s25.out; have := s26.out; have := s27.out; have := s30.out; have := s31.out; have := s33.out; have := s36.out; have := s39.out; have := s40.out; omega)
  replace cw10 := keptT ht cw10 (by have := s1.out; have := s2.out; have := s3.out; have := s8.out; have := s9.out; have := s10.out; have := s11.out; have := s12.out; have := s13.out; have := s14.out; have := s15.out; have := s16.out; have := s18.out; have := s21.out; have := s22.out; have := s24.out; have := s25.out; have := s26.out; have := s27.out; have := s30.out; have := s31.out; have := s33.out; have := s36.out; have := s39.out; have := s40.out; omega)
  replace cw01 := keptT ht cw01 (by have := s1.out; have := s2.out; have := s3.out; have := s8.out; have := s9.out; have := s10.out; have := s11.out; have := s12.out; have := s13.out; have := s14.out; have := s15.out; have := s16.out; have := s18.out; have := s21.out; have := s22.out; have := s24.out; have := s25.out; have := s26.out; have := s27.out; have := s30.out; have := s31.out; have := s33.out; have := s36.out; have := s39.out; have := s40.out; omega)
  replace cw11 := keptT ht cw11 (by have := s1.out; have := s2.out; have := s3.out; have := s8.out; have := s9.out; have := s10.out; have := s11.out; have := s12.out; have := s13.out; have := s14.out; have := s15.out; have := s16.out; have := s18.out; have := s21.out; have := s22.out; have := s24.out; have := s25.out; have := s26.out; have := s27.out; have := s30.out; have := s31.out; have := s33.out; have := s36.out; have := s39.out; have := s40.out; omega)
  replace cx00 := keptT ht cx00 (by have := s1.out; have := s2.out; have := s3.out; have := s8.out; have := s9.out; have := s10.out; have := s11.out; have := s12.out; have := s13.out; have := s14.out; have := s15.out; have := s16.out; have := s18.out; have := s21.out; have := s22.out; have := s24.out; have := s25.out; have := s26.out; have := s27.out; have := s30.out; have := s31.out; have := s33.out; have := s36.out; have := s39.out; have := s40.out; omega)
  replace cx01 := keptT ht cx01 (by have := s1.out; have := s2.out; have := s3.out; have := s8.out; have := s9.out; have := s10.out; have := s11.out; have := s12.out; have := s13.out; have := s14.out; have := s15.out; have := s16.out; have := s18.out; have := s21.out; have := s22.out; have := s24.out; have := s25.out; have := s26.out; have := s27.out; have := s30.out; have := s31.out; have := s33.out; have := s36.out; have := s39.out; have := s40.out; omega)
  replace cx10 := keptT ht cx10 (by have := s1.out; have := s2.out; have := s3.out; have := s8.out; have := s9.out; have := s10.out; have := s11.out; have := s12.out; have := s13.out; have := s14.out; have := s15.out; have := s16.out; have := s18.out; have := s21.out; have := s22.out; have := s24.out; have := s25.out; have := s26.out; have := s27.out; have := s30.out; have := s31.out; have := s33.out; have := s36.out; have := s39.out; have := s40.out; omega)
  replace cx11 := keptT ht cx11 (by have := s1.out; have := s2.out; have := s3.out; have := s8.out; have := s9.out; have := s10.out; have := s11.out; have := s12.out; have := s13.out; have := s14.out; have := s15.out; have := s16.out; have := s18.out; have := s21.out; have := s22.out; have := s24.out; have := s25.out; have := s26.out; have := s27.out; have := s30.out; have := s31.out; have := s33.out; have := s36.out; have := s39.out; have := s40.out; omega)
  replace cg00 := keptT ht cg00 (by have := s1.out; have := s2.out; have := s3.out; have := s8.out; have := s9.out; have := s10.out; have := s11.out; have := s12.out; have := s13.out; have := s14.out; have := s15.out; have := s16.out; have := s18.out; have := s21.out; have := s22.out; have := s24.out; have := s25.out; have := s26.out; have := s27.out; have := s30.out; have := s31.out; have := s33.out; have := s36.out; have := s39.out; have := s40.out; omega)
  replace cg01 := keptT ht cg01 (by have := s1.out; have := s2.out; have := s3.out; have := s8.out; have := s9.out; have := s10.out; have := s11.out; have := s12.out; have := s13.out; have := s14.out; have := s15.out; have := s16.out; have := s18.out; have := s21.out; have := s22.out; have := s24.out; have := s25.out; have := s26.out; have := s27.out; have := s30.out; have := s31.out; have := s33.out; have := s36.out; have := s39.out; have := s40.out; omega)
  replace cg10 := keptT ht cg10 (by have := s1.out; have := s2.out; have := s3.out; have := s8.out; have := s9.out; have := s10.out; have := s11.out; have := s12.out; have := s13.out; have := s14.out; have := s15.out; have := s16.out; have := s18.out; have := s21.out; have := s22.out; have := s24.out; have := s25.out; have := s26.out; have := s27.out; have := s30.out; have := s31.out; have := s33.out; have := s36.out; have := s39.out; have := s40.out; omega)
  replace cg11 := keptT ht cg11 (by have := s1.out; have := s2.out; have := s3.out; have := s8.out; have := s9.out; have := s10.out; have := s11.out; have := s12.out; have := s13.out; have := s14.out; have := s15.out; have := s16.out; have := s18.out; have := s21.out; have := s22.out; have := s24.out; have := s25.out; have := s26.out; have := s27.out; have := s30.out; have := s31.out; have := s33.out; have := s36.out; have := s39.out; have := s40.out; omega)
  replace ow0 := ow0.touch ht (by have := s1.out; have := s2.out; have := s3.out; have := s8.out; have := s9.out; have := s10.out; have := s11.out; have := s12.out; have := s13.out; have := s14.out; have := s15.out; have := s16.out; have := s18.out; have := s21.out; have := s22.out; have := s24.out; have := s25.out; have := s26.out; have := s27.out; have := s30.out; have := s31.out; have := s33.out; have := s36.out; have := s39.out; have := s40.out; omega)
  replace ow1 := ow1.touch ht (by have := s1.out; have := s2.out; have := s3.out; have := s8.out; have := s9.out; have := s10.out; have := s11.out; have := s12.out; have := s13.out; have := s14.out; have := s15.out; have := s16.out; have := s18.out; have := s21.out; have := s22.out; have := s24.out; have := s25.out; have := s26.out; have := s27.out; have := s30.out; have := s31.out; have := s33.out; have := s36.out; have := s39.out; have := s40.out; omega)
  replace ot20 := ot20.touch ht (by have := s1.out; have := s2.out; have := s3.out; have := s8.out; have := s9.out; have := s10.out; have := s11.out; have := s12.out; have := s13.out; have := s14.out; have := s15.out; have := s16.out; have := s18.out; have := s21.out; have := s22.out; have := s24.out; have := s25.out; have := s26.out; have := s27.out; have := s30.out; have := s31.out; have := s33.out; have := s36.out; have := s39.out; have := s40.out; omega)
  replace og1 := og1.touch ht (by have := s1.out; have := s2.out; have := s3.out; have := s8.out; have := s9.out; have := s10.out; have := s11.out; have := s12.out; have := s13.out; have := s14.out; have := s15.out; have := s16.out; have := s18.out; have := s21.out; have := s22.out; have := s24.out; have := s25.out; have := s26.out; have := s27.out; have := s30.out; have := s31.out; have := s33.out; have := s36.out; have := s39.out; have := s40.out; omega)
  replace og0 := og0.touch ht (by have := s1.out; have := s2.out; have := s3.out; have := s8.out; have := s9.out; have := s10.out; have := s11.out; have := s12.out; have := s13.out; have := s14.out; have := s15.out; have := s16.out; have := s18.out; have := s21.out; have := s22.out; have := s24.out; have := s25.out; have := s26.out; have := s27.out; have := s30.out; have := s31.out; have := s33.out; have := s36.out; have := s39.out; have := s40.out; omega)
  replace hbel := hbel.trans (ht.below (by have := s1.out; have := s2.out; have := s3.out; have := s8.out; have := s9.out; have := s10.out; have := s11.out; have := s12.out; have := s13.out; have := s14.out; have := s15.out; have := s16.out; have := s18.out; have := s21.out; have := s22.out; have := s24.out; have := s25.out; have := s26.out; have := s27.out; have := s30.out; have := s31.out; have := s33.out; have := s36.out; have := s39.out; have := s40.out; omega) hbel.size)
  clear ht
  go_wp2_with fail
  refine (markRegister_any _ _ _ xToB t20A t20C (1 + (xFromZ.length : Int)) xToZ v17 ot20 (by have := ow0.len; have := ow1.len; have := ot17.len; have := ot20.len; have := og1.len; have := og0.len; have := hxFrom.len; have := hxTo.len; omega) (by have := ow0.len; have := ow1.len; have := ot17.len; have := ot20.len; have := og1.len; have := og0.len; have := hxFrom.len; have := hxTo.len; omega)).mono ?_
  rintro e v18 ⟨rfl, om, ht⟩
  have s41 : Hid (v17.heap.size ≤ v18.heap.size) := Lib.hid ht.size
  clear ot20
  have ot20 := om
  clear om
  replace cxFrom0 := keptT ht cxFrom0 (by have := s1.out; have := s2.out; have := s3.out; have := s8.out; have := s9.out; have := s10.out; have := s11.out; have := s12.out; have := s13.out; have := s14.out; have := s15.out; have := s16.out; have := s18.out; have := s21.out; have := s22.out; have := s24.out; have := s25.out; have := s26.out; have := s27.out; have := s30.out; have := s31.out; have := s33.out; have := s36.out; have := s39.out; have := s40.out; have := s41.out; omega)
  replace cxFrom1 := keptT ht cxFrom1 (by have := s1.out; have := s2.out; have := s3.out; have := s8.out; have := s9.out; have := s10.out; have := s11.out; have := s12.out; have := s13.out; have := s14.out; have := s15.out; have := s16.out; have := s18.out; have := s21.out; have := s22.out; have := s24.out; have := s25.out; have := s26.out; have := s27.out; have := s30.out; have := s31.out; have := s33.out; have := s36.out; have := s39.out; have := s40.out; have := s41.out; omega)
  replace cxTo0 := keptT ht cxTo0 (by have := s1.out; have := s2.out; have := s3.out; have := s8.out; have := s9.out; have := s10.out; have := s11.out; have := s12.out; have := s13.out; have := s14.out; have := s15.out; have := s16.out; have := s18.out; have := s21.out; have := s22.out; have := s24.out; have := s25.out; have := s26.out; have := s27.out; have := s30.out; have := s31.out; have := s33.out; have := s36.out; have := s39.out; have := s40.out; have := s41.out; omega)
  replace cxTo1 := keptT ht cxTo1 (by have := s1.out; have := s2.out; have := s3.out; have := s8.out; have := s9.out; have := s10.out; have := s11.out; have := s12.out; have := s13.out; have := s14.out; have := s15.out; have := s16.out; have := s18.out; have := s21.out; have := s22.out; have := s24.out; have := s25.out; have := s26.out; have := s27.out; have := s30.out; have := s31.out; have := s33.out; have := s36.out; have := s39.out; have := s40.out; have := s41.out; omega)
  replace cw00 := keptT ht cw00 (by have := s1.out; have := s2.out; have := s3.out; have := s8.out; have := s9.out; have := s10.out; have := s11.out; have := s12.out; have := s13.out; have := s14.out; have := s15.out; have := s16.out; have := s18.out; have := s21.out; have := s22.out; have := s24.out; have := s25.out; have := s26.out; have := s27.out; have := s30.out; have := s31.out; have := s33.out; have := s36.out; have := s39.out; have := s40.out; have := s41.out; omega)
  replace cw10 := keptT ht cw10 (by have := s1.out; have := s2.out; have := s3.out; have := s8.out; have := s9.out; have := s10.out; have := s11.out; have := s12.out; have := s13.out; have := s14.out; have := s15.out; have := s16.out; have := s18.out; have := s21.out; have := s22.out; have := s24.out; have := s25.out; have := s26.out; have := s27.out; have := s30.out; have := s31.out; have := s33.out; have := s36.out; have := s39.out; have := s40.out; have := s41.out; omega)
  replace cw01 := keptT ht cw01 (by have := s1.out; have := s2.out; have := s3.out; have := s8.out; have := s9.out; have := s10.out; have := s11.out; have := s12.out; have := s13.out; have := s14.out; have := s15.out; have := s16.out; have := s18.out; have := s21.out; have := s22.out; have := s24.out; have := s25.out; have := s26.out; have := s27.out; have := s30.out; have := s31.out; have := s33.out; have := s36.out; have := s39.out; have := s40.out; have := s41.out; omega)
  replace cw11 := keptT ht cw11 (by have := s1.out; have := s2.out; have := s3.out; have := s8.out; have := s9.out; have := s10.out; have := s11.out; have := s12.out; have := s13.out; have := s14.out; have := s15.out; have := s16.out; have := s18.out; have := s21.out; have := s22.out; have := s24.out; have := s25.out; have := s26.out; have := s27.out; have := s30.out; have := s31.out; have := s33.out; have := s36.out; have := s39.out; have := s40.out; have := s41.out; omega)
  replace cx00 := keptT ht cx00 (by have := s1.out; have := s2.out; have := s3.out; have := s8.out; have := s9.out; have := s10.out; have := s11.out; have := s12.out; have := s13.out; have := s14.out; have := s15.out; have := s16.out; have := s18.out; have := s21.out; have := s22.out; have := s24.out; have := s25.out; have := s26.out; have := s27.out; have := s30.out; have := s31.out; have := s33.out; have := s36.out; have := s39.out; have := s40.out; have := s41.out; omega)
  replace cx01 := keptT ht cx01 (by have := s1.out; have := s2.out; have := s3.out; have := s8.out; have := s9.out; have := s10.out; have := s11.out; have := s12.out; have := s13.out; have := s14.out; have := s15.out; have := s16.out; have := s18.out; have := s21.out; have := s22.out; have := s24.out; have := s25.out; have := s26.out; have := s27.out; have := s30.out; have := s31.out; have := s33.out; have := s36.out; have := s39.out; have := s40.out; have := s41.out; omega)
  replace cx10 := keptT ht cx10 (by have := s1.out; have := s2.out; have := s3.out; have := s8.out; have := s9.out; have := s10.out; have := s11.out; have := s12.out; have := s13.out; have := s14.out; have := s15.out; have := s16.out; have := s18.out; have := s21.out; have := s22.out; have := s24.out; have := s25.out; have := s26.out; have := s27.out; have := s30.out; have := s31.out; have := s33.out; have := s36.out; have := s39.out; have := s40.out; have := s41.out; omega)
  replace cx11 := keptT ht cx11 (by have := s1.out; have := s2.out; have := s3.out; have := s8.out; have := s9.out; have := s10.out; have := s11.out; have := s12.out; have := s13.out; have := s14.out; have := s15.out; have := s16.out; have := s18.out; have := s21.out; have := s22.out; have := s24.out; have := s25.out; have := s26.out; have := s27.out; have := s30.out; have := s31.out; have := s33.out; have := s36.out; have := s39.out; have := s40.out; have := s41.out; omega)
  replace cg00 := keptT ht cg00 (by have := s1.out; have := s2.out; have := s3.out; have := s8.out; have := s9.out; have := s10.out; have := s11.out; have := s12.out; have := s13.out; have := s14.out; have := s15.out; have := s16.out; have := s18.out; have := s21.out; have := s22.out; have := s24.out; have := s25.out; have := s26.out; have := s27.out; have := s30.out; have := s31.out; have := s33.out; have := s36.out; have := s39.out; have := s40.out; have := s41.out; omega)
  replace cg01 := keptT ht cg01 (by have := s1.out; have := s2.out; have := s3.out; have := s8.out; have := s9.out; have := s10.out; have := s11.out; have := s12.out; have := s13.out; have := s14.out; have := s15.out; have := s16.out; have := s18.out; have := s21.out; have := s22.out; have := s24.out; have := s25.out; have := s26.out; have := s27.out; have := s30.out; have := s31.out; have := s33.out; have := s36.out; have := s39.out; have := s40.out; have := s41.out; omega)
  replace cg10 := keptT ht cg10 (by have := s1.out; have := s2.out; have := s3.out; have := s8.out; have := s9.out; have := s10.out; have := s11.out; have := s12.out; have := s13.out; have := s14.out; have := s15.out; have := s16.out; have := s18.out; have := s21.out; have := s22.out; have := s24.out; have := s25.out; have := s26.out; have := s27.out; have := s30.out; have := s31.out; have := s33.out; have := s36.out; have := s39.out; have := s40.out; have := s41.out; omega)
  replace cg11 := keptT ht cg11 (by have := s1.out; have := s2.out; have := s3.out; have := s8.out; have := s9.out; have := s10.out; have := s11.out; have := s12.out; have := s13.out; have := s14.out; have := s15.out; have := s16.out; have := s18.out; have := s21.out; have := s22.out; have := s24.out; have := s25.out; have := s26.out; have := s27.out; have := s30.out; have := s31.out; have := s33.out; have := s36.out; have := s39.out; have := s40.out; have := s41.out; omega)
  replace ow0 := ow0.touch ht (by have := s1.out; have := s2.out; have := s3.out; have := s8.out; have := s9.out; have := s10.out; have := s11.out; have := s12.out; have := s13.out; have := s14.out; have := s15.out; have := s16.out; have := s18.out; have := s21.out; have := s22.out; have := s24.out; have := s25.out; have := s26.out; have := s27.out; have := s30.out; have := s31.out; have := s33.out; have := s36.out; have := s39.out; have := s40.out; have := s41.out; omega)
  replace ow1 := ow1.touch ht (by have := s1.out; have := s2.out; have := s3.out; have := s8.out; have := s9.out; have := s10.out; have := s11.out; have := s12.out; have := s13.out; have := s14.out; have := s15.out; have := s16.out; have := s18.out; have := s21.out; have := s22.out; have := s24.out; have := s25.out; have := s26.out; have := s27.out; have := s30.out; have := s31.out; have := s33.out; have := s36.out; have := s39.out; have := s40.out; have := s41.out; omega)
  replace ot17 := ot17.touch ht (by have := s1.out; have := s2.out; have := s3.out; have := s8.out; have := s9.out; have := s10.out; have := s11.out; have := s12.out; have := s13.out; have := s14.out; have := s15.out; have := s16.out; have := s18.out; have := s21.out; have := s22.out; have := s24.out; have := s25.out; have := s26.out; have := s27.out; have := s30.out; have := s31.out; have := s33.out; have := s36.out; have := s39.out; have := s40.out; have := s41.out; omega)
  replace og1 := og1.touch ht (by have := s1.out; have := s2.out; have := s3.out; have := s8.out; have := s9.out; have := s10.out; have := s11.out; have := s12.out; have := s13.out; have := s14.out; have := s15.out; have := s16.out; have := s18.out; have := s21.out; have := s22.out; have := s24.out; have := s25.out; have := s26.out; have := s27.out; have := s30.out; have := s31.out; have := s33.out; have := s36.out; have := s39.out; have := s40.out; have := s41.out; omega)
  replace og0 := og0.touch ht (by have := s1.out; have := s2.out; have := s3.out; have := s8.out; have := s9.out; have := s10.out; have := s11.out; have := s12.out; have := s13.out; have := s14.out; have := s15.out; have := s16.out; have := s18.out; have := s21.out; have := s22.out; have := s24.out; have := s25.out; have := s26.out; have := s27.out; have := s30.out; have := s31.out; have := s33.out; have := s36.out; have := s39.out; have := s40.out; have := s41.out; omega)
  replace hbel := hbel.trans (ht.below (by have := s1.out; have := s2.out; have := s3.out; have := s8.out; have := s9.out; have := s10.out; have := s11.out; have := s12.out; have := s13.out; have := s14.out; have := s15.out; have := s16.out; have := s18.out; have := s21.out; have := s22.out; have := s24.out; have := s25.out; have := s26.out; have := s27.out; have := s30.out; have := s31.out; have := s33.out; have := s36.out; have := s39.out; have := s40.out; have := s41.out; omega) hbel.size)
  clear ht
  have q42 : regEqB (trnR xFromB xFromZ xToB xToZ).1 (trnR xFromB xFromZ xToB xToZ).1 (trnR xFromB xFromZ xToB xToZ).2.1 (trnR xFromB xFromZ xToB xToZ).2.1 = true := regEqB_self _ _
  go_wp2_with fail
  refine (eqRegister_any (trnR xFromB xFromZ xToB xToZ).1 (trnR xFromB xFromZ xToB xToZ).1 g0A w0A g0C w0C (trnR xFromB xFromZ xToB xToZ).2.1 (trnR xFromB xFromZ xToB xToZ).2.1 v18 og0.rd ow0.rd).mono ?_
  rintro e v19 ⟨rfl, hb⟩
  have s43 : Hid (v18.heap.size ≤ v19.heap.size) := Lib.hid hb.size
  replace cxFrom0 := kept hb cxFrom0
  replace cxFrom1 := kept hb cxFrom1
  replace cxTo0 := kept hb cxTo0
  replace cxTo1 := kept hb cxTo1
  replace cw00 := kept hb cw00
  replace cw10 := kept hb cw10
  replace cw01 := kept hb cw01
  replace cw11 := kept hb cw11
  replace cx00 := kept hb cx00
  replace cx01 := kept hb cx01
  replace cx10 := kept hb cx10
  replace cx11 := kept hb cx11
  replace cg00 := kept hb cg00
  replace cg01 := kept hb cg01
  replace cg10 := kept hb cg10
  replace cg11 := kept hb cg11
  replace ow0 := ow0.below hb
  replace ow1 := ow1.below hb
  replace ot17 := ot17.below hb
  replace ot20 := ot20.below hb
  replace og1 := og1.below hb
  replace og0 := og0.below hb
  replace hbel := hbel.trans (hb.mono hbel.size)
  clear hb
  have q44 : regEqB (trnR xFromB xFromZ xToB xToZ).2.2.1 (trnR xFromB xFromZ xToB xToZ).2.2.1 (trnR xFromB xFromZ xToB xToZ).2.2.2.1 (trnR xFromB xFromZ xToB xToZ).2.2.2.1 = true := regEqB_self _ _
  go_wp2_with fail
  refine (eqRegister_any (trnR xFromB xFromZ xToB xToZ).2.2.1 (trnR xFromB xFromZ xToB xToZ).2.2.1 g1A w1A g1C w1C (trnR xFromB xFromZ xToB xToZ).2.2.2.1 (trnR xFromB xFromZ xToB xToZ).2.2.2.1 v19 og1.rd ow1.rd).mono ?_
  rintro e v20 ⟨rfl, hb⟩
  have s45 : Hid (v19.heap.size ≤ v20.heap.size) := Lib.hid hb.size
  replace cxFrom0 := kept hb cxFrom0
  replace cxFrom1 := kept hb cxFrom1
  replace cxTo0 := kept hb cxTo0
  replace cxTo1 := kept hb cxTo1
  replace cw00 := kept hb cw00
  replace cw10 := kept hb cw10
  replace cw01 := kept hb cw01
  replace cw11 := kept hb cw11
  replace cx00 := kept hb cx00
  replace cx01 := kept hb cx01
  replace cx10 := kept hb cx10
  replace cx11 := kept hb cx11
  replace cg00 := kept hb cg00
  replace cg01 := kept hb cg01
  replace cg10 := kept hb cg10
  replace cg11 := kept hb cg11
  replace ow0 := ow0.below hb
  replace ow1 := ow1.below hb
  replace ot17 := ot17.below hb
  replace ot20 := ot20.below hb
  replace og1 := og1.below hb
  replace og0 := og0.below hb
  replace hbel := hbel.trans (hb.mono hbel.size)
  clear hb
  go_wp2_with fail
  refine (markRegister_any _ _ _ (trnR xFromB xFromZ xToB xToZ).1 g0A g0C 1 (trnR xFromB xFromZ xToB xToZ).2.1 v20 og0 (by have := ow0.len; have := ow1.len; have := ot17.len; have := ot20.len; have := og1.len; have := og0.len; have := hxFrom.len; have := hxTo.len; omega) (by have := ow0.len; have := ow1.len; have := ot17.len; have := ot20.len; have := og1.len; have := og0.len; have := hxFrom.len; have := hxTo.len; omega)).mono ?_
  rintro e v21 ⟨rfl, om, ht⟩
  have s46 : Hid (v20.heap.size ≤ v21.heap.size) := Lib.hid ht.size
  clear og0
  have og0 := om
  clear om
  replace cxFrom0 := keptT ht cxFrom0 (by have := s1.out; have := s2.out; have := s3.out; have := s8.out; have := s9.out; have := s10.out; have := s11.out; have := s12.out; have := s13.out; have := s14.out; have := s15.out; have := s16.out; have := s18.out; have := s21.out; have := s22.out; have := s24.out; have := s25.out; have := s26.out; have := s27.out; have := s30.out; have := s31.out; have := s33.out; have := s36.out; have := s39.out; have := s40.out; have := s41.out; have := s43.out; have := s45.out; have := s46.out; omega)
  replace cxFrom1 := keptT ht cxFrom1 (by have := s1.out; have := s2.out; have := s3.out; have := s8.out; have := s9.out; have := s10.out; have := s11.out; have := s12.out; have := s13.out; have := s14.out; have := s15.out; have := s16.out; have := s18.out; have := s21.out; have := s22.out; have := s24.out; have := s25.out; have := s26.out; have := s27.out; have := s30.out; have := s31.out; have := s33.out; have := s36.out; have := s39.out; have := s40.out; have := s41.out; have := s43.out; have := s45.out; have := s46.out; omega)
  replace cxTo0 := keptT ht cxTo0 (by have := s1.out; have := s2.out; have := s3.out; have := s8.out; have := s9.out; have := s10.out; have := s11.out; have := s12.out; have := s13.out; have := s14.out; have := s15.out; have := s16.out; have := s18.out; have := s21.out; have := s22.out; have := s24.out; have := s25.out; have := s26.out; have := s27.out; have := s30.out; have := s31.out; have := s33.out; have := s36.out; have := s39.out; have := s40.out; have := s41.out; have := s43.out; have := s45.out; have := s46.out; omega)
  replace cxTo1 := keptT ht cxTo1 (by have := s1.out; have := s2.out; have := s3.out; have := s8.out; have := s9.out; have := s10.out; have := s11.out; have := s12.out; have := s13.out; have := s14.out; have := s15.out; have := s16.out; have := s18.out; have := s21.out; have := s22.out; have := s24.out; have := s25.out; have := s26.out; have := s27.out; have := s30.out; have := s31.out; have := s33.out; have := s36.out; have := s39.out; have := s40.out; have := s41.out; have := s43.out; have := s45.out; have := s46.out; omega)
  replace cw00 := keptT ht cw00 (by have := s1.out; have := s2.out; have := s3.out; have := s8.out; have := s9.out; have := s10.out; have := s11.out; have := s12.out; have := s13.out; have := s14.out; have := s15.out; have := s16.out; have := s18.out; have := s21.out; have := s22.out; have := s24.out; have := s25.out; have := s26.out; have := s27.out; have := s30.out; have := s31.out; have := s33.out; have := s36.out; have := s39.out; have := s40.out; have := s41.out; have := s43.out; have := s45.out; have := s46.out; omega)
  replace cw10 := keptT ht cw10 (by have := s1.out; have := s2.out; have := s3.out; have := s8.out; have := s9.out; have := s10.out; have := s11.out; have := s12.out; have := s13.out; have := s14.out; have := s15.out; have := s16.out; have := s18.out; have := s21.out; have := s22.out; have := s24.out; have := s25.out; have := s26.out; have := s27.out; have := s30.out; have := s31.out; have := s33.out; have := s36.out; have := s39.out; have := s40.out; have := s41.out; have := s43.out; have := s45.out; have := s46.out; omega)
  replace cw01 := keptT ht cw01 (by have := s1.out; have := s2.out; have := s3.out; have := s8.out; have := s9.out; have := s10.out; have := s11.out; have := s12.out; have := s13.out; have := s14.out; have := s15.out; have := s16.out; have := s18.out; have := s21.out; have := s22.out; have := s24.out; have := s25.out; have := s26.out; have := s27.out; have := s30.out; have := s31.out; have := s33.out; have := s36.out; have := s39.out; have := s40.out; have := s41.out; have := s43.out; have := s45.out; have := s46.out; omega)
  replace cw11 := keptT ht cw11 (by have := s1.out; have := s2.out; have := s3.out; have := s8.out; have := s9.out; have := s10.out; have := s11.out; have := s12.out; have := s13.out; have := s14.out; have := s15.out; have := s16.out; have := s18.out; have := s21.out; have := s22.out; have := s24.out; have := s25.out; have := s26.out; have := s27.out; have := s30.out; have := s31.out; have := s33.out; have := s36.out; have := s39.out; have := s40.out; have := s41.out; have := s43.out; have := s45.out; have := s46.out; omega)
  replace cx00 := keptT ht cx00 (by have := s1.out; have := s2.out; have := s3.out; have := s8.out; have := s9.out; have := s10.out; have := s11.out; have := s12.out; have := s13.out; have := s14.out; have := s15.out; have := s16.out; have := s18.out; have := s21.out; have := s22.out; have := s24.out; have := s25.out; have := s26.out; have := s27.out; have := s30.out; have := s31.out; have := s33.out; have := s36.out; have := s39.out; have := s40.out; have := s41.out; have := s43.out; have := s45.out; have := s46.out; omega)
  replace cx01 := keptT ht cx01 (by have := s1.out; have := s2.out; have := s3.out; have := s8.out; have := s9.out; have := s10.out; have := s11.out; have := s12.out; have := s13.out; have := s14.out; have := s15.out; have := s16.out; have := s18.out; have := s21.out; have := s22.out; have := s24.out; have := s25.out; have := s26.out; have := s27.out; have := s30.out; have := s31.out; have := s33.out; have := s36.out; have := s39.out; have := s40.out; have := s41.out; have := s43.out; have := s45.out; have := s46.out; omega)
  replace cx10 := keptT ht cx10 (by have := s1.out; have := s2.out; have := s3.out; have := s8.out; have := s9.out; have := s10.out; have := s11.out; have := s12.out; have := s13.out; have := s14.out; have := s15.out; have := s16.out; have := s18.out; have := s21.out; have := s22.out; have := s24.out; have := s25.out; have := s26.out; have := s27.out; have := s30.out; have := s31.out; have := s33.out; have := s36.out; have := s39.out; have := s40.out; have := s41.out; have := s43.out; have := s45.out; have := s46.out; omega)
  replace cx11 := keptT ht cx11 (by have := s1.out; have := s2.out; have := s3.out; have := s8.out; have := s9.out; have := s10.out; have := s11.out; have := s12.out; have := s13.out; have := s14.out; have := s15.out; have := s16.out; have := s18.out; have := s21.out; have := s22.out; have := s24.out; have := s25.out; have := s26.out; have := s27.out; have := s30.out; have := s31.out; have := s33.out; have := s36.out; have := s39.out; have := s40.out; have := s41.out; have := s43.out; have := s45.out; have := s46.out; omega)
  replace cg00 := keptT ht cg00 (by have := s1.out; have := s2.out; have := s3.out; have := s8.out; have := s9.out; have := s10.out; have := s11.out; have := s12.out; have := s13.out; have := s14.out; have := s15.out; have := s16.out; have := s18.out; have := s21.out; have := s22.out; have := s24.out; have := s25.out; have := s26.out; have := s27.out; have := s30.out; have := s31.out; have := s33.out; have := s36.out; have := s39.out; have := s40.out; have := s41.out; have := s43.out; have := s45.out; have := s46.out; omega)
  replace cg01 := keptT ht cg01 (by have := s1.out; have := s2.out; have := s3.out; have := s8.out; have := s9.out; have := s10.out; have := s11.out; have := s12.out; have := s13.out; have := s14.out; have := s15.out; have := s16.out; have := s18.out; have := s21.out; have := s22.out; have := s24.out; have := s25.out; have := s26.out; have := s27.out; have := s30.out; have := s31.out; have := s33.out; have := s36.out; have := s39.out; have := s40.out; have := s41.out; have := s43.out; have := s45.out; have := s46.out; omega)
  replace cg10 := keptT ht cg10 (by have := s1.out; have := s2.out; have := s3.out; have := s8.out; have := s9.out; have := s10.out; have := s11.out; have := s12.out; have := s13.out; have := s14.out; have := s15.out; have := s16.out; have := s18.out; have := s21.out; have := s22.out; have := s24.out; have := s25.out; have := s26.out; have := s27.out; have := s30.out; have := s31.out; have := s33.out; have := s36.out; have := s39.out; have := s40.out; have := s41.out; have := s43.out; have := s45.out; have := s46.out; omega)
  replace cg11 := keptT ht cg11 (by have := s1.out; have := s2.out; have := s3.out; have := s8.out; have := s9.out; have := s10.out; have := s11.out; have := s12.out; have := s13.out; have := s14.out; have := s15.out; have := s16.out; have := s18.out; have := s21.out; have := s22.out; have := s24.out; have := s25.out; have := s26.out; have := s27.out; have := s30.out; have := s31.out; have := s33.out; have := s36.out; have := s39.out; have := s40.out; have := s41.out; have := s43.out; have := s45.out; have := s46.out; omega)
  replace ow0 := ow0.touch ht (by have := s1.out; have := s2.out; have := s3.out; have := s8.out; have := s9.out; have := s10.out; have := s11.out; have := s12.out; have := s13.out; have := s14.out; have := s15.out; have := s16.out; have := s18.out; have := s21.out; have := s22.out; have := s24.out; have := s25.out; have := s26.out; have := s27.out; have := s30.out; have := s31.out; have := s33.out; have := s36.out; have := s39.out; have := s40.out; have := s41.out; have := s43.out; have := s45.out; have := s46.out; omega)
  replace ow1 := ow1.touch ht (by have := s1.out; have := s2.out; have := s3.out; have := s8.out; have := s9.out; have := s10.out; have := s11.out; have := s12.out; have := s13.out; have := s14.out; have := s15.out; have := s16.out; have := s18.out; have := s21.out; have := s22.out; have := s24.out; have := s25.out; have := s26.out; have := s27.out; have := s30.out; have := s31.out; have := s33.out; have := s36.out; have := s39.out; have := s40.out; have := s41.out; have := s43.out; have := s45.out; have := s46.out; omega)
  replace ot17 := ot17.touch ht (by have := s1.out; have := s2.out; have := s3.out; have := s8.out; have := s9.out; have := s10.out; have := s11.out; have := s12.out; have := s13.out; have := s14.out; have := s15.out; have := s16.out; have := s18.out; have := s21.out; have := s22.out; have := s24.out; have := s25.out; have := s26.out; have := s27.out; have := s30.out; have := s31.out; have := s33.out; have := s36.out; have := s39.out; have := s40.out; have := s41.out; have := s43.out; have := s45.out; have := s46.out; omega)
  replace ot20 := ot20.touch ht (by have := s1.out; have := s2.out; have := s3.out; have := s8.out; have := s9.out; have := s10.out; have := s11.out; have := s12.out; have := s13.out; have := s14.out; have := s15.out; have := s16.out; have := s18.out; have := s21.out; have := s22.out; have := s24.out; have := s25.out; have := s26.out; have := s27.out; have := s30.out; have := s31.out; have := s33.out; have := s36.out; have := s39.out; have := s40.out; have := s41.out; have := s43.out; have := s45.out; have := s46.out; omega)
  replace og1 := og1.touch ht (by have := s1.out; have := s2.out; have := s3.out; have := s8.out; have := s9.out; have := s10.out; have := s11.out; have := s12.out; have := s13.out; have := s14.out; have := s15.out; have := s16.out; have := s18.out; have := s21.out; have := s22.out; have := s24.out; have := s25.out; have := s26.out; have := s27.out; have := s30.out; have := s31.out; have := s33.out; have := s36.out; have := s39.out; have := s40.out; have := s41.out; have := s43.out; have := s45.out; have := s46.out; omega)
  replace hbel := hbel.trans (ht.below (by have := s1.out; have := s2.out; have := s3.out; have := s8.out; have := s9.out; have := s10.out; have := s11.out; have := s12.out; have := s13.out; have := s14.out; have := s15.out; have := s16.out; have := s18.out; have := s21.out; have := s22.out; have := s24.out; have := s25.out; have := s26.out; have := s27.out; have := s30.out; have := s31.out; have := s33.out; have := s36.out; have := s39.out; have := s40.out; have := s41.out; have := s43.out; have := s45.out; have := s46.out; omega) hbel.size)
  clear ht
  go_wp2_with fail
  refine (markRegister_any _ _ _ (trnR xFromB xFromZ xToB xToZ).2.2.1 g1A g1C (1 + ((trnR xFromB xFromZ xToB xToZ).2.1.length : Int)) (trnR xFromB xFromZ xToB xToZ).2.2.2.1 v21 og1 (by have := ow0.len; have := ow1.len; have := ot17.len; have := ot20.len; have := og1.len; have := og0.len; have := hxFrom.len; have := hxTo.len; omega) (by have := ow0.len; have := ow1.len; have := ot17.len; have := ot20.len; have := og1.len; have := og0.len; have := hxFrom.len; have := hxTo.len; omega)).mono ?_
  rintro e v22 ⟨rfl, om, ht⟩
  have s47 : Hid (v21.heap.size ≤ v22.heap.size) := Lib.hid ht.size
  clear og1
  have og1 := om
  clear om
  replace cxFrom0 := keptT ht cxFrom0 (by have := s1.out; have := s2.out; have := s3.out; have := s8.out; have := s9.out; have := s10.out; have := s11.out; have := s12.out; have := s13.out; have := s14.out; have := s15.out; have := s16.out; have := s18.out; have := s21.out; have := s22.out; have := s24.out; have := s25.out; have := s26.out; have := s27.out; have := s30.out; have := s31.out; have := s33.out; have := s36.out; have := s39.out; have := s40.out; have := s41.out; have := s43.out; have := s45.out; have := s46.out; have := s47.out; omega)
  replace cxFrom1 := keptT ht cxFrom1 (by have := s1.out; have := s2.out; have := s3.out; have := s8.out; have := s9.out; have := s10.out; have := s11.out; have := s12.out; have := s13.out; have := s14.out; have := s15.out; have := s16.out; have := s18.out; have := s21.out; have := s22.out; have := s24.out; have := s25.out; have := s26.out; have := s27.out; have := s30.out; have := s31.out; have := s33.out; have := s36.out; have := s39.out; have := s40.out; have := s41.out; have := s43.out; have := s45.out; have := s46.out; have := s47.out; omega)
  replace cxTo0 := keptT ht cxTo0 (by have := s1.out; have := s2.out; have := s3.out; have := s8.out; have := s9.out; have := s10.out; have := s11.out; have := s12.out; have := s13.out; have := s14.out; have := s15.out; have := s16.out; have := s18.out; have := s21.out; have := s22.out; have := s24.out; have := s25.out; have := s26.out; have := s27.out; have := s30.out; have := s31.out; have := s33.out; have := s36.out; have := s39.out; have := s40.out; have := s41.out; have := s43.out; have := s45.out; have := s46.out; have := s47.out; omega)
  replace cxTo1 := keptT ht cxTo1 (by have := s1.out; have := s2.out; have := s3.out; have := s8.out; have := s9.out; have := s10.out; have := s11.out; have := s12.out; have := s13.out; have := s14.out; have := s15.out; have := s16.out; have := s18.out; have := s21.out; have := s22.out; have := s24.out; have := s25.out; have := s26.out; have := s27.out; have := s30.out; have := s31.out; have := s33.out; have := s36.out; have := s39.out; have := s40.out; have := s41.out; have := s43.out; have := s45.out; have := s46.out; have := s47.out; omega)
  replace cw00 := keptT ht cw00 (by have := s1.out; have := s2.out; have := s3.out; have := s8.out; have := s9.out; have := s10.out; have := s11.out; have := s12.out; have := s13.out; have := s14.out; have := s15.out; have := s16.out; have := s18.out; have := s21.out; have := s22.out; have := s24.out; have := s25.out; have := s26.out; have := s27.out; have := s30.out; have := s31.out; have := s33.out; have := s36.out; have := s39.out; have := s40.out; have := s41.out; have := s43.out; have := s45.out; have := s46.out; have := s47.out; omega)
  replace cw10 := keptT ht cw10 (by have := s1.out; have := s2.out; have := s3.out; have := s8.out; have := s9.out; have := s10.out; have := s11.out; have := s12.out; have := s13.out; have := s14.out; have := s15.out; have := s16.out; have := s18.out; have := s21.out; have := s22.out; have := s24.out; have := s25.out; have := s26.out; have := s27.out; have := s30.out; have := s31.out; have := s33.out; have := s36.out; have := s39.out; have := s40.out; have := s41.out; have := s43.out; have := s45.out; have := s46.out; have := s47.out; omega)
  replace cw01 := keptT ht cw01 (by have := s1.out; have := s2.out; have := s3.out; have := s8.out; have := s9.out; have := s10.out; have := s11.out; have := s12.out; have := s13.out; have := s14.out; have := s15.out; have := s16.out; have := s18.out; have := s21.out; have := s22.out; have := s24.out; have := s25.out; have := s26.out; have := s27.out; have := s30.out; have := s31.out; have := s33.out; have := s36.out; have := s39.out; have := s40.out; have := s41.out; have := s43.out; have := s45.out; have := s46.out; have := s47.out; omega)
  replace cw11 := keptT ht cw11 (by have := s1.out; have := s2.out; have := s3.out; have := s8.out; have := s9.out; have := s10.out; have := s11.out; have := s12.out; have := s13.out; have := s14.out; have := s15.out; have := s16.out; have := s18.out; have := s21.out; have := s22.out; have := s24.out; have := s25.out; have := s26.out; have := s27.out; have := s30.out; have := s31.out; have := s33.out; have := s36.out; have := s39.out; have := s40.out; have := s41.out; have := s43.out; have := s45.out; have := s46.out; have := s47.out; omega)
  replace cx00 := keptT ht cx00 (by have := s1.out; have := s2.out; have := s3.out; have := s8.out; have := s9.out; have := s10.out; have := s11.out; have := s12.out; have := s13.out; have := s14.out; have := s15.out; have := s16.out; have := s18.out; have := s21.out; have := s22.out; have := s24.out; have := s25.out; have := s26.out; have := s27.out; have := s30.out; have := s31.out; have := s33.out; have := s36.out; have := s39.out; have := s40.out; have := s41.out; have := s43.out; have := s45.out; have := s46.out; have := s47.out; omega)
  replace cx01 := keptT ht cx01 (by have := s1.out; have := s2.out; have := s3.out; have := s8.out; have := s9.out; have := s10.out; have := s11.out; have := s12.out; have := s13.out; have := s14.out; have := s15.out; have := s16.out; have := s18.out; have := s21.out; have := s22.out; have := s24.out; have := s25.out; have := s26.out; have := s27.out; have := s30.out; have := s31.out; have := s33.out; have := s36.out; have := s39.out; have := s40.out; have := s41.out; have := s43.out; have := s45.out; have := s46.out; have := s47.out; omega)
  replace cx10 := keptT ht cx10 (by have := s1.out; have := s2.out; have := s3.out; have := s8.out; have := s9.out; have := s10.out; have := s11.out; have := s12.out; have := s13.out; have := s14.out; have := s15.out; have := s16.out; have := s18.out; have := s21.out; have := s22.out; have := s24.out; have := s25.out; have := s26.out; have := s27.out; have := s30.out; have := s31.out; have := s33.out; have := s36.out; have := s39.out; have := s40.out; have := s41.out; have := s43.out; have := s45.out; have := s46.out; have := s47.out; omega)
  replace cx11 := keptT ht cx11 (by have := s1.out; have := s2.out; have := s3.out; have := s8.out; have := s9.out; have := s10.out; have := s11.out; have := s12.out; have := s13.out; have := s14.out; have := s15.out; have := s16.out; have := s18.out; have := s21.out; have := s22.out; have := s24.out; have := s25.out; have := s26.out; have := s27.out; have := s30.out; have := s31.out; have := s33.out; have := s36.out; have := s39.out; have := s40.out; have := s41.out; have := s43.out; have := s45.out; have := s46.out; have := s47.out; omega)
  replace cg00 := keptT ht cg00 (by have := s1.out; have := s2.out; have := s3.out; have := s8.out; have := s9.out; have := s10.out; have := s11.out; have := s12.out; have := s13.out; have := s14.out; have := s15.out; have := s16.out; have := s18.out; have := s21.out; have := s22.out; have := s24.out; have := s25.out; have := s26.out; have := s27.out; have := s30.out; have := s31.out; have := s33.out; have := s36.out; have := s39.out; have := s40.out; have := s41.out; have := s43.out; have := s45.out; have := s46.out; have := s47.out; omega)
  replace cg01 := keptT ht cg01 (by have := s1.out; have := s2.out; have := s3.out; have := s8.out; have := s9.out; have := s10.out; have := s11.out; have := s12.out; have := s13.out; have := s14.out; have := s15.out; have := s16.out; have := s18.out; have := s21.out; have := s22.out; have := s24.out; have := s25.out; have := s26.out; have := s27.out; have := s30.out; have := s31.out; have := s33.out; have := s36.out; have := s39.out; have := s40.out; have := s41.out; have := s43.out; have := s45.out; have := s46.out; have := s47.out; omega)
  replace cg10 := keptT ht cg10 (by have := s1.out; have := s2.out; have := s3.out; have := s8.out; have := s9.out; have := s10.out; have := s11.out; have := s12.out; have := s13.out; have := s14.out; have := s15.out; have := s16.out; have := s18.out; have := s21.out; have := s22.out; have := s24.out; have := s25.out; have := s26.out; have := s27.out; have := s30.out; have := s31.out; have := s33.out; have := s36.out; have := s39.out; have := s40.out; have := s41.out; have := s43.out; have := s45.out; have := s46.out; have := s47.out; omega)
  replace cg11 := keptT ht cg11 (by have := s1.out; have := s2.out; have := s3.out; have := s8.out; have := s9.out; have := s10.out; have := s11.out; have := s12.out; have := s13.out; have := s14.out; have := s15.out; have := s16.out; have := s18.out; have := s21.out; have := s22.out; have := s24.out; have := s25.out; have := s26.out; have := s27.out; have := s30.out; have := s31.out; have := s33.out; have := s36.out; have := s39.out; have := s40.out; have := s41.out; have := s43.out; have := s45.out; have := s46.out; have := s47.out; omega)
  replace ow0 := ow0.touch ht (by have := s1.out; have := s2.out; have := s3.out; have := s8.out; have := s9.out; have := s10.out; have := s11.out; have := s12.out; have := s13.out; have := s14.out; have := s15.out; have := s16.out; have := s18.out; have := s21.out; have := s22.out; have := s24.out; have := s25.out; have := s26.out; have := s27.out; have := s30.out; have := s31.out; have := s33.out; have := s36.out; have := s39.out; have := s40.out; have := s41.out; have := s43.out; have := s45.out; have := s46.out; have := s47.out; omega)
  replace ow1 := ow1.touch ht (by have := s1.out; have := s2.out; have := s3.out; have := s8.out; have := s9.out; have := s10.out; have := s11.out; have := s12.out; have := s13.out; have := s14.out; have := s15.out; have := s16.out; have := s18.out; have := s21.out; have := s22.out; have := s24.out; have := s25.out; have := s26.out; have := s27.out; have := s30.out; have := s31.out; have := s33.out; have := s36.out; have := s39.out; have := s40.out; have := s41.out; have := s43.out; have := s45.out; have := s46.out; have := s47.out; omega)
  replace ot17 := ot17.touch ht (by have := s1.out; have := s2.out; have := s3.out; have := s8.out; have := s9.out; have := s10.out; have := s11.out; have := s12.out; have := s13.out; have := s14.out; have := s15.out; have := s16.out; have := s18.out; have := s21.out; have := s22.out; have := s24.out; have := s25.out; have := s26.out; have := s27.out; have := s30.out; have := s31.out; have := s33.out; have := s36.out; have := s39.out; have := s40.out; have := s41.out; have := s43.out; have := s45.out; have := s46.out; have := s47.out; omega)
  replace ot20 := ot20.touch ht (by have := s1.out; have := s2.out; have := s3.out; have := s8.out; have := s9.out; have := s10.out; have := s11.out; have := s12.out; have := s13.out; have := s14.out; have := s15.out; have := s16.out; have := s18.out; have := s21.out; have := s22.out; have := s24.out; have := s25.out; have := s26.out; have := s27.out; have := s30.out; have := s31.out; have := s33.out; have := s36.out; have := s39.out; have := s40.out; have := s41.out; have := s43.out; have := s45.out; have := s46.out; have := s47.out; omega)
  replace og0 := og0.touch ht (by have := s1.out; have := s2.out; have := s3.out; have := s8.out; have := s9.out; have := s10.out; have := s11.out; have := s12.out; have := s13.out; have := s14.out; have := s15.out; have := s16.out; have := s18.out; have := s21.out; have := s22.out; have := s24.out; have := s25.out; have := s26.out; have := s27.out; have := s30.out; have := s31.out; have := s33.out; have := s36.out; have := s39.out; have := s40.out; have := s41.out; have := s43.out; have := s45.out; have := s46.out; have := s47.out; omega)
  replace hbel := hbel.trans (ht.below (by have := s1.out; have := s2.out; have := s3.out; have := s8.out; have := s9.out; have := s10.out; have := s11.out; have := s12.out; have := s13.out; have := s14.out; have := s15.out; have := s16.out; have := s18.out; have := s21.out; have := s22.out; have := s24.out; have := s25.out; have := s26.out; have := s27.out; have := s30.out; have := s31.out; have := s33.out; have := s36.out; have := s39.out; have := s40.out; have := s41.out; have := s43.out; have := s45.out; have := s46.out; have := s47.out; omega) hbel.size)
  clear ht
  go_wp2_with fail
  refine (heldRegister_any (trnR xFromB xFromZ xToB xToZ).1 g0A g0C 1 (trnR xFromB xFromZ xToB xToZ).2.1.length v22 og0.rd (by have := ow0.len; have := ow1.len; have := ot17.len; have := ot20.len; have := og1.len; have := og0.len; have := hxFrom.len; have := hxTo.len; omega) (by have := ow0.len; have := ow1.len; have := ot17.len; have := ot20.len; have := og1.len; have := og0.len; have := hxFrom.len; have := hxTo.len; omega)).mono ?_
  rintro e v23 ⟨rfl, hb⟩
  have s48 : Hid (v22.heap.size ≤ v23.heap.size) := Lib.hid hb.size
  replace cxFrom0 := kept hb cxFrom0
  replace cxFrom1 := kept hb cxFrom1
  replace cxTo0 := kept hb cxTo0
  replace cxTo1 := kept hb cxTo1
  replace cw00 := kept hb cw00
  replace cw10 := kept hb cw10
  replace cw01 := kept hb cw01
  replace cw11 := kept hb cw11
  replace cx00 := kept hb cx00
  replace cx01 := kept hb cx01
  replace cx10 := kept hb cx10
  replace cx11 := kept hb cx11
  replace cg00 := kept hb cg00
  replace cg01 := kept hb cg01
  replace cg10 := kept hb cg10
  replace cg11 := kept hb cg11
  replace ow0 := ow0.below hb
  replace ow1 := ow1.below hb
  replace ot17 := ot17.below hb
  replace ot20 := ot20.below hb
  replace og1 := og1.below hb
  replace og0 := og0.below hb
  replace hbel := hbel.trans (hb.mono hbel.size)
  clear hb
  go_wp2_with fail
  refine (heldRegister_any (trnR xFromB xFromZ xToB xToZ).2.2.1 g1A g1C (1 + ((trnR xFromB xFromZ xToB xToZ).2.1.length : Int)) (trnR xFromB xFromZ xToB xToZ).2.2.2.1.length v23 og1.rd (by have := ow0.len; have := ow1.len; have := ot17.len; have := ot20.len; have := og1.len; have := og0.len; have := hxFrom.len; have := hxTo.len; omega) (by have := ow0.len; have := ow1.len; have := ot17.len; have := ot20.len; have := og1.len; have := og0.len; have := hxFrom.len; have := hxTo.len; omega)).mono ?_
  rintro e v24 ⟨rfl, hb⟩
  have s49 : Hid (v23.heap.size ≤ v24.heap.size) := Lib.hid hb.size
  replace cxFrom0 := kept hb cxFrom0
  replace cxFrom1 := kept hb cxFrom1
  replace cxTo0 := kept hb cxTo0
  replace cxTo1 := kept hb cxTo1
  replace cw00 := kept hb cw00
  replace cw10 := kept hb cw10
  replace cw01 := kept hb cw01
  replace cw11 := kept hb cw11
  replace cx00 := kept hb cx00
  replace cx01 := kept hb cx01
  replace cx10 := kept hb cx10
  replace cx11 := kept hb cx11
  replace cg00 := kept hb cg00
  replace cg01 := kept hb cg01
  replace cg10 := kept hb cg10
  replace cg11 := kept hb cg11
  replace ow0 := ow0.below hb
  replace ow1 := ow1.below hb
  replace ot17 := ot17.below hb
  replace ot20 := ot20.below hb
  replace og1 := og1.below hb
  replace og0 := og0.below hb
  replace hbel := hbel.trans (hb.mono hbel.size)
  clear hb
  go_upto_region 35 with fail
  go_cut [19, 20, 21, 22] from 23 (fun sl19 sl20 sl21 sl22 wx => BoxReg2 v24 (trnR xFromB xFromZ xToB xToZ).1 (trnR xFromB xFromZ xToB xToZ).2.1 (trnR xFromB xFromZ xToB xToZ).2.2.1 (trnR xFromB xFromZ xToB xToZ).2.2.2.1 sl19 sl20 wx ∧ sl21 = .bool (trnR xFromB xFromZ xToB xToZ).2.2.2.2.1 ∧ sl22 = .int .i64 (trnR xFromB xFromZ xToB xToZ).2.2.2.2.2)
  case first =>
    refine wp_region_nodes (fun w' => Below v24.heap.size v24 w') 15 (by kernel_rfl) ?_
    intro G hG
    have K301 : ∀ (v : World) (hk : Below v24.heap.size v24 v) (t50A : Option Addr) (t50C : Nat) (t51A : Option Addr) (t51C : Nat) (h0A : Option Addr) (h0C : Nat) (h1A : Option Addr) (h1C : Nat) (lo hi : Nat) (e1 : v24.heap.size ≤ lo) (e2 : hi ≤ v.heap.size) (oh0 : Own 2 v lo hi (.slice h0A (trnR xFromB xFromZ xToB xToZ).2.1.length h0C) (trnR xFromB xFromZ xToB xToZ).2.1) (oh1 : Own 2 v lo hi (.slice h1A (trnR xFromB xFromZ xToB xToZ).2.2.2.1.length h1C) (trnR xFromB xFromZ xToB xToZ).2.2.2.1) (g0 : Nat) (b0 : Bx v g0 26 #[.int .i64 0, .slice none 0 0]) (l0 : v24.heap.size ≤ g0) (d0 : g0 < lo ∨ hi ≤ g0) (g1 : Nat) (b1 : Bx v g1 26 #[.int .i64 0, .slice none 0 0]) (l1 : v24.heap.size ≤ g1) (d1 : g1 < lo ∨ hi ≤ g1) (ne : ¬ g0 = g1), G [0, 2, 1, 3, 4, 5, 6, 7, 8, 9, 10, 11] [(135, .agg #[.int .i64 xFromB, .slice xFromA xFromZ.length xFromC]), (137, .agg #[.int .i64 xToB, .slice xToA xToZ.length xToC]), (136, .agg #[.int .i64 xFromB, .slice t50A xFromZ.length t50C]), (138, .agg #[.int .i64 xToB, .slice t51A xToZ.length t51C]), (139, .tuple #[.agg #[.int .i64 (trnR xFromB xFromZ xToB xToZ).1, .slice h0A (trnR xFromB xFromZ xToB xToZ).2.1.length h0C], .agg #[.int .i64 (trnR xFromB xFromZ xToB xToZ).2.2.1, .slice h1A (trnR xFromB xFromZ xToB xToZ).2.2.2.1.length h1C], .bool (trnR xFromB xFromZ xToB xToZ).2.2.2.2.1, .int .i64 (trnR xFromB xFromZ xToB xToZ).2.2.2.2.2]), (134, .tuple #[.agg #[.int .i64 (trnR xFromB xFromZ xToB xToZ).1, .slice h0A (trnR xFromB xFromZ xToB xToZ).2.1.length h0C], .agg #[.int .i64 (trnR xFromB xFromZ xToB xToZ).2.2.1, .slice h1A (trnR xFromB xFromZ xToB xToZ).2.2.2.1.length h1C], .bool (trnR xFromB xFromZ xToB xToZ).2.2.2.2.1, .int .i64 (trnR xFromB xFromZ xToB xToZ).2.2.2.2.2]), (140, .agg #[.int .i64 (trnR xFromB xFromZ xToB xToZ).1, .slice h0A (trnR xFromB xFromZ xToB xToZ).2.1.length h0C]), (141, .agg #[.int .i64 (trnR xFromB xFromZ xToB xToZ).2.2.1, .slice h1A (trnR xFromB xFromZ xToB xToZ).2.2.2.1.length h1C]), (142, .bool (trnR xFromB xFromZ xToB xToZ).2.2.2.2.1), (143, .int .i64 (trnR xFromB xFromZ xToB xToZ).2.2.2.2.2), (19, .pointer (some ⟨g0, 0, none⟩)), (20, .pointer (some ⟨g1, 0, none⟩))] v := by
      intro v hk t50A t50C t51A t51C h0A h0C h1A h1C lo hi e1 e2 oh0 oh1 g0 b0 l0 d0 g1 b1 l1 d1 ne
      refine (hG _ _ _).2 ?_
      show wpAnyM _ _ _ _ _ _ 4 _ _ _
      clear cxFrom0 cxFrom1 cxTo0 cxTo1 cw00 cw10 cw01 cw11 cx00 cx01 cx10 cx11 cg00 cg01 cg10 cg11
      simp only [puts, List.foldl_cons, List.foldl_nil, Act.put, List.setIfInBounds_toArray, List.set_cons_succ, List.set_cons_zero]
      have f00 := b0.thaw 0
      have z00 := b0.at_ 0 rfl
      have f01 := b0.thaw 1
      have z01 := b0.at_ 1 rfl
      have t0 := b0.lt
      have f10 := b1.thaw 0
      have z10 := b1.at_ 0 rfl
      have f11 := b1.thaw 1
      have z11 := b1.at_ 1 rfl
      have t1 := b1.lt
      have ne' := fun e => ne (Eq.symm e)
      refine wpAnyM_one (i := 12) (by kernel_rfl) rfl (by rfl) (fun K hK => ?_)
      go_simp
      refine hK _ _ (.inr (by repeat (first | with_reducible exact hk | with_reducible refine Below.setCell ?_ (by first | exact l0 | exact l1) _))) ?_
      clear hK K
      try simp only [Act.put, List.setIfInBounds_toArray]
      refine wpAnyM_one (i := 13) (by kernel_rfl) rfl (by rfl) (fun K hK => ?_)
      go_simp
      refine hK _ _ (.inr (by repeat (first | with_reducible exact hk | with_reducible refine Below.setCell ?_ (by first | exact l0 | exact l1) _))) ?_
      clear hK K
      try simp only [Act.put, List.setIfInBounds_toArray]
      refine wpAnyM_one (i := 14) (by kernel_rfl) rfl (by rfl) (fun K hK => ?_)
      go_simp
      refine hK _ _ (.inr (by repeat (first | with_reducible exact hk | with_reducible refine Below.setCell ?_ (by first | exact l0 | exact l1) _))) ?_
      clear hK K
      try simp only [Act.put, List.setIfInBounds_toArray]
      refine wpAnyM_one (i := 15) (by kernel_rfl) rfl (by rfl) (fun K hK => ?_)
      go_simp
      refine hK _ _ (.inl rfl) ?_
      clear hK K
      try simp only [Act.put, List.setIfInBounds_toArray]
      refine wpAnyM_done (by kernel_rfl) ?_ _
      go_wp2_with fail
      go_meet
      case rel => exact ⟨boxReg2_of hk e1 e2 oh0 oh1 b0 l0 d0 b1 l1 d1 ne, rfl, rfl⟩
    have K30 : ∀ (v : World) (hk : Below v24.heap.size v24 v) (t50A : Option Addr) (t50C : Nat) (t51A : Option Addr) (t51C : Nat) (h0A : Option Addr) (h0C : Nat) (h1A : Option Addr) (h1C : Nat) (lo hi : Nat) (e1 : v24.heap.size ≤ lo) (e2 : hi ≤ v.heap.size) (oh0 : Own 2 v lo hi (.slice h0A (trnR xFromB xFromZ xToB xToZ).2.1.length h0C) (trnR xFromB xFromZ xToB xToZ).2.1) (oh1 : Own 2 v lo hi (.slice h1A (trnR xFromB xFromZ xToB xToZ).2.2.2.1.length h1C) (trnR xFromB xFromZ xToB xToZ).2.2.2.1) (g0 : Nat) (b0 : Bx v g0 26 #[.int .i64 0, .slice none 0 0]) (l0 : v24.heap.size ≤ g0) (d0 : g0 < lo ∨ hi ≤ g0), G [0, 2, 1, 3, 4, 5, 6, 7, 8, 9, 10] [(135, .agg #[.int .i64 xFromB, .slice xFromA xFromZ.length xFromC]), (137, .agg #[.int .i64 xToB, .slice xToA xToZ.length xToC]), (136, .agg #[.int .i64 xFromB, .slice t50A xFromZ.length t50C]), (138, .agg #[.int .i64 xToB, .slice t51A xToZ.length t51C]), (139, .tuple #[.agg #[.int .i64 (trnR xFromB xFromZ xToB xToZ).1, .slice h0A (trnR xFromB xFromZ xToB xToZ).2.1.length h0C], .agg #[.int .i64 (trnR xFromB xFromZ xToB xToZ).2.2.1, .slice h1A (trnR xFromB xFromZ xToB xToZ).2.2.2.1.length h1C], .bool (trnR xFromB xFromZ xToB xToZ).2.2.2.2.1, .int .i64 (trnR xFromB xFromZ xToB xToZ).2.2.2.2.2]), (134, .tuple #[.agg #[.int .i64 (trnR xFromB xFromZ xToB xToZ).1, .slice h0A (trnR xFromB xFromZ xToB xToZ).2.1.length h0C], .agg #[.int .i64 (trnR xFromB xFromZ xToB xToZ).2.2.1, .slice h1A (trnR xFromB xFromZ xToB xToZ).2.2.2.1.length h1C], .bool (trnR xFromB xFromZ xToB xToZ).2.2.2.2.1, .int .i64 (trnR xFromB xFromZ xToB xToZ).2.2.2.2.2]), (140, .agg #[.int .i64 (trnR xFromB xFromZ xToB xToZ).1, .slice h0A (trnR xFromB xFromZ xToB xToZ).2.1.length h0C]), (141, .agg #[.int .i64 (trnR xFromB xFromZ xToB xToZ).2.2.1, .slice h1A (trnR xFromB xFromZ xToB xToZ).2.2.2.1.length h1C]), (142, .bool (trnR xFromB xFromZ xToB xToZ).2.2.2.2.1), (143, .int .i64 (trnR xFromB xFromZ xToB xToZ).2.2.2.2.2), (19, .pointer (some ⟨g0, 0, none⟩))] v := by
      intro v hk t50A t50C t51A t51C h0A h0C h1A h1C lo hi e1 e2 oh0 oh1 g0 b0 l0 d0
      refine (hG _ _ _).2 ?_
      show wpAnyM _ _ _ _ _ _ 5 _ _ _
      clear cxFrom0 cxFrom1 cxTo0 cxTo1 cw00 cw10 cw01 cw11 cx00 cx01 cx10 cx11 cg00 cg01 cg10 cg11
      simp only [puts, List.foldl_cons, List.foldl_nil, Act.put, List.setIfInBounds_toArray, List.set_cons_succ, List.set_cons_zero]
      refine wpAnyM_one (i := 11) (by kernel_rfl) rfl (by rfl) (fun K hK => ?_)
      go_simp
      have hb : Below v.heap.size v (v.alloc (.cells #[.int .i64 0, .slice none 0 0] 26)) := (Below.refl _ _).alloc (Nat.le_refl _) _
      have hk' := hk.trans (hb.mono hk.size)
      refine hK _ _ (.inr hk') ?_
      clear hK K
      exact cast (by kernel_rfl) ((hG _ _ _).1 (K301 (v.alloc (.cells #[.int .i64 0, .slice none 0 0] 26)) hk' t50A t50C t51A t51C h0A h0C h1A h1C lo hi e1 (Nat.le_trans e2 hb.size) (oh0.below hb) (oh1.below hb) g0 (b0.below hb) l0 d0 v.heap.size (Bx.new _ _ _) hk.size (.inr e2) (Nat.ne_of_lt b0.lt)))
    have K31 : ∀ (v : World) (hk : Below v24.heap.size v24 v) (t50A : Option Addr) (t50C : Nat) (t51A : Option Addr) (t51C : Nat) (h0A : Option Addr) (h0C : Nat) (h1A : Option Addr) (h1C : Nat) (lo hi : Nat) (e1 : v24.heap.size ≤ lo) (e2 : hi ≤ v.heap.size) (oh0 : Own 2 v lo hi (.slice h0A (trnR xFromB xFromZ xToB xToZ).2.1.length h0C) (trnR xFromB xFromZ xToB xToZ).2.1) (oh1 : Own 2 v lo hi (.slice h1A (trnR xFromB xFromZ xToB xToZ).2.2.2.1.length h1C) (trnR xFromB xFromZ xToB xToZ).2.2.2.1) (g1 : Nat) (b1 : Bx v g1 26 #[.int .i64 0, .slice none 0 0]) (l1 : v24.heap.size ≤ g1) (d1 : g1 < lo ∨ hi ≤ g1), G [0, 2, 1, 3, 4, 5, 6, 7, 8, 9, 11] [(135, .agg #[.int .i64 xFromB, .slice xFromA xFromZ.length xFromC]), (137, .agg #[.int .i64 xToB, .slice xToA xToZ.length xToC]), (136, .agg #[.int .i64 xFromB, .slice t50A xFromZ.length t50C]), (138, .agg #[.int .i64 xToB, .slice t51A xToZ.length t51C]), (139, .tuple #[.agg #[.int .i64 (trnR xFromB xFromZ xToB xToZ).1, .slice h0A (trnR xFromB xFromZ xToB xToZ).2.1.length h0C], .agg #[.int .i64 (trnR xFromB xFromZ xToB xToZ).2.2.1, .slice h1A (trnR xFromB xFromZ xToB xToZ).2.2.2.1.length h1C], .bool (trnR xFromB xFromZ xToB xToZ).2.2.2.2.1, .int .i64 (trnR xFromB xFromZ xToB xToZ).2.2.2.2.2]), (134, .tuple #[.agg #[.int .i64 (trnR xFromB xFromZ xToB xToZ).1, .slice h0A (trnR xFromB xFromZ xToB xToZ).2.1.length h0C], .agg #[.int .i64 (trnR xFromB xFromZ xToB xToZ).2.2.1, .slice h1A (trnR xFromB xFromZ xToB xToZ).2.2.2.1.length h1C], .bool (trnR xFromB xFromZ xToB xToZ).2.2.2.2.1, .int .i64 (trnR xFromB xFromZ xToB xToZ).2.2.2.2.2]), (140, .agg #[.int .i64 (trnR xFromB xFromZ xToB xToZ).1, .slice h0A (trnR xFromB xFromZ xToB xToZ).2.1.length h0C]), (141, .agg #[.int .i64 (trnR xFromB xFromZ xToB xToZ).2.2.1, .slice h1A (trnR xFromB xFromZ xToB xToZ).2.2.2.1.length h1C]), (142, .bool (trnR xFromB xFromZ xToB xToZ).2.2.2.2.1), (143, .int .i64 (trnR xFromB xFromZ xToB xToZ).2.2.2.2.2), (20, .pointer (some ⟨g1, 0, none⟩))] v := by
      intro v hk t50A t50C t51A t51C h0A h0C h1A h1C lo hi e1 e2 oh0 oh1 g1 b1 l1 d1
      refine (hG _ _ _).2 ?_
      show wpAnyM _ _ _ _ _ _ 5 _ _ _
      clear cxFrom0 cxFrom1 cxTo0 cxTo1 cw00 cw10 cw01 cw11 cx00 cx01 cx10 cx11 cg00 cg01 cg10 cg11
      simp only [puts, List.foldl_cons, List.foldl_nil, Act.put, List.setIfInBounds_toArray, List.set_cons_succ, List.set_cons_zero]
      refine wpAnyM_one (i := 10) (by kernel_rfl) rfl (by rfl) (fun K hK => ?_)
      go_simp
      have hb : Below v.heap.size v (v.alloc (.cells #[.int .i64 0, .slice none 0 0] 26)) := (Below.refl _ _).alloc (Nat.le_refl _) _
      have hk' := hk.trans (hb.mono hk.size)
      refine hK _ _ (.inr hk') ?_
      clear hK K
      exact cast (by kernel_rfl) ((hG _ _ _).1 (K301 (v.alloc (.cells #[.int .i64 0, .slice none 0 0] 26)) hk' t50A t50C t51A t51C h0A h0C h1A h1C lo hi e1 (Nat.le_trans e2 hb.size) (oh0.below hb) (oh1.below hb) v.heap.size (Bx.new _ _ _) hk.size (.inr e2) g1 (b1.below hb) l1 d1 (Nat.ne_of_gt b1.lt)))
    have K3 : ∀ (v : World) (hk : Below v24.heap.size v24 v) (t50A : Option Addr) (t50C : Nat) (t51A : Option Addr) (t51C : Nat) (h0A : Option Addr) (h0C : Nat) (h1A : Option Addr) (h1C : Nat) (lo hi : Nat) (e1 : v24.heap.size ≤ lo) (e2 : hi ≤ v.heap.size) (oh0 : Own 2 v lo hi (.slice h0A (trnR xFromB xFromZ xToB xToZ).2.1.length h0C) (trnR xFromB xFromZ xToB xToZ).2.1) (oh1 : Own 2 v lo hi (.slice h1A (trnR xFromB xFromZ xToB xToZ).2.2.2.1.length h1C) (trnR xFromB xFromZ xToB xToZ).2.2.2.1), G [0, 2, 1, 3, 4, 5, 6, 7, 8, 9] [(135, .agg #[.int .i64 xFromB, .slice xFromA xFromZ.length xFromC]), (137, .agg #[.int .i64 xToB, .slice xToA xToZ.length xToC]), (136, .agg #[.int .i64 xFromB, .slice t50A xFromZ.length t50C]), (138, .agg #[.int .i64 xToB, .slice t51A xToZ.length t51C]), (139, .tuple #[.agg #[.int .i64 (trnR xFromB xFromZ xToB xToZ).1, .slice h0A (trnR xFromB xFromZ xToB xToZ).2.1.length h0C], .agg #[.int .i64 (trnR xFromB xFromZ xToB xToZ).2.2.1, .slice h1A (trnR xFromB xFromZ xToB xToZ).2.2.2.1.length h1C], .bool (trnR xFromB xFromZ xToB xToZ).2.2.2.2.1, .int .i64 (trnR xFromB xFromZ xToB xToZ).2.2.2.2.2]), (134, .tuple #[.agg #[.int .i64 (trnR xFromB xFromZ xToB xToZ).1, .slice h0A (trnR xFromB xFromZ xToB xToZ).2.1.length h0C], .agg #[.int .i64 (trnR xFromB xFromZ xToB xToZ).2.2.1, .slice h1A (trnR xFromB xFromZ xToB xToZ).2.2.2.1.length h1C], .bool (trnR xFromB xFromZ xToB xToZ).2.2.2.2.1, .int .i64 (trnR xFromB xFromZ xToB xToZ).2.2.2.2.2]), (140, .agg #[.int .i64 (trnR xFromB xFromZ xToB xToZ).1, .slice h0A (trnR xFromB xFromZ xToB xToZ).2.1.length h0C]), (141, .agg #[.int .i64 (trnR xFromB xFromZ xToB xToZ).2.2.1, .slice h1A (trnR xFromB xFromZ xToB xToZ).2.2.2.1.length h1C]), (142, .bool (trnR xFromB xFromZ xToB xToZ).2.2.2.2.1), (143, .int .i64 (trnR xFromB xFromZ xToB xToZ).2.2.2.2.2)] v := by
      intro v hk t50A t50C t51A t51C h0A h0C h1A h1C lo hi e1 e2 oh0 oh1
      refine (hG _ _ _).2 ?_
      show wpAnyM _ _ _ _ _ _ 6 _ _ _
      clear cxFrom0 cxFrom1 cxTo0 cxTo1 cw00 cw10 cw01 cw11 cx00 cx01 cx10 cx11 cg00 cg01 cg10 cg11
      simp only [puts, List.foldl_cons, List.foldl_nil, Act.put, List.setIfInBounds_toArray, List.set_cons_succ, List.set_cons_zero]
      refine wpAnyM_two (i := 10) (j := 11) (by kernel_rfl) rfl rfl (by rfl) (by rfl) ?_ ?_
      · intro K hK
        go_simp
        have hb : Below v.heap.size v (v.alloc (.cells #[.int .i64 0, .slice none 0 0] 26)) := (Below.refl _ _).alloc (Nat.le_refl _) _
        have hk' := hk.trans (hb.mono hk.size)
        refine hK _ _ (.inr hk') ?_
        clear hK K
        exact cast (by kernel_rfl) ((hG _ _ _).1 (K30 (v.alloc (.cells #[.int .i64 0, .slice none 0 0] 26)) hk' t50A t50C t51A t51C h0A h0C h1A h1C lo hi e1 (Nat.le_trans e2 hb.size) (oh0.below hb) (oh1.below hb) v.heap.size (Bx.new _ _ _) hk.size (.inr e2)))
      · intro K hK
        go_simp
        have hb : Below v.heap.size v (v.alloc (.cells #[.int .i64 0, .slice none 0 0] 26)) := (Below.refl _ _).alloc (Nat.le_refl _) _
        have hk' := hk.trans (hb.mono hk.size)
        refine hK _ _ (.inr hk') ?_
        clear hK K
        exact cast (by kernel_rfl) ((hG _ _ _).1 (K31 (v.alloc (.cells #[.int .i64 0, .slice none 0 0] 26)) hk' t50A t50C t51A t51C h0A h0C h1A h1C lo hi e1 (Nat.le_trans e2 hb.size) (oh0.below hb) (oh1.below hb) v.heap.size (Bx.new _ _ _) hk.size (.inr e2)))
    have K201 : ∀ (v : World) (hk : Below v24.heap.size v24 v) (t50A : Option Addr) (t50C : Nat) (r0 : Rd v t50A xFromZ) (t51A : Option Addr) (t51C : Nat) (r1 : Rd v t51A xToZ) (g0 : Nat) (b0 : Bx v g0 26 #[.int .i64 0, .slice none 0 0]) (l0 : v24.heap.size ≤ g0) (g1 : Nat) (b1 : Bx v g1 26 #[.int .i64 0, .slice none 0 0]) (l1 : v24.heap.size ≤ g1) (ne : ¬ g0 = g1), G [0, 2, 1, 3, 10, 11] [(135, .agg #[.int .i64 xFromB, .slice xFromA xFromZ.length xFromC]), (137, .agg #[.int .i64 xToB, .slice xToA xToZ.length xToC]), (136, .agg #[.int .i64 xFromB, .slice t50A xFromZ.length t50C]), (138, .agg #[.int .i64 xToB, .slice t51A xToZ.length t51C]), (19, .pointer (some ⟨g0, 0, none⟩)), (20, .pointer (some ⟨g1, 0, none⟩))] v := by
      intro v hk t50A t50C r0 t51A t51C r1 g0 b0 l0 g1 b1 l1 ne
      refine (hG _ _ _).2 ?_
      show wpAnyM _ _ _ _ _ _ 10 _ _ _
      clear cxFrom0 cxFrom1 cxTo0 cxTo1 cw00 cw10 cw01 cw11 cx00 cx01 cx10 cx11 cg00 cg01 cg10 cg11
      simp only [puts, List.foldl_cons, List.foldl_nil, Act.put, List.setIfInBounds_toArray, List.set_cons_succ, List.set_cons_zero]
      refine wpAnyM_one (i := 4) (by kernel_rfl) rfl (by rfl) (fun K hK => ?_)
      go_simp
      have qB := hk
      with_reducible refine (implTransferToL xFromB t50A t50C xFromZ xToB t51A t51C xToZ v r0 zxFrom bxFrom r1 zxTo bxTo (show BellD _ from door_below hD (hbel.trans (qB.mono hbel.size)))).mono ?_
      rintro e v' ⟨h0A, h0C, h1A, h1C, rfl, oh0, oh1, hb⟩
      have hk' := hk.trans (hb.mono hk.size)
      refine hK _ _ (.inr hk') ?_
      clear hK K
      try simp only [Act.put, List.setIfInBounds_toArray]
      refine wpAnyM_pure (i := 5) (v := ?_) rfl (by kernel_rfl) (by kernel_rfl) (by kernel_rfl) (by kernel_rfl) (fun _ _ _ h => h) (.inr hk') (.inl ⟨by rfl, ?_⟩) ?_
      rotate_left 1
      · intro w' hS'; go_simp; try with_reducible rfl
      simp only [Act.put, List.setIfInBounds_toArray]
      refine wpAnyM_pure (i := 6) (v := ?_) rfl (by kernel_rfl) (by kernel_rfl) (by kernel_rfl) (by kernel_rfl) (fun _ _ _ h => h) (.inr hk') (.inl ⟨by rfl, ?_⟩) ?_
      rotate_left 1
      · intro w' hS'; go_simp; try with_reducible rfl
      simp only [Act.put]
      refine wpAnyM_pure (i := 7) (v := ?_) rfl (by kernel_rfl) (by kernel_rfl) (by kernel_rfl) (by kernel_rfl) (fun _ _ _ h => h) (.inr hk') (.inl ⟨by rfl, ?_⟩) ?_
      rotate_left 1
      · intro w' hS'; go_simp; try with_reducible rfl
      simp only [Act.put]
      refine wpAnyM_pure (i := 8) (v := ?_) rfl (by kernel_rfl) (by kernel_rfl) (by kernel_rfl) (by kernel_rfl) (fun _ _ _ h => h) (.inr hk') (.inl ⟨by rfl, ?_⟩) ?_
      rotate_left 1
      · intro w' hS'; go_simp; try with_reducible rfl
      simp only [Act.put]
      refine wpAnyM_pure (i := 9) (v := ?_) rfl (by kernel_rfl) (by kernel_rfl) (by kernel_rfl) (by kernel_rfl) (fun _ _ _ h => h) (.inr hk') (.inl ⟨by rfl, ?_⟩) ?_
      rotate_left 1
      · intro w' hS'; go_simp; try with_reducible rfl
      simp only [Act.put]
      exact cast (by kernel_rfl) ((hG _ _ _).1 (K301 v' hk' t50A t50C t51A t51C h0A h0C h1A h1C v.heap.size v'.heap.size hk.size (Nat.le_refl _) oh0 oh1 g0 (b0.below hb) l0 (.inl b0.lt) g1 (b1.below hb) l1 (.inl b1.lt) ne))
    have K20 : ∀ (v : World) (hk : Below v24.heap.size v24 v) (t50A : Option Addr) (t50C : Nat) (r0 : Rd v t50A xFromZ) (t51A : Option Addr) (t51C : Nat) (r1 : Rd v t51A xToZ) (g0 : Nat) (b0 : Bx v g0 26 #[.int .i64 0, .slice none 0 0]) (l0 : v24.heap.size ≤ g0), G [0, 2, 1, 3, 10] [(135, .agg #[.int .i64 xFromB, .slice xFromA xFromZ.length xFromC]), (137, .agg #[.int .i64 xToB, .slice xToA xToZ.length xToC]), (136, .agg #[.int .i64 xFromB, .slice t50A xFromZ.length t50C]), (138, .agg #[.int .i64 xToB, .slice t51A xToZ.length t51C]), (19, .pointer (some ⟨g0, 0, none⟩))] v := by
      intro v hk t50A t50C r0 t51A t51C r1 g0 b0 l0
      refine (hG _ _ _).2 ?_
      show wpAnyM _ _ _ _ _ _ 11 _ _ _
      clear cxFrom0 cxFrom1 cxTo0 cxTo1 cw00 cw10 cw01 cw11 cx00 cx01 cx10 cx11 cg00 cg01 cg10 cg11
      simp only [puts, List.foldl_cons, List.foldl_nil, Act.put, List.setIfInBounds_toArray, List.set_cons_succ, List.set_cons_zero]
      refine wpAnyM_two (i := 4) (j := 11) (by kernel_rfl) rfl rfl (by rfl) (by rfl) ?_ ?_
      · intro K hK
        go_simp
        have qB := hk
        with_reducible refine (implTransferToL xFromB t50A t50C xFromZ xToB t51A t51C xToZ v r0 zxFrom bxFrom r1 zxTo bxTo (show BellD _ from door_below hD (hbel.trans (qB.mono hbel.size)))).mono ?_
        rintro e v' ⟨h0A, h0C, h1A, h1C, rfl, oh0, oh1, hb⟩
        have hk' := hk.trans (hb.mono hk.size)
        refine hK _ _ (.inr hk') ?_
        clear hK K
        try simp only [Act.put, List.setIfInBounds_toArray]
        refine wpAnyM_pure (i := 5) (v := ?_) rfl (by kernel_rfl) (by kernel_rfl) (by kernel_rfl) (by kernel_rfl) (fun _ _ _ h => h) (.inr hk') (.inl ⟨by rfl, ?_⟩) ?_
        rotate_left 1
        · intro w' hS'; go_simp; try with_reducible rfl
        simp only [Act.put, List.setIfInBounds_toArray]
        refine wpAnyM_pure (i := 6) (v := ?_) rfl (by kernel_rfl) (by kernel_rfl) (by kernel_rfl) (by kernel_rfl) (fun _ _ _ h => h) (.inr hk') (.inl ⟨by rfl, ?_⟩) ?_
        rotate_left 1
        · intro w' hS'; go_simp; try with_reducible rfl
        simp only [Act.put]
        refine wpAnyM_pure (i := 7) (v := ?_) rfl (by kernel_rfl) (by kernel_rfl) (by kernel_rfl) (by kernel_rfl) (fun _ _ _ h => h) (.inr hk') (.inl ⟨by rfl, ?_⟩) ?_
        rotate_left 1
        · intro w' hS'; go_simp; try with_reducible rfl
        simp only [Act.put]
        refine wpAnyM_pure (i := 8) (v := ?_) rfl (by kernel_rfl) (by kernel_rfl) (by kernel_rfl) (by kernel_rfl) (fun _ _ _ h => h) (.inr hk') (.inl ⟨by rfl, ?_⟩) ?_
        rotate_left 1
        · intro w' hS'; go_simp; try with_reducible rfl
        simp only [Act.put]
        refine wpAnyM_pure (i := 9) (v := ?_) rfl (by kernel_rfl) (by kernel_rfl) (by kernel_rfl) (by kernel_rfl) (fun _ _ _ h => h) (.inr hk') (.inl ⟨by rfl, ?_⟩) ?_
        rotate_left 1
        · intro w' hS'; go_simp; try with_reducible rfl
        simp only [Act.put]
        exact cast (by kernel_rfl) ((hG _ _ _).1 (K30 v' hk' t50A t50C t51A t51C h0A h0C h1A h1C v.heap.size v'.heap.size hk.size (Nat.le_refl _) oh0 oh1 g0 (b0.below hb) l0 (.inl b0.lt)))
      · intro K hK
        go_simp
        have hb : Below v.heap.size v (v.alloc (.cells #[.int .i64 0, .slice none 0 0] 26)) := (Below.refl _ _).alloc (Nat.le_refl _) _
        have hk' := hk.trans (hb.mono hk.size)
        refine hK _ _ (.inr hk') ?_
        clear hK K
        exact cast (by kernel_rfl) ((hG _ _ _).1 (K201 (v.alloc (.cells #[.int .i64 0, .slice none 0 0] 26)) hk' t50A t50C (r0.below hb) t51A t51C (r1.below hb) g0 (b0.below hb) l0 v.heap.size (Bx.new _ _ _) hk.size (Nat.ne_of_lt b0.lt)))
    have K21 : ∀ (v : World) (hk : Below v24.heap.size v24 v) (t50A : Option Addr) (t50C : Nat) (r0 : Rd v t50A xFromZ) (t51A : Option Addr) (t51C : Nat) (r1 : Rd v t51A xToZ) (g1 : Nat) (b1 : Bx v g1 26 #[.int .i64 0, .slice none 0 0]) (l1 : v24.heap.size ≤ g1), G [0, 2, 1, 3, 11] [(135, .agg #[.int .i64 xFromB, .slice xFromA xFromZ.length xFromC]), (137, .agg #[.int .i64 xToB, .slice xToA xToZ.length xToC]), (136, .agg #[.int .i64 xFromB, .slice t50A xFromZ.length t50C]), (138, .agg #[.int .i64 xToB, .slice t51A xToZ.length t51C]), (20, .pointer (some ⟨g1, 0, none⟩))] v := by
      intro v hk t50A t50C r0 t51A t51C r1 g1 b1 l1
      refine (hG _ _ _).2 ?_
      show wpAnyM _ _ _ _ _ _ 11 _ _ _
      clear cxFrom0 cxFrom1 cxTo0 cxTo1 cw00 cw10 cw01 cw11 cx00 cx01 cx10 cx11 cg00 cg01 cg10 cg11
      simp only [puts, List.foldl_cons, List.foldl_nil, Act.put, List.setIfInBounds_toArray, List.set_cons_succ, List.set_cons_zero]
      refine wpAnyM_two (i := 4) (j := 10) (by kernel_rfl) rfl rfl (by rfl) (by rfl) ?_ ?_
      · intro K hK
        go_simp
        have qB := hk
        with_reducible refine (implTransferToL xFromB t50A t50C xFromZ xToB t51A t51C xToZ v r0 zxFrom bxFrom r1 zxTo bxTo (show BellD _ from door_below hD (hbel.trans (qB.mono hbel.size)))).mono ?_
        rintro e v' ⟨h0A, h0C, h1A, h1C, rfl, oh0, oh1, hb⟩
        have hk' := hk.trans (hb.mono hk.size)
        refine hK _ _ (.inr hk') ?_
        clear hK K
        try simp only [Act.put, List.setIfInBounds_toArray]
        refine wpAnyM_pure (i := 5) (v := ?_) rfl (by kernel_rfl) (by kernel_rfl) (by kernel_rfl) (by kernel_rfl) (fun _ _ _ h => h) (.inr hk') (.inl ⟨by rfl, ?_⟩) ?_
        rotate_left 1
        · intro w' hS'; go_simp; try with_reducible rfl
        simp only [Act.put, List.setIfInBounds_toArray]
        refine wpAnyM_pure (i := 6) (v := ?_) rfl (by kernel_rfl) (by kernel_rfl) (by kernel_rfl) (by kernel_rfl) (fun _ _ _ h => h) (.inr hk') (.inl ⟨by rfl, ?_⟩) ?_
        rotate_left 1
        · intro w' hS'; go_simp; try with_reducible rfl
        simp only [Act.put]
        refine wpAnyM_pure (i := 7) (v := ?_) rfl (by kernel_rfl) (by kernel_rfl) (by kernel_rfl) (by kernel_rfl) (fun _ _ _ h => h) (.inr hk') (.inl ⟨by rfl, ?_⟩) ?_
        rotate_left 1
        · intro w' hS'; go_simp; try with_reducible rfl
        simp only [Act.put]
        refine wpAnyM_pure (i := 8) (v := ?_) rfl (by kernel_rfl) (by kernel_rfl) (by kernel_rfl) (by kernel_rfl) (fun _ _ _ h => h) (.inr hk') (.inl ⟨by rfl, ?_⟩) ?_
        rotate_left 1
        · intro w' hS'; go_simp; try with_reducible rfl
        simp only [Act.put]
        refine wpAnyM_pure (i := 9) (v := ?_) rfl (by kernel_rfl) (by kernel_rfl) (by kernel_rfl) (by kernel_rfl) (fun _ _ _ h => h) (.inr hk') (.inl ⟨by rfl, ?_⟩) ?_
        rotate_left 1
        · intro w' hS'; go_simp; try with_reducible rfl
        simp only [Act.put]
        exact cast (by kernel_rfl) ((hG _ _ _).1 (K31 v' hk' t50A t50C t51A t51C h0A h0C h1A h1C v.heap.size v'.heap.size hk.size (Nat.le_refl _) oh0 oh1 g1 (b1.below hb) l1 (.inl b1.lt)))
      · intro K hK
        go_simp
        have hb : Below v.heap.size v (v.alloc (.cells #[.int .i64 0, .slice none 0 0] 26)) := (Below.refl _ _).alloc (Nat.le_refl _) _
        have hk' := hk.trans (hb.mono hk.size)
        refine hK _ _ (.inr hk') ?_
        clear hK K
        exact cast (by kernel_rfl) ((hG _ _ _).1 (K201 (v.alloc (.cells #[.int .i64 0, .slice none 0 0] 26)) hk' t50A t50C (r0.below hb) t51A t51C (r1.below hb) v.heap.size (Bx.new _ _ _) hk.size g1 (b1.below hb) l1 (Nat.ne_of_gt b1.lt)))
    have K2 : ∀ (v : World) (hk : Below v24.heap.size v24 v) (t50A : Option Addr) (t50C : Nat) (r0 : Rd v t50A xFromZ) (t51A : Option Addr) (t51C : Nat) (r1 : Rd v t51A xToZ), G [0, 2, 1, 3] [(135, .agg #[.int .i64 xFromB, .slice xFromA xFromZ.length xFromC]), (137, .agg #[.int .i64 xToB, .slice xToA xToZ.length xToC]), (136, .agg #[.int .i64 xFromB, .slice t50A xFromZ.length t50C]), (138, .agg #[.int .i64 xToB, .slice t51A xToZ.length t51C])] v := by
      intro v hk t50A t50C r0 t51A t51C r1
      refine (hG _ _ _).2 ?_
      show wpAnyM _ _ _ _ _ _ 12 _ _ _
      clear cxFrom0 cxFrom1 cxTo0 cxTo1 cw00 cw10 cw01 cw11 cx00 cx01 cx10 cx11 cg00 cg01 cg10 cg11
      simp only [puts, List.foldl_cons, List.foldl_nil, Act.put, List.setIfInBounds_toArray, List.set_cons_succ, List.set_cons_zero]
      refine wpAnyM_three (i := 4) (j := 10) (k := 11) (by kernel_rfl) rfl rfl rfl (by rfl) (by rfl) (by rfl) ?_ ?_ ?_
      · intro K hK
        go_simp
        have qB := hk
        with_reducible refine (implTransferToL xFromB t50A t50C xFromZ xToB t51A t51C xToZ v r0 zxFrom bxFrom r1 zxTo bxTo (show BellD _ from door_below hD (hbel.trans (qB.mono hbel.size)))).mono ?_
        rintro e v' ⟨h0A, h0C, h1A, h1C, rfl, oh0, oh1, hb⟩
        have hk' := hk.trans (hb.mono hk.size)
        refine hK _ _ (.inr hk') ?_
        clear hK K
        try simp only [Act.put, List.setIfInBounds_toArray]
        refine wpAnyM_pure (i := 5) (v := ?_) rfl (by kernel_rfl) (by kernel_rfl) (by kernel_rfl) (by kernel_rfl) (fun _ _ _ h => h) (.inr hk') (.inl ⟨by rfl, ?_⟩) ?_
        rotate_left 1
        · intro w' hS'; go_simp; try with_reducible rfl
        simp only [Act.put, List.setIfInBounds_toArray]
        refine wpAnyM_pure (i := 6) (v := ?_) rfl (by kernel_rfl) (by kernel_rfl) (by kernel_rfl) (by kernel_rfl) (fun _ _ _ h => h) (.inr hk') (.inl ⟨by rfl, ?_⟩) ?_
        rotate_left 1
        · intro w' hS'; go_simp; try with_reducible rfl
        simp only [Act.put]
        refine wpAnyM_pure (i := 7) (v := ?_) rfl (by kernel_rfl) (by kernel_rfl) (by kernel_rfl) (by kernel_rfl) (fun _ _ _ h => h) (.inr hk') (.inl ⟨by rfl, ?_⟩) ?_
        rotate_left 1
        · intro w' hS'; go_simp; try with_reducible rfl
        simp only [Act.put]
        refine wpAnyM_pure (i := 8) (v := ?_) rfl (by kernel_rfl) (by kernel_rfl) (by kernel_rfl) (by kernel_rfl) (fun _ _ _ h => h) (.inr hk') (.inl ⟨by rfl, ?_⟩) ?_
        rotate_left 1
        · intro w' hS'; go_simp; try with_reducible rfl
        simp only [Act.put]
        refine wpAnyM_pure (i := 9) (v := ?_) rfl (by kernel_rfl) (by kernel_rfl) (by kernel_rfl) (by kernel_rfl) (fun _ _ _ h => h) (.inr hk') (.inl ⟨by rfl, ?_⟩) ?_
        rotate_left 1
        · intro w' hS'; go_simp; try with_reducible rfl
        simp only [Act.put]
        exact cast (by kernel_rfl) ((hG _ _ _).1 (K3 v' hk' t50A t50C t51A t51C h0A h0C h1A h1C v.heap.size v'.heap.size hk.size (Nat.le_refl _) oh0 oh1))
      · intro K hK
        go_simp
        have hb : Below v.heap.size v (v.alloc (.cells #[.int .i64 0, .slice none 0 0] 26)) := (Below.refl _ _).alloc (Nat.le_refl _) _
        have hk' := hk.trans (hb.mono hk.size)
        refine hK _ _ (.inr hk') ?_
        clear hK K
        exact cast (by kernel_rfl) ((hG _ _ _).1 (K20 (v.alloc (.cells #[.int .i64 0, .slice none 0 0] 26)) hk' t50A t50C (r0.below hb) t51A t51C (r1.below hb) v.heap.size (Bx.new _ _ _) hk.size))
      · intro K hK
        go_simp
        have hb : Below v.heap.size v (v.alloc (.cells #[.int .i64 0, .slice none 0 0] 26)) := (Below.refl _ _).alloc (Nat.le_refl _) _
        have hk' := hk.trans (hb.mono hk.size)
        refine hK _ _ (.inr hk') ?_
        clear hK K
        exact cast (by kernel_rfl) ((hG _ _ _).1 (K21 (v.alloc (.cells #[.int .i64 0, .slice none 0 0] 26)) hk' t50A t50C (r0.below hb) t51A t51C (r1.below hb) v.heap.size (Bx.new _ _ _) hk.size))
    have K101 : ∀ (v : World) (hk : Below v24.heap.size v24 v) (t50A : Option Addr) (t50C : Nat) (r0 : Rd v t50A xFromZ) (g0 : Nat) (b0 : Bx v g0 26 #[.int .i64 0, .slice none 0 0]) (l0 : v24.heap.size ≤ g0) (g1 : Nat) (b1 : Bx v g1 26 #[.int .i64 0, .slice none 0 0]) (l1 : v24.heap.size ≤ g1) (ne : ¬ g0 = g1), G [0, 2, 1, 10, 11] [(135, .agg #[.int .i64 xFromB, .slice xFromA xFromZ.length xFromC]), (137, .agg #[.int .i64 xToB, .slice xToA xToZ.length xToC]), (136, .agg #[.int .i64 xFromB, .slice t50A xFromZ.length t50C]), (19, .pointer (some ⟨g0, 0, none⟩)), (20, .pointer (some ⟨g1, 0, none⟩))] v := by
      intro v hk t50A t50C r0 g0 b0 l0 g1 b1 l1 ne
      refine (hG _ _ _).2 ?_
      show wpAnyM _ _ _ _ _ _ 11 _ _ _
      clear cxFrom0 cxFrom1 cxTo0 cxTo1 cw00 cw10 cw01 cw11 cx00 cx01 cx10 cx11 cg00 cg01 cg10 cg11
      simp only [puts, List.foldl_cons, List.foldl_nil, Act.put, List.setIfInBounds_toArray, List.set_cons_succ, List.set_cons_zero]
      refine wpAnyM_one (i := 3) (by kernel_rfl) rfl (by rfl) (fun K hK => ?_)
      go_simp
      have qB := hk
      with_reducible refine (toRegister_any xToB xToA xToC xToZ v (hxTo.below (hbel.trans (hk.mono hbel.size)))).mono ?_
      rintro e v' ⟨t51A, t51C, rfl, ot51, hb⟩
      have hk' := hk.trans (hb.mono hk.size)
      refine hK _ _ (.inr hk') ?_
      clear hK K
      exact cast (by kernel_rfl) ((hG _ _ _).1 (K201 v' hk' t50A t50C (r0.below hb) t51A t51C ot51.rd g0 (b0.below hb) l0 g1 (b1.below hb) l1 ne))
    have K10 : ∀ (v : World) (hk : Below v24.heap.size v24 v) (t50A : Option Addr) (t50C : Nat) (r0 : Rd v t50A xFromZ) (g0 : Nat) (b0 : Bx v g0 26 #[.int .i64 0, .slice none 0 0]) (l0 : v24.heap.size ≤ g0), G [0, 2, 1, 10] [(135, .agg #[.int .i64 xFromB, .slice xFromA xFromZ.length xFromC]), (137, .agg #[.int .i64 xToB, .slice xToA xToZ.length xToC]), (136, .agg #[.int .i64 xFromB, .slice t50A xFromZ.length t50C]), (19, .pointer (some ⟨g0, 0, none⟩))] v := by
      intro v hk t50A t50C r0 g0 b0 l0
      refine (hG _ _ _).2 ?_
      show wpAnyM _ _ _ _ _ _ 12 _ _ _
      clear cxFrom0 cxFrom1 cxTo0 cxTo1 cw00 cw10 cw01 cw11 cx00 cx01 cx10 cx11 cg00 cg01 cg10 cg11
      simp only [puts, List.foldl_cons, List.foldl_nil, Act.put, List.setIfInBounds_toArray, List.set_cons_succ, List.set_cons_zero]
      refine wpAnyM_two (i := 3) (j := 11) (by kernel_rfl) rfl rfl (by rfl) (by rfl) ?_ ?_
      · intro K hK
        go_simp
        have qB := hk
        with_reducible refine (toRegister_any xToB xToA xToC xToZ v (hxTo.below (hbel.trans (hk.mono hbel.size)))).mono ?_
        rintro e v' ⟨t51A, t51C, rfl, ot51, hb⟩
        have hk' := hk.trans (hb.mono hk.size)
        refine hK _ _ (.inr hk') ?_
        clear hK K
        exact cast (by kernel_rfl) ((hG _ _ _).1 (K20 v' hk' t50A t50C (r0.below hb) t51A t51C ot51.rd g0 (b0.below hb) l0))
      · intro K hK
        go_simp
        have hb : Below v.heap.size v (v.alloc (.cells #[.int .i64 0, .slice none 0 0] 26)) := (Below.refl _ _).alloc (Nat.le_refl _) _
        have hk' := hk.trans (hb.mono hk.size)
        refine hK _ _ (.inr hk') ?_
        clear hK K
        exact cast (by kernel_rfl) ((hG _ _ _).1 (K101 (v.alloc (.cells #[.int .i64 0, .slice none 0 0] 26)) hk' t50A t50C (r0.below hb) g0 (b0.below hb) l0 v.heap.size (Bx.new _ _ _) hk.size (Nat.ne_of_lt b0.lt)))
    have K11 : ∀ (v : World) (hk : Below v24.heap.size v24 v) (t50A : Option Addr) (t50C : Nat) (r0 : Rd v t50A xFromZ) (g1 : Nat) (b1 : Bx v g1 26 #[.int .i64 0, .slice none 0 0]) (l1 : v24.heap.size ≤ g1), G [0, 2, 1, 11] [(135, .agg #[.int .i64 xFromB, .slice xFromA xFromZ.length xFromC]), (137, .agg #[.int .i64 xToB, .slice xToA xToZ.length xToC]), (136, .agg #[.int .i64 xFromB, .slice t50A xFromZ.length t50C]), (20, .pointer (some ⟨g1, 0, none⟩))] v := by
      intro v hk t50A t50C r0 g1 b1 l1
      refine (hG _ _ _).2 ?_
      show wpAnyM _ _ _ _ _ _ 12 _ _ _
      clear cxFrom0 cxFrom1 cxTo0 cxTo1 cw00 cw10 cw01 cw11 cx00 cx01 cx10 cx11 cg00 cg01 cg10 cg11
      simp only [puts, List.foldl_cons, List.foldl_nil, Act.put, List.setIfInBounds_toArray, List.set_cons_succ, List.set_cons_zero]
      refine wpAnyM_two (i := 3) (j := 10) (by kernel_rfl) rfl rfl (by rfl) (by rfl) ?_ ?_
      · intro K hK
        go_simp
        have qB := hk
        with_reducible refine (toRegister_any xToB xToA xToC xToZ v (hxTo.below (hbel.trans (hk.mono hbel.size)))).mono ?_
        rintro e v' ⟨t51A, t51C, rfl, ot51, hb⟩
        have hk' := hk.trans (hb.mono hk.size)
        refine hK _ _ (.inr hk') ?_
        clear hK K
        exact cast (by kernel_rfl) ((hG _ _ _).1 (K21 v' hk' t50A t50C (r0.below hb) t51A t51C ot51.rd g1 (b1.below hb) l1))
      · intro K hK
        go_simp
        have hb : Below v.heap.size v (v.alloc (.cells #[.int .i64 0, .slice none 0 0] 26)) := (Below.refl _ _).alloc (Nat.le_refl _) _
        have hk' := hk.trans (hb.mono hk.size)
        refine hK _ _ (.inr hk') ?_
        clear hK K
        exact cast (by kernel_rfl) ((hG _ _ _).1 (K101 (v.alloc (.cells #[.int .i64 0, .slice none 0 0] 26)) hk' t50A t50C (r0.below hb) v.heap.size (Bx.new _ _ _) hk.size g1 (b1.below hb) l1 (Nat.ne_of_gt b1.lt)))
    have K1 : ∀ (v : World) (hk : Below v24.heap.size v24 v) (t50A : Option Addr) (t50C : Nat) (r0 : Rd v t50A xFromZ), G [0, 2, 1] [(135, .agg #[.int .i64 xFromB, .slice xFromA xFromZ.length xFromC]), (137, .agg #[.int .i64 xToB, .slice xToA xToZ.length xToC]), (136, .agg #[.int .i64 xFromB, .slice t50A xFromZ.length t50C])] v := by
      intro v hk t50A t50C r0
      refine (hG _ _ _).2 ?_
      show wpAnyM _ _ _ _ _ _ 13 _ _ _
      clear cxFrom0 cxFrom1 cxTo0 cxTo1 cw00 cw10 cw01 cw11 cx00 cx01 cx10 cx11 cg00 cg01 cg10 cg11
      simp only [puts, List.foldl_cons, List.foldl_nil, Act.put, List.setIfInBounds_toArray, List.set_cons_succ, List.set_cons_zero]
      refine wpAnyM_three (i := 3) (j := 10) (k := 11) (by kernel_rfl) rfl rfl rfl (by rfl) (by rfl) (by rfl) ?_ ?_ ?_
      · intro K hK
        go_simp
        have qB := hk
        with_reducible refine (toRegister_any xToB xToA xToC xToZ v (hxTo.below (hbel.trans (hk.mono hbel.size)))).mono ?_
        rintro e v' ⟨t51A, t51C, rfl, ot51, hb⟩
        have hk' := hk.trans (hb.mono hk.size)
        refine hK _ _ (.inr hk') ?_
        clear hK K
        exact cast (by kernel_rfl) ((hG _ _ _).1 (K2 v' hk' t50A t50C (r0.below hb) t51A t51C ot51.rd))
      · intro K hK
        go_simp
        have hb : Below v.heap.size v (v.alloc (.cells #[.int .i64 0, .slice none 0 0] 26)) := (Below.refl _ _).alloc (Nat.le_refl _) _
        have hk' := hk.trans (hb.mono hk.size)
        refine hK _ _ (.inr hk') ?_
        clear hK K
        exact cast (by kernel_rfl) ((hG _ _ _).1 (K10 (v.alloc (.cells #[.int .i64 0, .slice none 0 0] 26)) hk' t50A t50C (r0.below hb) v.heap.size (Bx.new _ _ _) hk.size))
      · intro K hK
        go_simp
        have hb : Below v.heap.size v (v.alloc (.cells #[.int .i64 0, .slice none 0 0] 26)) := (Below.refl _ _).alloc (Nat.le_refl _) _
        have hk' := hk.trans (hb.mono hk.size)
        refine hK _ _ (.inr hk') ?_
        clear hK K
        exact cast (by kernel_rfl) ((hG _ _ _).1 (K11 (v.alloc (.cells #[.int .i64 0, .slice none 0 0] 26)) hk' t50A t50C (r0.below hb) v.heap.size (Bx.new _ _ _) hk.size))
    have K001 : ∀ (v : World) (hk : Below v24.heap.size v24 v) (g0 : Nat) (b0 : Bx v g0 26 #[.int .i64 0, .slice none 0 0]) (l0 : v24.heap.size ≤ g0) (g1 : Nat) (b1 : Bx v g1 26 #[.int .i64 0, .slice none 0 0]) (l1 : v24.heap.size ≤ g1) (ne : ¬ g0 = g1), G [0, 2, 10, 11] [(135, .agg #[.int .i64 xFromB, .slice xFromA xFromZ.length xFromC]), (137, .agg #[.int .i64 xToB, .slice xToA xToZ.length xToC]), (19, .pointer (some ⟨g0, 0, none⟩)), (20, .pointer (some ⟨g1, 0, none⟩))] v := by
      intro v hk g0 b0 l0 g1 b1 l1 ne
      refine (hG _ _ _).2 ?_
      show wpAnyM _ _ _ _ _ _ 12 _ _ _
      clear cxFrom0 cxFrom1 cxTo0 cxTo1 cw00 cw10 cw01 cw11 cx00 cx01 cx10 cx11 cg00 cg01 cg10 cg11
      simp only [puts, List.foldl_cons, List.foldl_nil, Act.put, List.setIfInBounds_toArray, List.set_cons_succ, List.set_cons_zero]
      refine wpAnyM_one (i := 1) (by kernel_rfl) rfl (by rfl) (fun K hK => ?_)
      go_simp
      have qB := hk
      with_reducible refine (toRegister_any xFromB xFromA xFromC xFromZ v (hxFrom.below (hbel.trans (hk.mono hbel.size)))).mono ?_
      rintro e v' ⟨t50A, t50C, rfl, ot50, hb⟩
      have hk' := hk.trans (hb.mono hk.size)
      refine hK _ _ (.inr hk') ?_
      clear hK K
      exact cast (by kernel_rfl) ((hG _ _ _).1 (K101 v' hk' t50A t50C ot50.rd g0 (b0.below hb) l0 g1 (b1.below hb) l1 ne))
    have K00 : ∀ (v : World) (hk : Below v24.heap.size v24 v) (g0 : Nat) (b0 : Bx v g0 26 #[.int .i64 0, .slice none 0 0]) (l0 : v24.heap.size ≤ g0), G [0, 2, 10] [(135, .agg #[.int .i64 xFromB, .slice xFromA xFromZ.length xFromC]), (137, .agg #[.int .i64 xToB, .slice xToA xToZ.length xToC]), (19, .pointer (some ⟨g0, 0, none⟩))] v := by
      intro v hk g0 b0 l0
      refine (hG _ _ _).2 ?_
      show wpAnyM _ _ _ _ _ _ 13 _ _ _
      clear cxFrom0 cxFrom1 cxTo0 cxTo1 cw00 cw10 cw01 cw11 cx00 cx01 cx10 cx11 cg00 cg01 cg10 cg11
      simp only [puts, List.foldl_cons, List.foldl_nil, Act.put, List.setIfInBounds_toArray, List.set_cons_succ, List.set_cons_zero]
      refine wpAnyM_two (i := 1) (j := 11) (by kernel_rfl) rfl rfl (by rfl) (by rfl) ?_ ?_
      · intro K hK
        go_simp
        have qB := hk
        with_reducible refine (toRegister_any xFromB xFromA xFromC xFromZ v (hxFrom.below (hbel.trans (hk.mono hbel.size)))).mono ?_
        rintro e v' ⟨t50A, t50C, rfl, ot50, hb⟩
        have hk' := hk.trans (hb.mono hk.size)
        refine hK _ _ (.inr hk') ?_
        clear hK K
        exact cast (by kernel_rfl) ((hG _ _ _).1 (K10 v' hk' t50A t50C ot50.rd g0 (b0.below hb) l0))
      · intro K hK
        go_simp
        have hb : Below v.heap.size v (v.alloc (.cells #[.int .i64 0, .slice none 0 0] 26)) := (Below.refl _ _).alloc (Nat.le_refl _) _
        have hk' := hk.trans (hb.mono hk.size)
        refine hK _ _ (.inr hk') ?_
        clear hK K
        exact cast (by kernel_rfl) ((hG _ _ _).1 (K001 (v.alloc (.cells #[.int .i64 0, .slice none 0 0] 26)) hk' g0 (b0.below hb) l0 v.heap.size (Bx.new _ _ _) hk.size (Nat.ne_of_lt b0.lt)))
    have K01 : ∀ (v : World) (hk : Below v24.heap.size v24 v) (g1 : Nat) (b1 : Bx v g1 26 #[.int .i64 0, .slice none 0 0]) (l1 : v24.heap.size ≤ g1), G [0, 2, 11] [(135, .agg #[.int .i64 xFromB, .slice xFromA xFromZ.length xFromC]), (137, .agg #[.int .i64 xToB, .slice xToA xToZ.length xToC]), (20, .pointer (some ⟨g1, 0, none⟩))] v := by
      intro v hk g1 b1 l1
      refine (hG _ _ _).2 ?_
      show wpAnyM _ _ _ _ _ _ 13 _ _ _
      clear cxFrom0 cxFrom1 cxTo0 cxTo1 cw00 cw10 cw01 cw11 cx00 cx01 cx10 cx11 cg00 cg01 cg10 cg11
      simp only [puts, List.foldl_cons, List.foldl_nil, Act.put, List.setIfInBounds_toArray, List.set_cons_succ, List.set_cons_zero]
      refine wpAnyM_two (i := 1) (j := 10) (by kernel_rfl) rfl rfl (by rfl) (by rfl) ?_ ?_
      · intro K hK
        go_simp
        have qB := hk
        with_reducible refine (toRegister_any xFromB xFromA xFromC xFromZ v (hxFrom.below (hbel.trans (hk.mono hbel.size)))).mono ?_
        rintro e v' ⟨t50A, t50C, rfl, ot50, hb⟩
        have hk' := hk.trans (hb.mono hk.size)
        refine hK _ _ (.inr hk') ?_
        clear hK K
        exact cast (by kernel_rfl) ((hG _ _ _).1 (K11 v' hk' t50A t50C ot50.rd g1 (b1.below hb) l1))
      · intro K hK
        go_simp
        have hb : Below v.heap.size v (v.alloc (.cells #[.int .i64 0, .slice none 0 0] 26)) := (Below.refl _ _).alloc (Nat.le_refl _) _
        have hk' := hk.trans (hb.mono hk.size)
        refine hK _ _ (.inr hk') ?_
        clear hK K
        exact cast (by kernel_rfl) ((hG _ _ _).1 (K001 (v.alloc (.cells #[.int .i64 0, .slice none 0 0] 26)) hk' v.heap.size (Bx.new _ _ _) hk.size g1 (b1.below hb) l1 (Nat.ne_of_gt b1.lt)))
    have K0 : ∀ (v : World) (hk : Below v24.heap.size v24 v), G [0, 2] [(135, .agg #[.int .i64 xFromB, .slice xFromA xFromZ.length xFromC]), (137, .agg #[.int .i64 xToB, .slice xToA xToZ.length xToC])] v := by
      intro v hk
      refine (hG _ _ _).2 ?_
      show wpAnyM _ _ _ _ _ _ 14 _ _ _
      clear cxFrom0 cxFrom1 cxTo0 cxTo1 cw00 cw10 cw01 cw11 cx00 cx01 cx10 cx11 cg00 cg01 cg10 cg11
      simp only [puts, List.foldl_cons, List.foldl_nil, Act.put, List.setIfInBounds_toArray, List.set_cons_succ, List.set_cons_zero]
      refine wpAnyM_three (i := 1) (j := 10) (k := 11) (by kernel_rfl) rfl rfl rfl (by rfl) (by rfl) (by rfl) ?_ ?_ ?_
      · intro K hK
        go_simp
        have qB := hk
        with_reducible refine (toRegister_any xFromB xFromA xFromC xFromZ v (hxFrom.below (hbel.trans (hk.mono hbel.size)))).mono ?_
        rintro e v' ⟨t50A, t50C, rfl, ot50, hb⟩
        have hk' := hk.trans (hb.mono hk.size)
        refine hK _ _ (.inr hk') ?_
        clear hK K
        exact cast (by kernel_rfl) ((hG _ _ _).1 (K1 v' hk' t50A t50C ot50.rd))
      · intro K hK
        go_simp
        have hb : Below v.heap.size v (v.alloc (.cells #[.int .i64 0, .slice none 0 0] 26)) := (Below.refl _ _).alloc (Nat.le_refl _) _
        have hk' := hk.trans (hb.mono hk.size)
        refine hK _ _ (.inr hk') ?_
        clear hK K
        exact cast (by kernel_rfl) ((hG _ _ _).1 (K00 (v.alloc (.cells #[.int .i64 0, .slice none 0 0] 26)) hk' v.heap.size (Bx.new _ _ _) hk.size))
      · intro K hK
        go_simp
        have hb : Below v.heap.size v (v.alloc (.cells #[.int .i64 0, .slice none 0 0] 26)) := (Below.refl _ _).alloc (Nat.le_refl _) _
        have hk' := hk.trans (hb.mono hk.size)
        refine hK _ _ (.inr hk') ?_
        clear hK K
        exact cast (by kernel_rfl) ((hG _ _ _).1 (K01 (v.alloc (.cells #[.int .i64 0, .slice none 0 0] 26)) hk' v.heap.size (Bx.new _ _ _) hk.size))
    refine (hG _ _ _).2 ?_
    show wpAnyM _ _ _ _ _ _ 16 _ _ _
    have hS : Below v24.heap.size v24 v24.drew := (Below.refl _ _).drew
    simp only [puts, List.foldl_nil]
    refine wpAnyM_take (i := 0) (v := ?_) rfl (by kernel_rfl) (by kernel_rfl) (by kernel_rfl) (by kernel_rfl) (by kernel_rfl) (fun _ _ _ h => h) hS (.inl ⟨by rfl, ?_⟩) ?_
    rotate_left 1
    · intro w' hS'; have q0 := kept hS' cxFrom0; have q1 := kept hS' cxFrom1; go_simp; try with_reducible rfl
    simp only [Act.put, List.setIfInBounds_toArray]
    refine wpAnyM_take (i := 2) (v := ?_) rfl (by kernel_rfl) (by kernel_rfl) (by kernel_rfl) (by kernel_rfl) (by kernel_rfl) (fun _ _ _ h => h) hS (.inl ⟨by rfl, ?_⟩) ?_
    rotate_left 1
    · intro w' hS'; have q0 := kept hS' cxTo0; have q1 := kept hS' cxTo1; go_simp; try with_reducible rfl
    simp only [Act.put]
    exact cast (by kernel_rfl) ((hG _ _ _).1 (K0 _ hS))
  case rest =>
  obtain ⟨⟨B52, B53, h0A, h0C, h1A, h1C, B52l, B52h, B53l, B53h, rfl, rfl, ch00, ch01, ch10, ch11, oh0, oh1, s54, s55, s56, s57, s58, s59, s60, s61, hb⟩, rfl, rfl⟩ := hcut
  obtain ⟨v25, rfl⟩ : ∃ u, u = wc := ⟨_, rfl⟩
  have s62 : Hid (v24.heap.size ≤ v25.heap.size) := Lib.hid hb.size
  replace cxFrom0 := kept hb cxFrom0
  replace cxFrom1 := kept hb cxFrom1
  replace cxTo0 := kept hb cxTo0
  replace cxTo1 := kept hb cxTo1
  replace cw00 := kept hb cw00
  replace cw10 := kept hb cw10
  replace cw01 := kept hb cw01
  replace cw11 := kept hb cw11
  replace cx00 := kept hb cx00
  replace cx01 := kept hb cx01
  replace cx10 := kept hb cx10
  replace cx11 := kept hb cx11
  replace cg00 := kept hb cg00
  replace cg01 := kept hb cg01
  replace cg10 := kept hb cg10
  replace cg11 := kept hb cg11
  replace ow0 := ow0.below hb
  replace ow1 := ow1.below hb
  replace ot17 := ot17.below hb
  replace ot20 := ot20.below hb
  replace og1 := og1.below hb
  replace og0 := og0.below hb
  replace hbel := hbel.trans (hb.mono hbel.size)
  clear hb
  have q63 : regEqB (trnR xFromB xFromZ xToB xToZ).1 (trnR xFromB xFromZ xToB xToZ).1 (trnR xFromB xFromZ xToB xToZ).2.1 (trnR xFromB xFromZ xToB xToZ).2.1 = true := regEqB_self _ _
  go_wp2_with fail
  refine (eqRegister_any (trnR xFromB xFromZ xToB xToZ).1 (trnR xFromB xFromZ xToB xToZ).1 h0A w0A h0C w0C (trnR xFromB xFromZ xToB xToZ).2.1 (trnR xFromB xFromZ xToB xToZ).2.1 v25 oh0.rd ow0.rd).mono ?_
  rintro e v26 ⟨rfl, hb⟩
  have s64 : Hid (v25.heap.size ≤ v26.heap.size) := Lib.hid hb.size
  replace cxFrom0 := kept hb cxFrom0
  replace cxFrom1 := kept hb cxFrom1
  replace cxTo0 := kept hb cxTo0
  replace cxTo1 := kept hb cxTo1
  replace cw00 := kept hb cw00
  replace cw10 := kept hb cw10
  replace cw01 := kept hb cw01
  replace cw11 := kept hb cw11
  replace cx00 := kept hb cx00
  replace cx01 := kept hb cx01
  replace cx10 := kept hb cx10
  replace cx11 := kept hb cx11
  replace cg00 := kept hb cg00
  replace cg01 := kept hb cg01
  replace cg10 := kept hb cg10
  replace cg11 := kept hb cg11
  replace ch00 := kept hb ch00
  replace ch10 := kept hb ch10
  replace ch01 := kept hb ch01
  replace ch11 := kept hb ch11
  replace ow0 := ow0.below hb
  replace ow1 := ow1.below hb
  replace ot17 := ot17.below hb
  replace ot20 := ot20.below hb
  replace og1 := og1.below hb
  replace og0 := og0.below hb
  replace oh0 := oh0.below hb
  replace oh1 := oh1.below hb
  replace hbel := hbel.trans (hb.mono hbel.size)
  clear hb
  have q65 : regEqB (trnR xFromB xFromZ xToB xToZ).2.2.1 (trnR xFromB xFromZ xToB xToZ).2.2.1 (trnR xFromB xFromZ xToB xToZ).2.2.2.1 (trnR xFromB xFromZ xToB xToZ).2.2.2.1 = true := regEqB_self _ _
  go_wp2_with fail
  refine (eqRegister_any (trnR xFromB xFromZ xToB xToZ).2.2.1 (trnR xFromB xFromZ xToB xToZ).2.2.1 h1A w1A h1C w1C (trnR xFromB xFromZ xToB xToZ).2.2.2.1 (trnR xFromB xFromZ xToB xToZ).2.2.2.1 v26 oh1.rd ow1.rd).mono ?_
  rintro e v27 ⟨rfl, hb⟩
  have s66 : Hid (v26.heap.size ≤ v27.heap.size) := Lib.hid hb.size
  replace cxFrom0 := kept hb cxFrom0
  replace cxFrom1 := kept hb cxFrom1
  replace cxTo0 := kept hb cxTo0
  replace cxTo1 := kept hb cxTo1
  replace cw00 := kept hb cw00
  replace cw10 := kept hb cw10
  replace cw01 := kept hb cw01
  replace cw11 := kept hb cw11
  replace cx00 := kept hb cx00
  replace cx01 := kept hb cx01
  replace cx10 := kept hb cx10
  replace cx11 := kept hb cx11
  replace cg00 := kept hb cg00
  replace cg01 := kept hb cg01
  replace cg10 := kept hb cg10
  replace cg11 := kept hb cg11
  replace ch00 := kept hb ch00
  replace ch10 := kept hb ch10
  replace ch01 := kept hb ch01
  replace ch11 := kept hb ch11
  replace ow0 := ow0.below hb
  replace ow1 := ow1.below hb
  replace ot17 := ot17.below hb
  replace ot20 := ot20.below hb
  replace og1 := og1.below hb
  replace og0 := og0.below hb
  replace oh0 := oh0.below hb
  replace oh1 := oh1.below hb
  replace hbel := hbel.trans (hb.mono hbel.size)
  clear hb
  go_wp2_with fail
  refine (heldRegister_any (trnR xFromB xFromZ xToB xToZ).1 g0A g0C 1 (trnR xFromB xFromZ xToB xToZ).2.1.length v27 og0.rd (by have := ow0.len; have := ow1.len; have := ot17.len; have := ot20.len; have := og1.len; have := og0.len; have := oh0.len; have := oh1.len; have := hxFrom.len; have := hxTo.len; omega) (by have := ow0.len; have := ow1.len; have := ot17.len; have := ot20.len; have := og1.len; have := og0.len; have := oh0.len; have := oh1.len; have := hxFrom.len; have := hxTo.len; omega)).mono ?_
  rintro e v28 ⟨rfl, hb⟩
  have s67 : Hid (v27.heap.size ≤ v28.heap.size) := Lib.hid hb.size
  replace cxFrom0 := kept hb cxFrom0
  replace cxFrom1 := kept hb cxFrom1
  replace cxTo0 := kept hb cxTo0
  replace cxTo1 := kept hb cxTo1
  replace cw00 := kept hb cw00
  replace cw10 := kept hb cw10
  replace cw01 := kept hb cw01
  replace cw11 := kept hb cw11
  replace cx00 := kept hb cx00
  replace cx01 := kept hb cx01
  replace cx10 := kept hb cx10
  replace cx11 := kept hb cx11
  replace cg00 := kept hb cg00
  replace cg01 := kept hb cg01
  replace cg10 := kept hb cg10
  replace cg11 := kept hb cg11
  replace ch00 := kept hb ch00
  replace ch10 := kept hb ch10
  replace ch01 := kept hb ch01
  replace ch11 := kept hb ch11
  replace ow0 := ow0.below hb
  replace ow1 := ow1.below hb
  replace ot17 := ot17.below hb
  replace ot20 := ot20.below hb
  replace og1 := og1.below hb
  replace og0 := og0.below hb
  replace oh0 := oh0.below hb
  replace oh1 := oh1.below hb
  replace hbel := hbel.trans (hb.mono hbel.size)
  clear hb
  go_wp2_with fail
  refine (heldRegister_any (trnR xFromB xFromZ xToB xToZ).2.2.1 g1A g1C (1 + ((trnR xFromB xFromZ xToB xToZ).2.1.length : Int)) (trnR xFromB xFromZ xToB xToZ).2.2.2.1.length v28 og1.rd (by have := ow0.len; have := ow1.len; have := ot17.len; have := ot20.len; have := og1.len; have := og0.len; have := oh0.len; have := oh1.len; have := hxFrom.len; have := hxTo.len; omega) (by have := ow0.len; have := ow1.len; have := ot17.len; have := ot20.len; have := og1.len; have := og0.len; have := oh0.len; have := oh1.len; have := hxFrom.len; have := hxTo.len; omega)).mono ?_
  rintro e v29 ⟨rfl, hb⟩
  have s68 : Hid (v28.heap.size ≤ v29.heap.size) := Lib.hid hb.size
  replace cxFrom0 := kept hb cxFrom0
  replace cxFrom1 := kept hb cxFrom1
  replace cxTo0 := kept hb cxTo0
  replace cxTo1 := kept hb cxTo1
  replace cw00 := kept hb cw00
  replace cw10 := kept hb cw10
  replace cw01 := kept hb cw01
  replace cw11 := kept hb cw11
  replace cx00 := kept hb cx00
  replace cx01 := kept hb cx01
  replace cx10 := kept hb cx10
  replace cx11 := kept hb cx11
  replace cg00 := kept hb cg00
  replace cg01 := kept hb cg01
  replace cg10 := kept hb cg10
  replace cg11 := kept hb cg11
  replace ch00 := kept hb ch00
  replace ch10 := kept hb ch10
  replace ch01 := kept hb ch01
  replace ch11 := kept hb ch11
  replace ow0 := ow0.below hb
  replace ow1 := ow1.below hb
  replace ot17 := ot17.below hb
  replace ot20 := ot20.below hb
  replace og1 := og1.below hb
  replace og0 := og0.below hb
  replace oh0 := oh0.below hb
  replace oh1 := oh1.below hb
  replace hbel := hbel.trans (hb.mono hbel.size)
  clear hb
  go_wp2
  go_ret
  exact ⟨rfl, hbel⟩

/-- The door's own heap meets the condition: closed facts. -/
theorem door_met (os : Os) (args : Array Value) : laidMetH Tryd.prog Rows.fnExactTransferToRow.laid ((World.laidAll Tryd.prog os Rows.fnExactTransferToRow.laid).forCall (fun _ _ => 0) ⟨#[], args, []⟩).memory :=
  by rw [MakeChecks.laidMetH_plain _ _ _ (by kernel_rfl)]; exact laidMet_laidAll _ (by kernel_rfl) (by kernel_rfl)

set_option maxRecDepth 100000 in
theorem lifted (os : Os) (started : os.Started) (H : Type) (enc : TypeId × Value → H) :
    ReturnsInHanded {} Tryd.checked os 15 .any (fun w args => (Rows.fnExactTransferToSpec.pre enc Tryd.prog Tryd.f15 [] false w args ∧ laidMetH Tryd.prog Rows.fnExactTransferToRow.laid w) ∧ sizedMet enc Tryd.prog Tryd.f15 (OpenSpec.ofChange Rows.fnExactTransferToSpec) false w args)
      (Rows.fnExactTransferToSpec.post enc Tryd.prog Tryd.f15 false true false false) := by
  refine returnsInHanded_of_change_and (C := Tryd.checked) (X := fun w _ => laidMetH Tryd.prog Rows.fnExactTransferToRow.laid w) (fun _ _ _ hh h => h.of_heap hh) own_knob started (by kernel_rfl) Tryd.func15
    (ChangeSpec.witness_shaped (enc := enc) (C := Tryd.checked) (os := os) (X := fun w _ => laidMetH Tryd.prog Rows.fnExactTransferToRow.laid w) false (World.laidAll Tryd.prog os Rows.fnExactTransferToRow.laid) #[.agg #[.int .i64 0, .slice none 0 0], .agg #[.int .i64 0, .slice none 0 0]] 8 (World.laidAll_os _ _ _) (World.shaped_of_ZipB (by kernel_rfl) (by kernel_rfl)) (by kernel_rfl) (by kernel_rfl) (by kernel_rfl) (door_met os _)) ?_
  intro W base args ds gs before hval0 hW _ _ hL _
  have hval : ∀ (j : Nat) t v, Tryd.f15.params[j]? = some t → args[j]? = some v → Value.okWide Tryd.prog W .any base t v := hval0
  have hW' := hW
  obtain ⟨p, q, hA0, hV0, rfl, hfz, hnd⟩ := hW
  have hA : DataW.TrodAll enc Tryd.prog W 0 (fun _ => true) true Tryd.f15.params.toList args.toList ds p := hA0
  have hV : DataW.TrodVars enc Tryd.prog W (fun _ => true) ["loop.example/g00930/impl.errBell"] gs q := hV0
  rw [Tryd.params15] at hA hval
  obtain ⟨v0, vs0, d0, ds0, p0, q0, hargs, rfl, rfl, h0, r0⟩ := trodAll_cons hA
  obtain ⟨v1, vs1, d1, ds1, p1, q1, rfl, rfl, rfl, h1, r1⟩ := trodAll_cons r0
  obtain ⟨rfl, rfl, rfl⟩ := trodAll_nil r1
  obtain rfl : args = #[v0, v1] := by cases args; simp_all
  have k0 := h0
  have lt0 : ∀ x ∈ p0, x.block < W.heap.size := by obtain ⟨m, hm⟩ := k0; exact DataW.trod_lt m _ _ _ hm
  obtain ⟨xFromB, xFromA, xFromC, xFromZ, rfl, hxFrom, bxFrom⟩ := open_Register (hval 0 70 v0 rfl rfl) h0
  have k1 := h1
  have lt1 : ∀ x ∈ p1, x.block < W.heap.size := by obtain ⟨m, hm⟩ := k1; exact DataW.trod_lt m _ _ _ hm
  obtain ⟨xToB, xToA, xToC, xToZ, rfl, hxTo, bxTo⟩ := open_Register (hval 1 70 v1 rfl rfl) h1
  have hD := of_laid hL
  clear hA0 hval0
  obtain ⟨gd, rfl⟩ : ∃ gd, gs = [gd] := by
    obtain ⟨_, _, _, _, d, _, h, _⟩ := trodVars_one hV
    exact ⟨d, h⟩
  refine (law_walk xFromB xFromA xFromC xFromZ xToB xToA xToC xToZ W hxFrom bxFrom hxTo bxTo hD).mono fun e W' ⟨he, bel⟩ => ?_
  subst he
  obtain ⟨q', hq'⟩ := var_stays gVar tVar (by kernel_rfl) (of_decide_eq_true (by kernel_rfl)) hV bel
  exact ⟨_, rfl, _, _, _, [], _, q', hW', trodAll_mk1 (shut_bool Tryd.underlying4 _), (trodAll_cons_mk (Below.trod laid_out (by kernel_rfl) (of_decide_eq_true (by kernel_rfl)) k0 bel lt0) (trodAll_cons_mk (Below.trod laid_out (by kernel_rfl) (of_decide_eq_true (by kernel_rfl)) k1 bel lt1) trodAll_mk0)), hq', bel.frame _, fun h => by cases h⟩

set_option maxHeartbeats 20000000 in
theorem closed : joinedFacts Tryd.prog 15 Tryd.f15 Rows.fnExactTransferToSpec Rows.fnExactTransferToRow = true := by
  simp only [joinedFacts, Bool.and_eq_true]
  refine ⟨⟨⟨⟨⟨⟨⟨⟨⟨⟨⟨⟨⟨⟨⟨⟨⟨⟨⟨⟨⟨⟨⟨⟨⟨⟨⟨⟨⟨⟨⟨?_, laid_out⟩, fact_maps⟩, ?_⟩, ?_⟩, ?_⟩, fact_stops⟩, ?_⟩, fact_knobs⟩, ?_⟩, ?_⟩, ?_⟩, ?_⟩, ?_⟩, ?_⟩, ?_⟩, ?_⟩, ?_⟩, ?_⟩, ?_⟩, ?_⟩, ?_⟩, fact_plain⟩, ?_⟩, fact_heard⟩, fact_enter⟩, fact_lift⟩, ?_⟩, ?_⟩, ?_⟩, ?_⟩, ?_⟩
  all_goals (as_aux_lemma => kernel_rfl)

theorem over : Rows.FnExactTransferToSaid :=
  OpenClaim.holds_of_wide 15 Tryd.f15 rfl rfl rfl rfl rfl rfl rfl ⟨rfl, rfl, rfl, rfl, rfl⟩ rfl rfl rfl rfl rfl (by as_aux_lemma => kernel_rfl) Tryd.func15 closed
    (of_decide_eq_true (by as_aux_lemma => kernel_rfl)) (by unfold Func.isWrapper; first | (rw [if_pos (by decide +kernel)]; kernel_rfl) | (rw [if_neg (by decide +kernel)]; exact ⟨rfl, rfl⟩))
    (fun os started H enc _ => lifted os started H enc)

set_option maxHeartbeats 20000000 in
/-- The statement: the tied card. -/
theorem proved : Rows.FnExactTransferToCardSaid :=
  Claim7.holds_tied_plain_at .later [] [.sentinel] true (true, "ec655d68bd83ee750dda8ab1bd41c2789a9eb6bdf7c44e01156a152df2f96c04") true
    over (fun _ h => by cases h) (by as_aux_lemma => kernel_rfl) (fun _ h => by cases h) fnExactTransferTo_row_tie rfl ⟨rfl, rfl⟩ (by as_aux_lemma => kernel_rfl) rfl
    (fun f fn hf hfn => by
      obtain rfl : f = 15 := Option.some.inj ((show Tryd.prog.funcNamed "loop.example/g00930/laws.FnExactTransferTo" = some 15 by as_aux_lemma => kernel_rfl).symm.trans hf) |>.symm
      obtain rfl : fn = Tryd.f15 := (Option.some.inj (Tryd.func15.symm.trans hfn)).symm
      exact ⟨(by as_aux_lemma => kernel_rfl), fun j t ht => by
        rw [Tryd.params15] at ht
        have hm : t ∈ [70, 70] := by simpa using Array.mem_of_getElem? ht
        have hall : ([70, 70].all fun u => !Tryd.prog.wantsStandIn u) = true := by as_aux_lemma => kernel_rfl
        exact (show Tryd.prog.wantsStandIn t = false by simpa using List.all_eq_true.1 hall t hm)⟩)
    (by as_aux_lemma => kernel_rfl)
end Go.Proofs.YtlahobdopmdfmaaDoor.lawTransferTo
