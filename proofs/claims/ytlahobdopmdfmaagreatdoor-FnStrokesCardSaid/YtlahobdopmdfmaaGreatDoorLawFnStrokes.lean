/-
  laws.FnStrokes returns true at every input (no condition, but the texts of the library's tables, which the card ties), and leaves its arguments as they were.
-/
import Derived.Test.YtlahobdopmdfmaaGreatDoorStkQ3
import Derived.Test.YtlahobdopmdfmaaGreatDoorStkQ4
import Derived.Test.YtlahobdopmdfmaaGreatDoorShapeD
import Derived.Test.YtlahobdopmdfmaaGreatDoorDoorFrame
import Derived.Test.YtlahobdopmdfmaaGreatDoorFacts
import Derived.Test.YtlahobdopmdfmaaGreatDoorRows
import Derived.Lay
import Derived.OpenVars
import Derived.OpenShut
namespace Go.Proofs.YtlahobdopmdfmaaGreatDoor.lawFnStrokes
open Go.ChangeShapes Go.WideShapes Go.ChangeAt Go.WideElems Go.RowKit Go.Joins
open Go.ChangeMaps (open_string shut_string)
open Go.BigFrame
theorem gVar : Tryz.prog.globalNamed "loop.example/g00930/impl.strokeNames" = some 0 := by kernel_rfl
theorem tVar : (Tryz.prog.globals[0]?).map (·.type) = some 65 := by kernel_rfl

theorem rowErr (u : TypeId) (h : Tryz.prog.typeName? 3 u = some "*errors.errorString") : u = 187 :=
  typeName_ptr_named (nm := "errors.errorString") (by rw [show "*" ++ "errors.errorString" = "*errors.errorString" by decide]; kernel_rfl) (by kernel_rfl) (by decide) u (by rw [show "*" ++ "errors.errorString" = "*errors.errorString" by decide]; exact h)
structure Door (w : World) : Prop where
  rm : RmDoor w
  names : StrokeNames w
theorem door_below {w w' : World} (h : Door w) (hb : Below w.heap.size w w') : Door w' := ⟨h.rm.below hb, strokeNames_below h.names hb⟩
theorem of_laid {W : World} (h : laidMetH Tryz.prog Rows.fnStrokesRow.laid W) (hSh : W.ShapedOpen Tryz.prog) : Door W := by
  rw [MakeChecks.laidMetH_plain _ _ _ (by kernel_rfl)] at h
  have h2 := h.tail.tail
  refine ⟨?_, ?_⟩
  rotate_left
  · obtain ⟨ps, ⟨g0, t0, cs0, f0, p0, q0, hg0, ht0, hv0, hd0, _⟩, _, _⟩ := h2.tail.tail.tail.tail.tail
    obtain rfl := Option.some.inj (gVar.symm.trans hg0)
    obtain rfl := Option.some.inj (tVar.symm.trans ht0)
    have at_ : ∀ (i : Nat) (b : List UInt8), i < 7 → (match (Rows.laid_loop_example_g00930_impl_strokeNames : DataW Unit) with | .agg ds => ds[i]? | _ => none) = some (.lit (.string b)) → W.cell? ⟨0, i, none⟩ = some (.string ⟨b.toArray⟩) := by
      intro i b hi hb
      have := strs_of Tryz.underlying65 Tryz.underlying9 (by kernel_rfl) (show DataW.trod _ Tryz.prog W 0 _ _ f0 65 cs0.toList = some (.agg _, p0) from hd0) hi hb
      rw [World.var?_cell hg0 hv0 i]
      simpa using this
    exact ⟨at_ 1 _ (by omega) rfl, at_ 2 _ (by omega) rfl, at_ 3 _ (by omega) rfl, at_ 4 _ (by omega) rfl, at_ 5 _ (by omega) rfl, at_ 6 _ (by omega) rfl⟩
  refine ⟨⟨?_, cell_of_shapedOpen_int (P := Tryz.prog) (g := 1) (t := 3) (zero := #[.int .i64 0]) hSh (of_decide_eq_true (by kernel_rfl)) (by kernel_rfl) rfl (by kernel_rfl) (by kernel_rfl) Tryz.underlying3⟩, ?_⟩
  rotate_left
  · obtain ⟨a, t, hv, _⟩ := laid_sentinel h2.tail.tail.tail.tail (g := 4) (ti := 85) (tp := 187) (te := 189) (ts := 9) (by kernel_rfl) (by kernel_rfl) Tryz.underlying85 rowErr Tryz.underlying187 Tryz.underlying189 rfl rfl Tryz.underlying9 (by kernel_rfl) (by kernel_rfl)
    exact ⟨_, by simpa [BellAt, bellV] using World.var?_cell (g := 4) (by kernel_rfl) hv 0⟩
  refine ⟨Lib.tabIs_of_head (g := 5) (t := 177) (e := 77) (n := 20) (by kernel_rfl) (by kernel_rfl) Tryz.underlying177 Tryz.underlying77 (by kernel_rfl) (by kernel_rfl)
    (show laidMet Tryz.prog (("internal/strconv.uint64pow10", Lib.tabData .u64 Lib.pow10Tab) :: _) W from h2), ?_, ?_⟩
  · obtain ⟨a, t, hv, _⟩ := laid_sentinel h2.tail.tail.tail (g := 2) (ti := 85) (tp := 187) (te := 189) (ts := 9) (by kernel_rfl) (by kernel_rfl) Tryz.underlying85 rowErr Tryz.underlying187 Tryz.underlying189 rfl rfl Tryz.underlying9 (by kernel_rfl) (by kernel_rfl)
    exact ⟨_, by simpa using World.var?_cell (g := 2) (by kernel_rfl) hv 0, _, _, rfl⟩
  · obtain ⟨a, t, hv, _⟩ := laid_sentinel h2.tail.tail (g := 3) (ti := 85) (tp := 187) (te := 189) (ts := 9) (by kernel_rfl) (by kernel_rfl) Tryz.underlying85 rowErr Tryz.underlying187 Tryz.underlying189 rfl rfl Tryz.underlying9 (by kernel_rfl) (by kernel_rfl)
    exact ⟨_, by simpa using World.var?_cell (g := 3) (by kernel_rfl) hv 0, _, _, rfl⟩

theorem doStroke_at (m : Mac) (A1 : Option Addr) (C1 : Nat) (A2 : Option Addr) (C2 : Nat) (A3 : Option Addr) (C3 : Nat) (k : Int) (w : World) (h : Rd3 w A1 m.z1 A2 m.z2 A3 m.z3) (z : All64 m.z1 ∧ All64 m.z2 ∧ All64 m.z3) (y : I64 m.b1 ∧ I64 m.b2 ∧ I64 m.b3 ∧ I64 m.p) (hk : I64 k) (hD : BellD w) {x : Mac} {b : Bool} {c : Int} (hd : dsR m k = (x, b, c)) :
    Calls Tryz.prog 8 #[.agg #[.int .i64 m.b1, .slice A1 m.z1.length C1, .int .i64 m.b2, .slice A2 m.z2.length C2, .int .i64 m.b3, .slice A3 m.z3.length C3, .int .i64 m.p], .int .i64 k] w fun e w' => ∃ (A1 : Option Addr) (C1 : Nat) (A2 : Option Addr) (C2 : Nat) (A3 : Option Addr) (C3 : Nat),
      e = .returned (.tuple #[.agg #[.int .i64 x.b1, .slice A1 x.z1.length C1, .int .i64 x.b2, .slice A2 x.z2.length C2, .int .i64 x.b3, .slice A3 x.z3.length C3, .int .i64 x.p], .bool b, .int .i64 c]) ∧ Own3 2 w' w.heap.size w'.heap.size (.slice A1 x.z1.length C1) x.z1 (.slice A2 x.z2.length C2) x.z2 (.slice A3 x.z3.length C3) x.z3 ∧ Below w.heap.size w w' := by
  have := implDoStroke m A1 C1 A2 C2 A3 C3 k w h z y hk hD
  rw [hd] at this
  exact this
theorem readMachine_at (s : ByteArray) (w : World) (hs : s.size ≤ 1048576) (hD : RmDoor w) {x : Mac} {b : Bool} (hd : rmR s = (x, b)) :
    Calls Tryz.prog 10 #[.string s] w fun e w' => ∃ (A1 : Option Addr) (C1 : Nat) (A2 : Option Addr) (C2 : Nat) (A3 : Option Addr) (C3 : Nat),
      e = .returned (.tuple #[.agg #[.int .i64 x.b1, .slice A1 x.z1.length C1, .int .i64 x.b2, .slice A2 x.z2.length C2, .int .i64 x.b3, .slice A3 x.z3.length C3, .int .i64 x.p], .bool b]) ∧ Own3 2 w' w.heap.size w'.heap.size (.slice A1 x.z1.length C1) x.z1 (.slice A2 x.z2.length C2) x.z2 (.slice A3 x.z3.length C3) x.z3 ∧ Below w.heap.size w w' := by
  have := implReadMachine s w hs hD
  rw [hd] at this
  exact this
theorem strokeBack_at (k : Int) (w : World) (hk : I64 k) {k' c : Int} (hd : sbR k = (k', c)) :
    Calls Tryz.prog 9 #[.int .i64 k] w fun e w' => e = .returned (.tuple #[.int .i64 k', .int .i64 c]) ∧ Below w.heap.size w w' := by
  have := implStrokeBack k w hk
  rw [hd] at this
  exact this
theorem placesOf_at (m : Mac) (A1 : Option Addr) (C1 : Nat) (A2 : Option Addr) (C2 : Nat) (A3 : Option Addr) (C3 : Nat) (w : World) (h : Rd3 w A1 m.z1 A2 m.z2 A3 m.z3) (z : All64 m.z1 ∧ All64 m.z2 ∧ All64 m.z3) (y : I64 m.b1 ∧ I64 m.b2 ∧ I64 m.b3 ∧ I64 m.p) (hD : BellD w) (hm : macB m = true) :
    Calls Tryz.prog 15 #[.agg #[.int .i64 m.b1, .slice A1 m.z1.length C1, .int .i64 m.b2, .slice A2 m.z2.length C2, .int .i64 m.b3, .slice A3 m.z3.length C3, .int .i64 m.p]] w fun e w' => e = .returned (.tuple #[.int .i64 (plcs m), .int .i64 0]) ∧ Below w.heap.size w w' := by
  have := implPlacesOf m A1 C1 A2 C2 A3 C3 w h z y hD
  rw [show plR m = (plcs m, 0) by unfold plR; rw [if_pos hm]] at this
  exact this

set_option maxRecDepth 100000 in
set_option maxHeartbeats 8000000 in
theorem law_walk (xA : Option Addr) (xC : Nat) (xZ : List Int) (yA : Option Addr) (yC : Nat) (yZ : List Int) (w : World) (hx : RawU w xA xZ) (hy : RawU w yA yZ) (hD : Door w) :
    Calls Tryz.prog 3 #[.slice xA xZ.length xC, .slice yA yZ.length yC] w fun e w' => e = .returned (.bool true) ∧ Below w.heap.size w w' := by
  have hbel : Below w.heap.size w w := Below.refl _ _
  go_enter Tryz.func3, Tryz.ntmps3
  go_wp2_with fail
  refine (a2Long_any xA yA xZ.length yZ.length xC yC w).mono ?_
  rintro e w1 ⟨rfl, hq⟩
  subst w1
  by_cases hl : 3000 < xZ.length ∨ 3000 < yZ.length
  · rw [decide_eq_true hl]
    clear hl
    go_wp2
    go_ret
    exact ⟨rfl, hbel⟩
  rw [decide_eq_false hl]
  replace hx := hx.rd (by omega)
  replace hy := hy.rd (by omega)
  clear hl
  go_wp2_with fail
  refine (a2Machine_any xA xZ xC w hx).mono ?_
  rintro e w1 ⟨m, A1, C1, A2, C2, A3, C3, rfl, dm, ow, hb⟩
  have rm := ow.rd
  clear hx ow
  replace hD : Door w1 := door_below hD hb
  replace hy := hy.below hb
  replace hbel := hbel.trans (hb.mono hbel.size)
  clear hb
  have hm := dm.ok
  have hmw := mac_wf hm
  have hp1 := (drawn_plcs dm).1
  have hpl : m.p < plcs m := by have := (macB_spec hm).2.2.2.2.2.2.2.2.2; omega
  have hp0 : 0 ≤ m.p := (macB_spec hm).2.2.2.2.2.2.2.2.1
  have HT := Lib.hid (rmR_back hm)
  have HTS := Lib.hid (mtV_size hm)
  clear dm
  go_upto_region 4 with fail
  obtain ⟨gm, hgm⟩ : ∃ g, g = w1.heap.size := ⟨_, rfl⟩
  obtain ⟨v1, hV⟩ : ∃ V, V = w1.alloc (.cells #[.int .i64 m.b1, .slice A1 m.z1.length C1, .int .i64 m.b2, .slice A2 m.z2.length C2, .int .i64 m.b3, .slice A3 m.z3.length C3, .int .i64 m.p] 28) := ⟨_, rfl⟩
  try rw [← hgm, ← hV]
  have bm : Bx v1 gm 28 #[.int .i64 m.b1, .slice A1 m.z1.length C1, .int .i64 m.b2, .slice A2 m.z2.length C2, .int .i64 m.b3, .slice A3 m.z3.length C3, .int .i64 m.p] := by rw [hV, hgm]; exact Bx.new _ _ _
  have hb : Below w1.heap.size w1 v1 := by rw [hV]; exact (Below.refl _ _).alloc (Nat.le_refl _) _
  replace hD : Door v1 := door_below hD hb
  replace hy := hy.below hb
  replace rm := rm.below hb
  replace hbel := hbel.trans (hb.mono hbel.size)
  clear hb hV hgm
  go_wp2_with fail
  refine (a2At_any yA yZ yC 0 4 v1 hy (by omega) (by omega) (by omega)).mono ?_
  rintro e w2 ⟨z, rfl, z0, z1, hb⟩
  replace hD := door_below hD hb
  replace rm := rm.below hb
  replace bm := bm.below hb
  replace hbel := hbel.trans (hb.mono hbel.size)
  clear hb
  obtain ⟨k, hk⟩ : ∃ k, k = 1 + z := ⟨_, rfl⟩
  have v1 : IntKind.i64.wrap (1 + z) = k := (fits_int _ (by omega) (by omega)).trans hk.symm
  have hk1 : 1 ≤ k := by omega
  have hk4 : k ≤ 4 := by omega
  have ik : I64 k := i64_at (by omega) (by omega)
  clear hk hy z0 z1
  obtain ⟨k', hs1, hs2, hk1', hk4', hback⟩ := stroke_back hm hk1 hk4
  have ik' : I64 k' := i64_at (by omega) (by omega)
  obtain ⟨x, hX⟩ : ∃ x, x = (doM m k).1 := ⟨_, rfl⟩
  obtain ⟨bl, hB⟩ : ∃ b, b = (doM m k).2 := ⟨_, rfl⟩
  have hds : dsR m k = (x, bl, 0) := by rw [dsR, if_pos hm, if_pos ⟨hk1, by omega⟩, hX, hB]
  have hmx : macB x = true := by rw [hX]; exact doM_ok hm k
  rw [← hX, ← hB] at hback
  clear hX hB
  obtain ⟨y, hY⟩ : ∃ y, y = (doM x k').1 := ⟨_, rfl⟩
  obtain ⟨bq, hBq⟩ : ∃ b, b = (doM x k').2 := ⟨_, rfl⟩
  have hds2 : dsR x k' = (y, bq, 0) := by rw [dsR, if_pos hmx, if_pos ⟨hk1', by omega⟩, hY, hBq]
  have hmy : macB y = true := by rw [hY]; exact doM_ok hmx k'
  rw [← hY] at hback
  clear hY hBq
  have hxw := mac_wf hmx
  have hyw := mac_wf hmy
  have HBK := Lib.hid hback
  have HSN := Lib.hid (snV_some hk1 hk4)
  have HPC := Lib.hid hm
  clear hback
  have d0 := bm.at_ 0 rfl
  have d1 := bm.at_ 1 rfl
  have d2 := bm.at_ 2 rfl
  have d3 := bm.at_ 3 rfl
  have d4 := bm.at_ 4 rfl
  have d5 := bm.at_ 5 rfl
  have d6 := bm.at_ 6 rfl
  go_wp2_with fail
  refine (doStroke_at m A1 C1 A2 C2 A3 C3 k w2 rm hmw.1 hmw.2 ik hD.rm.bell hds).mono ?_
  rintro e w3 ⟨D1, E1, D2, E2, D3, E3, rfl, ow, hb⟩
  clear d0 d1 d2 d3 d4 d5 d6
  replace hD := door_below hD hb
  replace rm := rm.below hb
  replace bm := bm.below hb
  replace hbel := hbel.trans (hb.mono hbel.size)
  clear hb
  have rx := ow.rd
  clear ow
  go_upto_region 6 with fail
  obtain ⟨gx, hgx⟩ : ∃ g, g = w3.heap.size := ⟨_, rfl⟩
  obtain ⟨v3, hV⟩ : ∃ V, V = w3.alloc (.cells #[.int .i64 x.b1, .slice D1 x.z1.length E1, .int .i64 x.b2, .slice D2 x.z2.length E2, .int .i64 x.b3, .slice D3 x.z3.length E3, .int .i64 x.p] 28) := ⟨_, rfl⟩
  try rw [← hgx, ← hV]
  have bx : Bx v3 gx 28 #[.int .i64 x.b1, .slice D1 x.z1.length E1, .int .i64 x.b2, .slice D2 x.z2.length E2, .int .i64 x.b3, .slice D3 x.z3.length E3, .int .i64 x.p] := by rw [hV, hgx]; exact Bx.new _ _ _
  have hb : Below w3.heap.size w3 v3 := by rw [hV]; exact (Below.refl _ _).alloc (Nat.le_refl _) _
  replace rx := rx.below hb
  replace hD := door_below hD hb
  replace rm := rm.below hb
  replace bm := bm.below hb
  replace hbel := hbel.trans (hb.mono hbel.size)
  clear hb
  clear hV hgx
  go_wp2_with fail
  refine (strokeBack_at k v3 ik hs1).mono ?_
  rintro e w4 ⟨rfl, hb⟩
  replace hD := door_below hD hb
  replace rm := rm.below hb
  replace bm := bm.below hb
  replace rx := rx.below hb
  replace bx := bx.below hb
  replace hbel := hbel.trans (hb.mono hbel.size)
  clear hb
  have c0 := bm.at_ 0 rfl
  have c1 := bm.at_ 1 rfl
  have c2 := bm.at_ 2 rfl
  have c3 := bm.at_ 3 rfl
  have c4 := bm.at_ 4 rfl
  have c5 := bm.at_ 5 rfl
  have c6 := bm.at_ 6 rfl
  go_wp2_with fail
  refine (implMachineText m A1 C1 A2 C2 A3 C3 w4 rm hmw.1 hmw.2 ⟨hD.rm.rg.rd.1, hD.rm.bell⟩).mono ?_
  rintro e w5 ⟨rfl, hb⟩
  clear c0 c1 c2 c3 c4 c5 c6
  replace hD := door_below hD hb
  replace rm := rm.below hb
  replace bm := bm.below hb
  replace rx := rx.below hb
  replace bx := bx.below hb
  replace hbel := hbel.trans (hb.mono hbel.size)
  clear hb
  go_wp2_with fail
  refine (readMachine_at (mtV m) w5 HTS.out hD.rm HT.out).mono ?_
  rintro e w6 ⟨F1, G1, F2, G2, F3, G3, rfl, ow, hb⟩
  replace hD := door_below hD hb
  replace rm := rm.below hb
  replace bm := bm.below hb
  replace rx := rx.below hb
  replace bx := bx.below hb
  replace hbel := hbel.trans (hb.mono hbel.size)
  clear hb
  have rr := ow.rd
  clear ow
  go_upto_region 8 with fail
  obtain ⟨gr, hgr⟩ : ∃ g, g = w6.heap.size := ⟨_, rfl⟩
  obtain ⟨v6, hV⟩ : ∃ V, V = w6.alloc (.cells #[.int .i64 m.b1, .slice F1 m.z1.length G1, .int .i64 m.b2, .slice F2 m.z2.length G2, .int .i64 m.b3, .slice F3 m.z3.length G3, .int .i64 m.p] 28) := ⟨_, rfl⟩
  try rw [← hgr, ← hV]
  have bq2 : Bx v6 gr 28 #[.int .i64 m.b1, .slice F1 m.z1.length G1, .int .i64 m.b2, .slice F2 m.z2.length G2, .int .i64 m.b3, .slice F3 m.z3.length G3, .int .i64 m.p] := by rw [hV, hgr]; exact Bx.new _ _ _
  have hb : Below w6.heap.size w6 v6 := by rw [hV]; exact (Below.refl _ _).alloc (Nat.le_refl _) _
  replace rr := rr.below hb
  replace hD := door_below hD hb
  replace rm := rm.below hb
  replace bm := bm.below hb
  replace rx := rx.below hb
  replace bx := bx.below hb
  replace hbel := hbel.trans (hb.mono hbel.size)
  clear hb
  clear hV hgr
  have c0 := bx.at_ 0 rfl
  have c1 := bx.at_ 1 rfl
  have c2 := bx.at_ 2 rfl
  have c3 := bx.at_ 3 rfl
  have c4 := bx.at_ 4 rfl
  have c5 := bx.at_ 5 rfl
  have c6 := bx.at_ 6 rfl
  go_wp2_with fail
  refine (specValidMachine x D1 E1 D2 E2 D3 E3 v6 rx hxw.1 hxw.2).mono ?_
  rw [hmx]
  rintro e w7 ⟨rfl, hb⟩
  clear c0 c1 c2 c3 c4 c5 c6
  replace hD := door_below hD hb
  replace rm := rm.below hb
  replace bm := bm.below hb
  replace rx := rx.below hb
  replace bx := bx.below hb
  replace rr := rr.below hb
  replace bq2 := bq2.below hb
  replace hbel := hbel.trans (hb.mono hbel.size)
  clear hb
  have c0 := bq2.at_ 0 rfl
  have c1 := bq2.at_ 1 rfl
  have c2 := bq2.at_ 2 rfl
  have c3 := bq2.at_ 3 rfl
  have c4 := bq2.at_ 4 rfl
  have c5 := bq2.at_ 5 rfl
  have c6 := bq2.at_ 6 rfl
  have d0 := bm.at_ 0 rfl
  have d1 := bm.at_ 1 rfl
  have d2 := bm.at_ 2 rfl
  have d3 := bm.at_ 3 rfl
  have d4 := bm.at_ 4 rfl
  have d5 := bm.at_ 5 rfl
  have d6 := bm.at_ 6 rfl
  go_wp2_with fail
  refine (specSameMachine m F1 G1 F2 G2 F3 G3 m A1 C1 A2 C2 A3 C3 w7 rr hmw.1 hmw.2 rm hmw.1 hmw.2).mono ?_
  rw [macEqB_self]
  rintro e w8 ⟨rfl, hb⟩
  clear c0 c1 c2 c3 c4 c5 c6 d0 d1 d2 d3 d4 d5 d6
  replace hD := door_below hD hb
  replace rm := rm.below hb
  replace bm := bm.below hb
  replace rx := rx.below hb
  replace bx := bx.below hb
  replace rr := rr.below hb
  replace bq2 := bq2.below hb
  replace hbel := hbel.trans (hb.mono hbel.size)
  clear hb
  go_wp2_with fail
  refine (implStrokeName k w8 ik hD.names).mono ?_
  obtain ⟨sn, hsn⟩ : ∃ s, s = snV k := ⟨_, rfl⟩
  have hse : sn.toList.isEmpty = false := by rw [hsn]; exact HSN.out
  rw [← hsn]
  clear hsn
  rintro e w9 ⟨rfl, hb⟩
  clear rr bq2
  replace hD := door_below hD hb
  replace rm := rm.below hb
  replace bm := bm.below hb
  replace rx := rx.below hb
  replace bx := bx.below hb
  replace hbel := hbel.trans (hb.mono hbel.size)
  clear hb
  go_wp2_with fail
  refine (strokeBack_at k' w9 ik' hs2).mono ?_
  rintro e w10 ⟨rfl, hb⟩
  replace hD := door_below hD hb
  replace rm := rm.below hb
  replace bm := bm.below hb
  replace rx := rx.below hb
  replace bx := bx.below hb
  replace hbel := hbel.trans (hb.mono hbel.size)
  clear hb
  have d0 := bm.at_ 0 rfl
  have d1 := bm.at_ 1 rfl
  have d2 := bm.at_ 2 rfl
  have d3 := bm.at_ 3 rfl
  have d4 := bm.at_ 4 rfl
  have d5 := bm.at_ 5 rfl
  have d6 := bm.at_ 6 rfl
  go_wp2_with fail
  refine (placesOf_at m A1 C1 A2 C2 A3 C3 w10 rm hmw.1 hmw.2 hD.rm.bell HPC.out).mono ?_
  rintro e w11 ⟨rfl, hb⟩
  clear d0 d1 d2 d3 d4 d5 d6
  replace hD := door_below hD hb
  replace rm := rm.below hb
  replace bm := bm.below hb
  replace rx := rx.below hb
  replace bx := bx.below hb
  replace hbel := hbel.trans (hb.mono hbel.size)
  clear hb
  have hq1 : ¬ plcs m < 1 := by omega
  have hq2 : ¬ plcs m ≤ m.p := by omega
  have d6 := bm.at_ 6 rfl
  have c0 := bx.at_ 0 rfl
  have c1 := bx.at_ 1 rfl
  have c2 := bx.at_ 2 rfl
  have c3 := bx.at_ 3 rfl
  have c4 := bx.at_ 4 rfl
  have c5 := bx.at_ 5 rfl
  have c6 := bx.at_ 6 rfl
  go_wp2_with fail
  refine (doStroke_at x D1 E1 D2 E2 D3 E3 k' w11 rx hxw.1 hxw.2 ik' hD.rm.bell hds2).mono ?_
  rintro e w12 ⟨H1, I1, H2, I2, H3, I3, rfl, ow, hb⟩
  clear c0 c1 c2 c3 c4 c5 c6 d6
  replace hD := door_below hD hb
  replace rm := rm.below hb
  replace bm := bm.below hb
  replace rx := rx.below hb
  replace bx := bx.below hb
  replace hbel := hbel.trans (hb.mono hbel.size)
  clear hb
  have ry := ow.rd
  clear ow
  go_upto_region 15 with fail
  obtain ⟨gy, hgy⟩ : ∃ g, g = w12.heap.size := ⟨_, rfl⟩
  obtain ⟨v12, hV⟩ : ∃ V, V = w12.alloc (.cells #[.int .i64 y.b1, .slice H1 y.z1.length I1, .int .i64 y.b2, .slice H2 y.z2.length I2, .int .i64 y.b3, .slice H3 y.z3.length I3, .int .i64 y.p] 28) := ⟨_, rfl⟩
  try rw [← hgy, ← hV]
  have b_y : Bx v12 gy 28 #[.int .i64 y.b1, .slice H1 y.z1.length I1, .int .i64 y.b2, .slice H2 y.z2.length I2, .int .i64 y.b3, .slice H3 y.z3.length I3, .int .i64 y.p] := by rw [hV, hgy]; exact Bx.new _ _ _
  have hb : Below w12.heap.size w12 v12 := by rw [hV]; exact (Below.refl _ _).alloc (Nat.le_refl _) _
  replace ry := ry.below hb
  replace hD := door_below hD hb
  replace rm := rm.below hb
  replace bm := bm.below hb
  replace rx := rx.below hb
  replace bx := bx.below hb
  replace hbel := hbel.trans (hb.mono hbel.size)
  clear hb
  clear hV hgy
  have d0 := bm.at_ 0 rfl
  have d1 := bm.at_ 1 rfl
  have d2 := bm.at_ 2 rfl
  have d3 := bm.at_ 3 rfl
  have d4 := bm.at_ 4 rfl
  have d5 := bm.at_ 5 rfl
  have d6 := bm.at_ 6 rfl
  cases bl with
  | false =>
    have hyx : Hid (y = m) := Lib.hid (by have := HBK.out; rwa [if_neg (fun h => by cases h.1)] at this)
    have c0 := b_y.at_ 0 rfl
    have c1 := b_y.at_ 1 rfl
    have c2 := b_y.at_ 2 rfl
    have c3 := b_y.at_ 3 rfl
    have c4 := b_y.at_ 4 rfl
    have c5 := b_y.at_ 5 rfl
    have c6 := b_y.at_ 6 rfl
    go_wp2_with fail
    refine (specSameMachine y H1 I1 H2 I2 H3 I3 m A1 C1 A2 C2 A3 C3 v12 ry hyw.1 hyw.2 rm hmw.1 hmw.2).mono ?_
    rw [hyx.out, macEqB_self]
    rintro e w13 ⟨rfl, hb⟩
    replace hbel := hbel.trans (hb.mono hbel.size)
    clear hb hyx
    go_wp2
    go_ret
    exact ⟨rfl, hbel⟩
  | true =>
    by_cases hk2 : 2 < k
    · have hyx : Hid (x = m) := Lib.hid (by have := HBK.out; rwa [if_pos ⟨rfl, hk2⟩] at this)
      have c0 := bx.at_ 0 rfl
      have c1 := bx.at_ 1 rfl
      have c2 := bx.at_ 2 rfl
      have c3 := bx.at_ 3 rfl
      have c4 := bx.at_ 4 rfl
      have c5 := bx.at_ 5 rfl
      have c6 := bx.at_ 6 rfl
      go_wp2_with fail
      refine (specSameMachine x D1 E1 D2 E2 D3 E3 m A1 C1 A2 C2 A3 C3 v12 rx hxw.1 hxw.2 rm hmw.1 hmw.2).mono ?_
      rw [hyx.out, macEqB_self]
      rintro e w13 ⟨rfl, hb⟩
      replace hbel := hbel.trans (hb.mono hbel.size)
      clear hb hyx
      go_wp2
      go_ret
      exact ⟨rfl, hbel⟩
    · have hyx : Hid (y = m) := Lib.hid (by have := HBK.out; rwa [if_neg (fun h => hk2 h.2)] at this)
      have c0 := b_y.at_ 0 rfl
      have c1 := b_y.at_ 1 rfl
      have c2 := b_y.at_ 2 rfl
      have c3 := b_y.at_ 3 rfl
      have c4 := b_y.at_ 4 rfl
      have c5 := b_y.at_ 5 rfl
      have c6 := b_y.at_ 6 rfl
      go_wp2_with fail
      refine (specSameMachine y H1 I1 H2 I2 H3 I3 m A1 C1 A2 C2 A3 C3 v12 ry hyw.1 hyw.2 rm hmw.1 hmw.2).mono ?_
      rw [hyx.out, macEqB_self]
      rintro e w13 ⟨rfl, hb⟩
      replace hbel := hbel.trans (hb.mono hbel.size)
      clear hb hyx
      go_wp2
      go_ret
      exact ⟨rfl, hbel⟩

/-- The door's own heap meets the condition: closed facts. -/
theorem door_met (os : Os) (args : Array Value) : laidMetH Tryz.prog Rows.fnStrokesRow.laid ((World.laidAll Tryz.prog os Rows.fnStrokesRow.laid).forCall (fun _ _ => 0) ⟨#[], args, []⟩).memory :=
  by rw [MakeChecks.laidMetH_plain _ _ _ (by kernel_rfl)]; exact laidMet_laidAll _ (by kernel_rfl) (by kernel_rfl)

set_option maxRecDepth 100000 in
theorem lifted (os : Os) (started : os.Started) (H : Type) (enc : TypeId × Value → H) :
    ReturnsInHanded {} Tryz.checked os 3 .any (fun w args => (Rows.fnStrokesSpec.pre enc Tryz.prog Tryz.f3 [] false w args ∧ laidMetH Tryz.prog Rows.fnStrokesRow.laid w) ∧ sizedMet enc Tryz.prog Tryz.f3 (OpenSpec.ofChange Rows.fnStrokesSpec) false w args)
      (Rows.fnStrokesSpec.post enc Tryz.prog Tryz.f3 false true false false) := by
  refine handed_laid_shaped (C := Tryz.checked) (laid := Rows.fnStrokesRow.laid) own_knob started (by kernel_rfl) Tryz.func3
    (ChangeSpec.witness_shaped (enc := enc) (C := Tryz.checked) (os := os) (X := fun w _ => laidMetH Tryz.prog Rows.fnStrokesRow.laid w) false (World.laidAll Tryz.prog os Rows.fnStrokesRow.laid) #[.slice none 0 0, .slice none 0 0] 8 (World.laidAll_os _ _ _) (World.shaped_of_ZipB (by kernel_rfl) (by kernel_rfl)) (by kernel_rfl) (by kernel_rfl) (by kernel_rfl) (door_met os _)) ?_
  intro W base args ds gs before hval0 hW hL hSh
  have hval : ∀ (j : Nat) t v, Tryz.f3.params[j]? = some t → args[j]? = some v → Value.okWide Tryz.prog W .any base t v := hval0
  have hW' := hW
  obtain ⟨p, q, hA0, hV0, rfl, hfz, hnd⟩ := hW
  have hA : DataW.TrodAll enc Tryz.prog W 0 (fun _ => true) true Tryz.f3.params.toList args.toList ds p := hA0
  have hV : DataW.TrodVars enc Tryz.prog W (fun _ => true) ["loop.example/g00930/impl.errBell", "loop.example/g00930/impl.strokeNames"] gs q := hV0
  rw [Tryz.params3] at hA hval
  obtain ⟨v0, vs0, d0, ds0, p0, q0, hargs, rfl, rfl, h0, r0⟩ := trodAll_cons hA
  obtain ⟨v1, vs1, d1, ds1, p1, q1, rfl, rfl, rfl, h1, r1⟩ := trodAll_cons r0
  obtain ⟨rfl, rfl, rfl⟩ := trodAll_nil r1
  obtain rfl : args = #[v0, v1] := by cases args; simp_all
  have k0 := h0
  have lt0 : ∀ x ∈ p0, x.block < W.heap.size := by obtain ⟨m, hm⟩ := k0; exact DataW.trod_lt m _ _ _ hm
  obtain ⟨xA, xC, xZ, rfl, hx⟩ := open_Bytes (hval 0 22 v0 rfl rfl) h0
  have k1 := h1
  have lt1 : ∀ x ∈ p1, x.block < W.heap.size := by obtain ⟨m, hm⟩ := k1; exact DataW.trod_lt m _ _ _ hm
  obtain ⟨yA, yC, yZ, rfl, hy⟩ := open_Bytes (hval 1 22 v1 rfl rfl) h1
  have hD := of_laid hL hSh
  clear hA0 hval0
  obtain ⟨gd, ge, rfl⟩ : ∃ gd ge, gs = [gd, ge] := by
    obtain ⟨_, _, _, _, d, _, _, _, _, _, f, _, h, _⟩ := trodVars_two hV
    exact ⟨d, f, h⟩
  refine (law_walk xA xC xZ yA yC yZ W hx hy hD).mono fun e W' ⟨he, bel⟩ => ?_
  subst he
  have hq' := bel.trodVars laid_out (by kernel_rfl) hV
  exact ⟨_, rfl, _, _, _, [], _, _, hW', trodAll_mk1 (shut_bool Tryz.underlying4 _), (trodAll_cons_mk (Below.trod laid_out (by kernel_rfl) (of_decide_eq_true (by kernel_rfl)) k0 bel lt0) (trodAll_cons_mk (Below.trod laid_out (by kernel_rfl) (of_decide_eq_true (by kernel_rfl)) k1 bel lt1) trodAll_mk0)), hq', bel.frame _, fun h => by cases h⟩

set_option maxHeartbeats 20000000 in
theorem closed : joinedFacts Tryz.prog 3 Tryz.f3 Rows.fnStrokesSpec Rows.fnStrokesRow = true := by
  simp only [joinedFacts, Bool.and_eq_true]
  refine ⟨⟨⟨⟨⟨⟨⟨⟨⟨⟨⟨⟨⟨⟨⟨⟨⟨⟨⟨⟨⟨⟨⟨⟨⟨⟨⟨⟨⟨⟨⟨?_, laid_out⟩, fact_maps⟩, ?_⟩, ?_⟩, ?_⟩, fact_stops⟩, ?_⟩, fact_knobs⟩, ?_⟩, ?_⟩, ?_⟩, ?_⟩, ?_⟩, ?_⟩, ?_⟩, ?_⟩, ?_⟩, ?_⟩, ?_⟩, ?_⟩, ?_⟩, fact_plain⟩, ?_⟩, fact_heard⟩, fact_enter⟩, fact_lift⟩, ?_⟩, ?_⟩, ?_⟩, ?_⟩, ?_⟩
  all_goals (as_aux_lemma => kernel_rfl)

theorem over : Rows.FnStrokesSaid :=
  OpenClaim.holds_of_wide 3 Tryz.f3 rfl rfl rfl rfl rfl rfl rfl ⟨rfl, rfl, rfl, rfl, rfl⟩ rfl rfl rfl rfl rfl (by as_aux_lemma => kernel_rfl) Tryz.func3 closed
    (of_decide_eq_true (by as_aux_lemma => kernel_rfl)) (by unfold Func.isWrapper; first | (rw [if_pos (by decide +kernel)]; kernel_rfl) | (rw [if_neg (by decide +kernel)]; exact ⟨rfl, rfl⟩))
    (fun os started H enc _ => lifted os started H enc)

/-- The statement: the tied card. -/
theorem proved : Rows.FnStrokesCardSaid :=
  Claim7.holds_tied_plain_at .later [] [.data, .data, .data, .data, .sentinel, .sentinel, .sentinel, .data, .pinned] true (true, "61cfff32aeb99ca9daefb1d458c1b9fabf4809b3c6edd00c913c6703de6f036a") true
    over (fun _ h => by cases h) (by kernel_rfl) (fun _ h => by cases h) fnStrokes_row_tie rfl ⟨rfl, rfl⟩ (by kernel_rfl) rfl
    (fun f fn hf hfn => by
      obtain rfl : f = 3 := Option.some.inj ((show Tryz.prog.funcNamed "loop.example/g00930/laws.FnStrokes" = some 3 by kernel_rfl).symm.trans hf) |>.symm
      obtain rfl : fn = Tryz.f3 := (Option.some.inj (Tryz.func3.symm.trans hfn)).symm
      exact ⟨by kernel_rfl, fun j t ht => by
        rw [Tryz.params3] at ht
        have hm : t ∈ [22] := by have := Array.mem_of_getElem? ht; simpa using this
        have hall : ([22].all fun u => !Tryz.prog.wantsStandIn u) = true := by kernel_rfl
        exact (show Tryz.prog.wantsStandIn t = false by simpa using List.all_eq_true.1 hall t hm)⟩)
    (by kernel_rfl)
end Go.Proofs.YtlahobdopmdfmaaGreatDoor.lawFnStrokes
