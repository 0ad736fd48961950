/-
  laws.FnAccumulators returns true at every input (no condition, but the texts of the library's tables, which the card ties), and leaves its arguments as they were.
-/
import Derived.Test.YtlahobdopmdfmaaDoorAcuQ1
import Derived.Test.YtlahobdopmdfmaaDoorAcuQ2
import Derived.Test.YtlahobdopmdfmaaDoorAcuQ3
import Derived.Test.YtlahobdopmdfmaaDoorDoorFrame
import Derived.Test.YtlahobdopmdfmaaDoorFacts
import Derived.Test.YtlahobdopmdfmaaDoorRows
import Derived.Lay
import Derived.Deep.Cut
namespace Go.Proofs.YtlahobdopmdfmaaDoor.lawFnAccumulators
open Go.ChangeShapes Go.WideShapes Go.ChangeAt Go.WideElems Go.RowKit Go.Joins
open Go.ChangeMaps (open_string shut_string)
open Go.BigFrame

theorem rowErr (u : TypeId) (h : Tryd.prog.typeName? 3 u = some "*errors.errorString") : u = 220 :=
  typeName_ptr_named (nm := "errors.errorString") (by rw [show "*" ++ "errors.errorString" = "*errors.errorString" by decide]; kernel_rfl) (by kernel_rfl) (by decide) u (by rw [show "*" ++ "errors.errorString" = "*errors.errorString" by decide]; exact h)
theorem gVar : Tryd.prog.globalNamed "loop.example/g00930/impl.errBell" = some 0 := by kernel_rfl
theorem tVar : (Tryd.prog.globals[0]?).map (·.type) = some 117 := by kernel_rfl
abbrev Door (w : World) : Prop := PowTab w ∧ BellD w
theorem door_below {w w' : World} (h : Door w) (hb : Below w.heap.size w w') : Door w' := ⟨powTab_below h.1 hb, h.2.below hb⟩
theorem of_laid {W : World} (h : laidMetH Tryd.prog Rows.fnAccumulatorsRow.laid W) : Door W := by
  rw [MakeChecks.laidMetH_plain _ _ _ (by kernel_rfl)] at h
  refine ⟨Lib.tabIs_of_head (g := 2) (t := 213) (e := 147) (n := 20) (by kernel_rfl) (by kernel_rfl) Tryd.underlying213 Tryd.underlying147 (by kernel_rfl) (by kernel_rfl)
    (show laidMet Tryd.prog (("internal/strconv.uint64pow10", Lib.tabData .u64 Lib.pow10Tab) :: _) W from h.tail.tail), ?_⟩
  obtain ⟨a, t, hv, _⟩ := laid_sentinel h.tail.tail.tail (g := 0) (ti := 117) (tp := 220) (te := 243) (ts := 9) (by kernel_rfl) (by kernel_rfl) Tryd.underlying117 rowErr Tryd.underlying220 Tryd.underlying243 rfl rfl Tryd.underlying9 (by kernel_rfl) (by kernel_rfl)
  exact ⟨_, by simpa [BellAt, bellV] using World.var?_cell (g := 0) (by kernel_rfl) hv 0⟩

theorem regC_mk {f : FuncId} {args : Array Value} {w : World} {R : Int × List Int × Int} {B : Int} {Z : List Int} {c : Int} (h : Calls Tryd.prog f args w (RegC R w)) (e : R = (B, Z, c)) :
    Calls Tryd.prog f args w fun e w' => ∃ (A : Option Addr) (C : Nat), e = .returned (.tuple #[.agg #[.int .i64 B, .slice A Z.length C], .int .i64 c]) ∧ Own 2 w' w.heap.size w'.heap.size (.slice A Z.length C) Z ∧ Below w.heap.size w w' := by
  subst e; exact h
theorem numR_at (B : Int) (A : Option Addr) (C : Nat) (Z : List Int) (w : World) (h : Rd w A Z) (z : All64 Z) (b : I64 B) (hD : BellD w) {p c : Int} (e : numR B Z = (p, c)) :
    Calls Tryd.prog 42 #[.agg #[.int .i64 B, .slice A Z.length C]] w fun e w' => e = .returned (.tuple #[.int .i64 p, .int .i64 c]) ∧ Below w.heap.size w w' := by
  have := implNumberOf B A C Z w h z b hD
  rw [e] at this
  exact this
theorem bent_64 {b : Int} {ds : List Int} (h : BentR b ds) : I64 b ∧ All64 ds := ⟨h.1, h.2.1⟩
theorem setAR_64 {B n x : Int} (hb : I64 B) : I64 (setAR B n x).1 ∧ All64 (setAR B n x).2.1 := by
  have i0 : I64 0 := by unfold I64; decide
  unfold setAR
  split
  · next h =>
    split
    · refine ⟨hb, fun d hd => ?_⟩
      obtain ⟨b0, b1, _⟩ := fullB_spec h
      have := digsR_bd (b := B) (by omega) n.toNat (x % cntA B n) d hd
      exact i64_in64 (by omega) (by omega)
    · exact ⟨i0, fun d hd => by cases hd⟩
  · exact ⟨i0, fun d hd => by cases hd⟩
theorem negR_64 {B : Int} {zs : List Int} (hb : I64 B) : I64 (negR B zs).1 ∧ All64 (negR B zs).2.1 := by
  have i0 : I64 0 := by unfold I64; decide
  unfold negR
  split
  · exact setAR_64 hb
  · exact ⟨i0, fun d hd => by cases hd⟩
theorem widR_64 {B n : Int} {zs : List Int} (hb : I64 B) : I64 (widR B zs n).1 ∧ All64 (widR B zs n).2.1 := by
  have i0 : I64 0 := by unfold I64; decide
  unfold widR
  split
  · split
    · split
      · next h =>
        refine ⟨hb, fun d hd => ?_⟩
        obtain ⟨b0, b1, _⟩ := fullB_spec h
        have := digsR_bd (b := B) (by omega) n.toNat (numA B zs % cntA B n) d hd
        exact i64_in64 (by omega) (by omega)
      · exact ⟨i0, fun d hd => by cases hd⟩
    · exact ⟨i0, fun d hd => by cases hd⟩
  · exact ⟨i0, fun d hd => by cases hd⟩

set_option maxRecDepth 100000 in
set_option maxHeartbeats 8000000 in
theorem law_walk (xA : Option Addr) (xC : Nat) (xZ : List Int) (w : World) (hx : RawU w xA xZ) (hD : Door w) :
    Calls Tryd.prog 4 #[.slice xA xZ.length xC] w fun e w' => e = .returned (.bool true) ∧ Below w.heap.size w w' := by
  have hbel : Below w.heap.size w w := Below.refl _ _
  have hlen : xZ.length ≤ 9223372036854775807 := hx.len
  go_enter Tryd.func4, Tryd.ntmps4
  go_wp2_with fail
  refine (f6big_any xA xZ.length xC w hlen).mono ?_
  rintro e w1 ⟨rfl, hq⟩
  subst w1
  by_cases hl : 4096 < xZ.length
  · rw [decide_eq_true hl]
    clear hl
    go_wp2
    go_ret
    exact ⟨rfl, hbel⟩
  rw [decide_eq_false hl]
  replace hx := hx.rd (by omega)
  clear hl hlen
  go_wp2_with fail
  refine (drawSetAccumulator_any xA xZ xC w hx).mono ?_
  rintro e w1 ⟨b, n, x, rfl, hb0, hn0, ix, hb⟩
  replace hD := door_below hD hb
  replace hx := hx.below hb
  replace hbel := hbel.trans (hb.mono hbel.size)
  clear hb
  have ib : I64 b := i64_in64 (by omega) (by omega)
  have inn : I64 n := i64_in64 (by omega) (by omega)
  obtain ⟨B1, Z1, bad, hR1⟩ : ∃ B Z c, setAR b n x = (B, Z, c) := ⟨_, _, _, rfl⟩
  have h1 := setAR_64 (n := n) (x := x) ib
  have HS := Lib.hid (fun h => numR_set (B := b) (n := n) (x := x) h)
  rw [hR1] at h1 HS
  clear hb0 hn0
  go_wp2_with fail
  refine (regC_mk (implSetAccumulator b n x w1 ib inn ix hD.2) hR1).mono ?_
  rintro e w2 ⟨A1, C1, rfl, ow, hb⟩
  replace hD := door_below hD hb
  replace hx := hx.below hb
  replace hbel := hbel.trans (hb.mono hbel.size)
  clear hb
  have r1 := ow.rd
  clear ow
  go_upto_region 5 with fail
  obtain ⟨g1, hg1⟩ : ∃ g, g = w2.heap.size := ⟨_, rfl⟩
  obtain ⟨v2, hV⟩ : ∃ V, V = w2.alloc (.cells #[.int .i64 B1, .slice A1 Z1.length C1] 26) := ⟨_, rfl⟩
  try rw [← hg1, ← hV]
  have b_g1 : Bx v2 g1 26 #[.int .i64 B1, .slice A1 Z1.length C1] := by rw [hV, hg1]; exact Bx.new _ _ _
  have hb : Below w2.heap.size w2 v2 := by rw [hV]; exact (Below.refl _ _).alloc (Nat.le_refl _) _
  replace hD := door_below hD hb
  replace hx := hx.below hb
  replace r1 := r1.below hb
  replace hbel := hbel.trans (hb.mono hbel.size)
  clear hb
  clear hV hg1
  go_wp2_with fail
  refine (regC_mk (specSetAccumulator b n x v2 ib inn ix) hR1).mono ?_
  rintro e w3 ⟨D1, E1, rfl, ow, hb⟩
  replace hD := door_below hD hb
  replace hx := hx.below hb
  replace r1 := r1.below hb
  replace b_g1 := b_g1.below hb
  replace hbel := hbel.trans (hb.mono hbel.size)
  clear hb
  have q1 := ow.rd
  clear ow hR1
  go_upto_region 6 with fail
  obtain ⟨k1, hk1⟩ : ∃ g, g = w3.heap.size := ⟨_, rfl⟩
  obtain ⟨v3, hV⟩ : ∃ V, V = w3.alloc (.cells #[.int .i64 B1, .slice D1 Z1.length E1] 26) := ⟨_, rfl⟩
  try rw [← hk1, ← hV]
  have b_k1 : Bx v3 k1 26 #[.int .i64 B1, .slice D1 Z1.length E1] := by rw [hV, hk1]; exact Bx.new _ _ _
  have hb : Below w3.heap.size w3 v3 := by rw [hV]; exact (Below.refl _ _).alloc (Nat.le_refl _) _
  replace hD := door_below hD hb
  replace hx := hx.below hb
  replace r1 := r1.below hb
  replace b_g1 := b_g1.below hb
  replace q1 := q1.below hb
  replace hbel := hbel.trans (hb.mono hbel.size)
  clear hb
  clear hV hk1
  go_wp2_with fail
  refine (drawAccumulatorRange_any xA xZ xC v3 hx).mono ?_
  rintro e w4 ⟨b', n', rfl, hb0, hn0, hb⟩
  replace hD := door_below hD hb
  replace hx := hx.below hb
  replace r1 := r1.below hb
  replace b_g1 := b_g1.below hb
  replace q1 := q1.below hb
  replace b_k1 := b_k1.below hb
  replace hbel := hbel.trans (hb.mono hbel.size)
  clear hb
  have ib' : I64 b' := i64_in64 (by omega) (by omega)
  have in' : I64 n' := i64_in64 (by omega) (by omega)
  clear hb0 hn0
  go_wp2_with fail
  refine (implAccumulatorRange b' n' w4 ib' in').mono ?_
  rintro e w5 ⟨rfl, hb⟩
  replace hD := door_below hD hb
  replace hx := hx.below hb
  replace r1 := r1.below hb
  replace b_g1 := b_g1.below hb
  replace q1 := q1.below hb
  replace b_k1 := b_k1.below hb
  replace hbel := hbel.trans (hb.mono hbel.size)
  clear hb
  go_wp2_with fail
  refine (specAccumulatorRange b' n' w5 ib' in').mono ?_
  rintro e w6 ⟨rfl, hb⟩
  replace hD := door_below hD hb
  replace hx := hx.below hb
  replace r1 := r1.below hb
  replace b_g1 := b_g1.below hb
  replace q1 := q1.below hb
  replace b_k1 := b_k1.below hb
  replace hbel := hbel.trans (hb.mono hbel.size)
  clear hb
  obtain ⟨u1, hu1⟩ : ∃ u, u = (rngA b' n').1 := ⟨_, rfl⟩
  obtain ⟨u2, hu2⟩ : ∃ u, u = (rngA b' n').2.1 := ⟨_, rfl⟩
  obtain ⟨u3, hu3⟩ : ∃ u, u = (rngA b' n').2.2 := ⟨_, rfl⟩
  rw [← hu1, ← hu2, ← hu3]
  clear hu1 hu2 hu3
  go_wp2_with fail
  refine (drawNegateAccumulator_any xA xZ xC w6 hx).mono ?_
  rintro e w7 ⟨Bn, Zn, An, Cn, rfl, hbn, ow, hb⟩
  replace hD := door_below hD hb
  replace hx := hx.below hb
  replace r1 := r1.below hb
  replace b_g1 := b_g1.below hb
  replace q1 := q1.below hb
  replace b_k1 := b_k1.below hb
  replace hbel := hbel.trans (hb.mono hbel.size)
  clear hb
  have rn := ow.rd
  clear ow
  have hn64 := bent_64 hbn
  obtain ⟨B2, Z2, three, hR2⟩ : ∃ B Z c, negR Bn Zn = (B, Z, c) := ⟨_, _, _, rfl⟩
  have h2 := negR_64 (zs := Zn) hn64.1
  have HN := Lib.hid (fun h => negR_back (B := Bn) (zs := Zn) h)
  rw [hR2] at h2 HN
  clear hbn
  go_upto_region 10 with fail
  obtain ⟨gn, hgn⟩ : ∃ g, g = w7.heap.size := ⟨_, rfl⟩
  obtain ⟨v7, hV⟩ : ∃ V, V = w7.alloc (.cells #[.int .i64 Bn, .slice An Zn.length Cn] 26) := ⟨_, rfl⟩
  try rw [← hgn, ← hV]
  have b_gn : Bx v7 gn 26 #[.int .i64 Bn, .slice An Zn.length Cn] := by rw [hV, hgn]; exact Bx.new _ _ _
  have hb : Below w7.heap.size w7 v7 := by rw [hV]; exact (Below.refl _ _).alloc (Nat.le_refl _) _
  replace hD := door_below hD hb
  replace hx := hx.below hb
  replace r1 := r1.below hb
  replace b_g1 := b_g1.below hb
  replace q1 := q1.below hb
  replace b_k1 := b_k1.below hb
  replace rn := rn.below hb
  replace hbel := hbel.trans (hb.mono hbel.size)
  clear hb
  clear hV hgn
  have c0 := b_gn.at_ 0 rfl
  have c1 := b_gn.at_ 1 rfl
  go_wp2_with fail
  refine (regC_mk (implNegateAccumulator Bn An Cn Zn v7 rn hn64.2 hn64.1 hD.2) hR2).mono ?_
  rintro e w8 ⟨A2, C2, rfl, ow, hb⟩
  clear c0 c1
  replace hD := door_below hD hb
  replace hx := hx.below hb
  replace r1 := r1.below hb
  replace b_g1 := b_g1.below hb
  replace q1 := q1.below hb
  replace b_k1 := b_k1.below hb
  replace rn := rn.below hb
  replace b_gn := b_gn.below hb
  replace hbel := hbel.trans (hb.mono hbel.size)
  clear hb
  have r2 := ow.rd
  clear ow
  go_upto_region 11 with fail
  obtain ⟨g2, hg2⟩ : ∃ g, g = w8.heap.size := ⟨_, rfl⟩
  obtain ⟨v8, hV⟩ : ∃ V, V = w8.alloc (.cells #[.int .i64 B2, .slice A2 Z2.length C2] 26) := ⟨_, rfl⟩
  try rw [← hg2, ← hV]
  have b_g2 : Bx v8 g2 26 #[.int .i64 B2, .slice A2 Z2.length C2] := by rw [hV, hg2]; exact Bx.new _ _ _
  have hb : Below w8.heap.size w8 v8 := by rw [hV]; exact (Below.refl _ _).alloc (Nat.le_refl _) _
  replace hD := door_below hD hb
  replace hx := hx.below hb
  replace r1 := r1.below hb
  replace b_g1 := b_g1.below hb
  replace q1 := q1.below hb
  replace b_k1 := b_k1.below hb
  replace rn := rn.below hb
  replace b_gn := b_gn.below hb
  replace r2 := r2.below hb
  replace hbel := hbel.trans (hb.mono hbel.size)
  clear hb
  clear hV hg2
  have c0 := b_gn.at_ 0 rfl
  have c1 := b_gn.at_ 1 rfl
  go_wp2_with fail
  refine (regC_mk (specNegateAccumulator Bn An Cn Zn v8 rn hn64.2 hn64.1) hR2).mono ?_
  rintro e w9 ⟨D2, E2, rfl, ow, hb⟩
  clear c0 c1
  replace hD := door_below hD hb
  replace hx := hx.below hb
  replace r1 := r1.below hb
  replace b_g1 := b_g1.below hb
  replace q1 := q1.below hb
  replace b_k1 := b_k1.below hb
  replace rn := rn.below hb
  replace b_gn := b_gn.below hb
  replace r2 := r2.below hb
  replace b_g2 := b_g2.below hb
  replace hbel := hbel.trans (hb.mono hbel.size)
  clear hb
  have q2 := ow.rd
  clear ow hR2
  go_upto_region 12 with fail
  obtain ⟨k2, hk2⟩ : ∃ g, g = w9.heap.size := ⟨_, rfl⟩
  obtain ⟨v9, hV⟩ : ∃ V, V = w9.alloc (.cells #[.int .i64 B2, .slice D2 Z2.length E2] 26) := ⟨_, rfl⟩
  try rw [← hk2, ← hV]
  have b_k2 : Bx v9 k2 26 #[.int .i64 B2, .slice D2 Z2.length E2] := by rw [hV, hk2]; exact Bx.new _ _ _
  have hb : Below w9.heap.size w9 v9 := by rw [hV]; exact (Below.refl _ _).alloc (Nat.le_refl _) _
  replace hD := door_below hD hb
  replace hx := hx.below hb
  replace r1 := r1.below hb
  replace b_g1 := b_g1.below hb
  replace q1 := q1.below hb
  replace b_k1 := b_k1.below hb
  replace rn := rn.below hb
  replace b_gn := b_gn.below hb
  replace r2 := r2.below hb
  replace b_g2 := b_g2.below hb
  replace q2 := q2.below hb
  replace hbel := hbel.trans (hb.mono hbel.size)
  clear hb
  clear hV hk2
  go_wp2_with fail
  refine (drawWidenAccumulator_any xA xZ xC v9 hx).mono ?_
  rintro e w10 ⟨Ba, Za, Aa, Ca, wide, rfl, hba, hwd, ow, hb⟩
  replace hD := door_below hD hb
  replace hx := hx.below hb
  replace r1 := r1.below hb
  replace b_g1 := b_g1.below hb
  replace q1 := q1.below hb
  replace b_k1 := b_k1.below hb
  replace rn := rn.below hb
  replace b_gn := b_gn.below hb
  replace r2 := r2.below hb
  replace b_g2 := b_g2.below hb
  replace q2 := q2.below hb
  replace b_k2 := b_k2.below hb
  replace hbel := hbel.trans (hb.mono hbel.size)
  clear hb
  have ra := ow.rd
  clear ow
  have ha64 := bent_64 hba
  have iw : I64 wide := i64_in64 (by omega) (by omega)
  obtain ⟨B3, Z3, five, hR3⟩ : ∃ B Z c, widR Ba Za wide = (B, Z, c) := ⟨_, _, _, rfl⟩
  have h3 := widR_64 (zs := Za) (n := wide) ha64.1
  have HW := Lib.hid (fun h => widR_num (B := Ba) (zs := Za) (n := wide) h)
  rw [hR3] at h3 HW
  clear hba hwd
  go_upto_region 13 with fail
  obtain ⟨ga, hga⟩ : ∃ g, g = w10.heap.size := ⟨_, rfl⟩
  obtain ⟨v10, hV⟩ : ∃ V, V = w10.alloc (.cells #[.int .i64 Ba, .slice Aa Za.length Ca] 26) := ⟨_, rfl⟩
  try rw [← hga, ← hV]
  have b_ga : Bx v10 ga 26 #[.int .i64 Ba, .slice Aa Za.length Ca] := by rw [hV, hga]; exact Bx.new _ _ _
  have hb : Below w10.heap.size w10 v10 := by rw [hV]; exact (Below.refl _ _).alloc (Nat.le_refl _) _
  replace hD := door_below hD hb
  replace hx := hx.below hb
  replace r1 := r1.below hb
  replace b_g1 := b_g1.below hb
  replace q1 := q1.below hb
  replace b_k1 := b_k1.below hb
  replace rn := rn.below hb
  replace b_gn := b_gn.below hb
  replace r2 := r2.below hb
  replace b_g2 := b_g2.below hb
  replace q2 := q2.below hb
  replace b_k2 := b_k2.below hb
  replace ra := ra.below hb
  replace hbel := hbel.trans (hb.mono hbel.size)
  clear hb
  clear hV hga
  have c0 := b_ga.at_ 0 rfl
  have c1 := b_ga.at_ 1 rfl
  go_wp2_with fail
  refine (regC_mk (implWidenAccumulator Ba Aa Ca Za wide v10 ra ha64.2 ha64.1 iw hD.2) hR3).mono ?_
  rintro e w11 ⟨A3, C3, rfl, ow, hb⟩
  clear c0 c1
  replace hD := door_below hD hb
  replace hx := hx.below hb
  replace r1 := r1.below hb
  replace b_g1 := b_g1.below hb
  replace q1 := q1.below hb
  replace b_k1 := b_k1.below hb
  replace rn := rn.below hb
  replace b_gn := b_gn.below hb
  replace r2 := r2.below hb
  replace b_g2 := b_g2.below hb
  replace q2 := q2.below hb
  replace b_k2 := b_k2.below hb
  replace ra := ra.below hb
  replace b_ga := b_ga.below hb
  replace hbel := hbel.trans (hb.mono hbel.size)
  clear hb
  have r3 := ow.rd
  clear ow
  go_upto_region 14 with fail
  obtain ⟨g3, hg3⟩ : ∃ g, g = w11.heap.size := ⟨_, rfl⟩
  obtain ⟨v11, hV⟩ : ∃ V, V = w11.alloc (.cells #[.int .i64 B3, .slice A3 Z3.length C3] 26) := ⟨_, rfl⟩
  try rw [← hg3, ← hV]
  have b_g3 : Bx v11 g3 26 #[.int .i64 B3, .slice A3 Z3.length C3] := by rw [hV, hg3]; exact Bx.new _ _ _
  have hb : Below w11.heap.size w11 v11 := by rw [hV]; exact (Below.refl _ _).alloc (Nat.le_refl _) _
  replace hD := door_below hD hb
  replace hx := hx.below hb
  replace r1 := r1.below hb
  replace b_g1 := b_g1.below hb
  replace q1 := q1.below hb
  replace b_k1 := b_k1.below hb
  replace rn := rn.below hb
  replace b_gn := b_gn.below hb
  replace r2 := r2.below hb
  replace b_g2 := b_g2.below hb
  replace q2 := q2.below hb
  replace b_k2 := b_k2.below hb
  replace ra := ra.below hb
  replace b_ga := b_ga.below hb
  replace r3 := r3.below hb
  replace hbel := hbel.trans (hb.mono hbel.size)
  clear hb
  clear hV hg3
  have c0 := b_ga.at_ 0 rfl
  have c1 := b_ga.at_ 1 rfl
  go_wp2_with fail
  refine (regC_mk (specWidenAccumulator Ba Aa Ca Za wide v11 ra ha64.2 ha64.1 iw) hR3).mono ?_
  rintro e w12 ⟨D3, E3, rfl, ow, hb⟩
  clear c0 c1
  replace hD := door_below hD hb
  replace hx := hx.below hb
  replace r1 := r1.below hb
  replace b_g1 := b_g1.below hb
  replace q1 := q1.below hb
  replace b_k1 := b_k1.below hb
  replace rn := rn.below hb
  replace b_gn := b_gn.below hb
  replace r2 := r2.below hb
  replace b_g2 := b_g2.below hb
  replace q2 := q2.below hb
  replace b_k2 := b_k2.below hb
  replace ra := ra.below hb
  replace b_ga := b_ga.below hb
  replace r3 := r3.below hb
  replace b_g3 := b_g3.below hb
  replace hbel := hbel.trans (hb.mono hbel.size)
  clear hb
  have q3 := ow.rd
  clear ow hR3
  go_upto_region 15 with fail
  obtain ⟨k3, hk3⟩ : ∃ g, g = w12.heap.size := ⟨_, rfl⟩
  obtain ⟨v12, hV⟩ : ∃ V, V = w12.alloc (.cells #[.int .i64 B3, .slice D3 Z3.length E3] 26) := ⟨_, rfl⟩
  try rw [← hk3, ← hV]
  have b_k3 : Bx v12 k3 26 #[.int .i64 B3, .slice D3 Z3.length E3] := by rw [hV, hk3]; exact Bx.new _ _ _
  have hb : Below w12.heap.size w12 v12 := by rw [hV]; exact (Below.refl _ _).alloc (Nat.le_refl _) _
  replace hD := door_below hD hb
  replace hx := hx.below hb
  replace r1 := r1.below hb
  replace b_g1 := b_g1.below hb
  replace q1 := q1.below hb
  replace b_k1 := b_k1.below hb
  replace rn := rn.below hb
  replace b_gn := b_gn.below hb
  replace r2 := r2.below hb
  replace b_g2 := b_g2.below hb
  replace q2 := q2.below hb
  replace b_k2 := b_k2.below hb
  replace ra := ra.below hb
  replace b_ga := b_ga.below hb
  replace r3 := r3.below hb
  replace b_g3 := b_g3.below hb
  replace q3 := q3.below hb
  replace hbel := hbel.trans (hb.mono hbel.size)
  clear hb
  clear hV hk3
  go_wp2_with fail
  refine (drawAccumulatorText_any xA xZ xC v12 hx).mono ?_
  rintro e w13 ⟨Bt, Zt, At, Ct, rfl, hbt, ow, hb⟩
  clear hx
  replace hD := door_below hD hb
  replace r1 := r1.below hb
  replace b_g1 := b_g1.below hb
  replace q1 := q1.below hb
  replace b_k1 := b_k1.below hb
  replace rn := rn.below hb
  replace b_gn := b_gn.below hb
  replace r2 := r2.below hb
  replace b_g2 := b_g2.below hb
  replace q2 := q2.below hb
  replace b_k2 := b_k2.below hb
  replace ra := ra.below hb
  replace b_ga := b_ga.below hb
  replace r3 := r3.below hb
  replace b_g3 := b_g3.below hb
  replace q3 := q3.below hb
  replace b_k3 := b_k3.below hb
  replace hbel := hbel.trans (hb.mono hbel.size)
  clear hb
  have rt := ow.rd
  clear ow
  have ht64 := bent_64 hbt
  clear hbt
  go_upto_region 16 with fail
  obtain ⟨gt, hgt⟩ : ∃ g, g = w13.heap.size := ⟨_, rfl⟩
  obtain ⟨v13, hV⟩ : ∃ V, V = w13.alloc (.cells #[.int .i64 Bt, .slice At Zt.length Ct] 26) := ⟨_, rfl⟩
  try rw [← hgt, ← hV]
  have b_gt : Bx v13 gt 26 #[.int .i64 Bt, .slice At Zt.length Ct] := by rw [hV, hgt]; exact Bx.new _ _ _
  have hb : Below w13.heap.size w13 v13 := by rw [hV]; exact (Below.refl _ _).alloc (Nat.le_refl _) _
  replace hD := door_below hD hb
  replace r1 := r1.below hb
  replace b_g1 := b_g1.below hb
  replace q1 := q1.below hb
  replace b_k1 := b_k1.below hb
  replace rn := rn.below hb
  replace b_gn := b_gn.below hb
  replace r2 := r2.below hb
  replace b_g2 := b_g2.below hb
  replace q2 := q2.below hb
  replace b_k2 := b_k2.below hb
  replace ra := ra.below hb
  replace b_ga := b_ga.below hb
  replace r3 := r3.below hb
  replace b_g3 := b_g3.below hb
  replace q3 := q3.below hb
  replace b_k3 := b_k3.below hb
  replace rt := rt.below hb
  replace hbel := hbel.trans (hb.mono hbel.size)
  clear hb
  clear hV hgt
  go_cut [166] from 114 (fun s2 wx => s2 = .bool false ∧ Below v13.heap.size v13 wx)
  case first =>
    have SR1 := Lib.hid (fun v (hb : Below v13.heap.size v13 v) => specSameRegister B1 A1 C1 Z1 B1 D1 E1 Z1 v (r1.below hb) h1.2 h1.1 (q1.below hb) h1.2 h1.1)
    have SR2 := Lib.hid (fun v (hb : Below v13.heap.size v13 v) => specSameRegister B2 A2 C2 Z2 B2 D2 E2 Z2 v (r2.below hb) h2.2 h2.1 (q2.below hb) h2.2 h2.1)
    have SR3 := Lib.hid (fun v (hb : Below v13.heap.size v13 v) => specSameRegister B3 A3 C3 Z3 B3 D3 E3 Z3 v (r3.below hb) h3.2 h3.1 (q3.below hb) h3.2 h3.1)
    have TX1 := Lib.hid (fun v (hb : Below v13.heap.size v13 v) => implAccumulatorText Bt At Ct Zt v (rt.below hb) ht64.2 ht64.1 (door_below hD hb))
    have TX2 := Lib.hid (fun v (hb : Below v13.heap.size v13 v) => specAccumulatorText Bt At Ct Zt v (rt.below hb) ht64.2 ht64.1)
    obtain ⟨tx, htx⟩ : ∃ t, t = atxV Bt Zt := ⟨_, rfl⟩
    rw [← htx] at TX1 TX2
    rw [regEqB_self] at SR1 SR2 SR3
    clear htx
    refine wp_region_marked (fun w' => Below v13.heap.size v13 w') 52 (by kernel_rfl) ?_
    have hS : Below v13.heap.size v13 v13.drew := (Below.refl _ _).drew
    have g10 := kept_all (b_g1.at_ 0 rfl)
    have g11 := kept_all (b_g1.at_ 1 rfl)
    have k10 := kept_all (b_k1.at_ 0 rfl)
    have k11 := kept_all (b_k1.at_ 1 rfl)
    have g20 := kept_all (b_g2.at_ 0 rfl)
    have g21 := kept_all (b_g2.at_ 1 rfl)
    have k20 := kept_all (b_k2.at_ 0 rfl)
    have k21 := kept_all (b_k2.at_ 1 rfl)
    have g30 := kept_all (b_g3.at_ 0 rfl)
    have g31 := kept_all (b_g3.at_ 1 rfl)
    have k30 := kept_all (b_k3.at_ 0 rfl)
    have k31 := kept_all (b_k3.at_ 1 rfl)
    have gt0 := kept_all (b_gt.at_ 0 rfl)
    have gt1 := kept_all (b_gt.at_ 1 rfl)
    refine wpAnyM_takeC (i := 0) (v := ?_) 14 rfl (by kernel_rfl) (by kernel_rfl) (by kernel_rfl) (by kernel_rfl) (by kernel_rfl) (by kernel_rfl) (fun _ _ _ h => h) hS (.inl ⟨by rfl, ?_⟩) ?_
    rotate_left 1
    · intro w' hS'; go_simp; try with_reducible rfl
    simp only [Act.put, List.setIfInBounds_toArray, List.set_cons_succ, List.set_cons_zero, List.getElem_toArray, List.getElem_cons_zero]
    refine wpAnyM_one (i := 1) (by kernel_rfl) rfl (by rfl) (fun K hK => ?_)
    go_simp
    refine hK _ _ (.inr hS) ?_
    try simp only [Act.put, List.setIfInBounds_toArray, List.set_cons_succ, List.set_cons_zero, List.getElem_toArray, List.getElem_cons_succ, List.getElem_cons_zero]
    clear hK K
    refine wpAnyM_one (i := 2) (by kernel_rfl) rfl (by rfl) (fun K hK => ?_)
    go_simp
    refine hK _ _ (.inr hS) ?_
    try simp only [Act.put, List.setIfInBounds_toArray, List.set_cons_succ, List.set_cons_zero, List.getElem_toArray, List.getElem_cons_succ, List.getElem_cons_zero]
    clear hK K
    refine wpAnyM_one (i := 3) (by kernel_rfl) rfl (by rfl) (fun K hK => ?_)
    go_simp
    refine hK _ _ (.inr hS) ?_
    try simp only [Act.put, List.setIfInBounds_toArray, List.set_cons_succ, List.set_cons_zero, List.getElem_toArray, List.getElem_cons_succ, List.getElem_cons_zero]
    clear hK K
    refine wpAnyM_takeC (i := 4) (v := ?_) 12 rfl (by kernel_rfl) (by kernel_rfl) (by kernel_rfl) (by kernel_rfl) (by kernel_rfl) (by kernel_rfl) (fun _ _ _ h => h) hS (.inl ⟨by rfl, ?_⟩) ?_
    rotate_left 1
    · intro w' hS'; go_simp; try with_reducible rfl
    simp only [Act.put, List.setIfInBounds_toArray, List.set_cons_succ, List.set_cons_zero, List.getElem_toArray, List.getElem_cons_succ, List.getElem_cons_zero]
    refine wpAnyM_one (i := 5) (by kernel_rfl) rfl (by rfl) (fun K hK => ?_)
    go_simp
    refine hK _ _ (.inr hS) ?_
    try simp only [Act.put, List.setIfInBounds_toArray, List.set_cons_succ, List.set_cons_zero, List.getElem_toArray, List.getElem_cons_succ, List.getElem_cons_zero]
    clear hK K
    refine wpAnyM_one (i := 6) (by kernel_rfl) rfl (by rfl) (fun K hK => ?_)
    go_simp
    refine (SR1.out _ hS).mono ?_
    rintro e X1 ⟨rfl, hb⟩
    replace hS := hS.trans (hb.mono hS.size)
    refine hK _ _ (.inr hS) ?_
    clear hb
    try simp only [Act.put, List.setIfInBounds_toArray, List.set_cons_succ, List.set_cons_zero, List.getElem_toArray, List.getElem_cons_succ, List.getElem_cons_zero]
    clear hK K
    refine wpAnyM_one (i := 7) (by kernel_rfl) rfl (by rfl) (fun K hK => ?_)
    go_simp
    refine hK _ _ (.inr hS) ?_
    try simp only [Act.put, List.setIfInBounds_toArray, List.set_cons_succ, List.set_cons_zero, List.getElem_toArray, List.getElem_cons_succ, List.getElem_cons_zero]
    clear hK K
    refine wpAnyM_one (i := 8) (by kernel_rfl) rfl (by rfl) (fun K hK => ?_)
    go_simp
    refine hK _ _ (.inr hS) ?_
    try simp only [Act.put, List.setIfInBounds_toArray, List.set_cons_succ, List.set_cons_zero, List.getElem_toArray, List.getElem_cons_succ, List.getElem_cons_zero]
    clear hK K
    refine wpAnyM_one (i := 9) (by kernel_rfl) rfl (by rfl) (fun K hK => ?_)
    go_simp
    refine hK _ _ (.inr hS) ?_
    try simp only [Act.put, List.setIfInBounds_toArray, List.set_cons_succ, List.set_cons_zero, List.getElem_toArray, List.getElem_cons_succ, List.getElem_cons_zero]
    clear hK K
    refine wpAnyM_takeC (i := 10) (v := ?_) 12 rfl (by kernel_rfl) (by kernel_rfl) (by kernel_rfl) (by kernel_rfl) (by kernel_rfl) (by kernel_rfl) (fun _ _ _ h => h) hS (.inl ⟨by rfl, ?_⟩) ?_
    rotate_left 1
    · intro w' hS'; go_simp; try with_reducible rfl
    simp only [Act.put, List.setIfInBounds_toArray, List.set_cons_succ, List.set_cons_zero, List.getElem_toArray, List.getElem_cons_succ, List.getElem_cons_zero]
    refine wpAnyM_one (i := 11) (by kernel_rfl) rfl (by rfl) (fun K hK => ?_)
    go_simp
    refine hK _ _ (.inr hS) ?_
    try simp only [Act.put, List.setIfInBounds_toArray, List.set_cons_succ, List.set_cons_zero, List.getElem_toArray, List.getElem_cons_succ, List.getElem_cons_zero]
    clear hK K
    refine wpAnyM_one (i := 12) (by kernel_rfl) rfl (by rfl) (fun K hK => ?_)
    go_simp
    refine hK _ _ (.inr hS) ?_
    try simp only [Act.put, List.setIfInBounds_toArray, List.set_cons_succ, List.set_cons_zero, List.getElem_toArray, List.getElem_cons_succ, List.getElem_cons_zero]
    clear hK K
    refine wpAnyM_one (i := 13) (by kernel_rfl) rfl (by rfl) (fun K hK => ?_)
    go_simp
    refine hK _ _ (.inr hS) ?_
    try simp only [Act.put, List.setIfInBounds_toArray, List.set_cons_succ, List.set_cons_zero, List.getElem_toArray, List.getElem_cons_succ, List.getElem_cons_zero]
    clear hK K
    refine wpAnyM_one (i := 14) (by kernel_rfl) rfl (by rfl) (fun K hK => ?_)
    go_simp
    refine hK _ _ (.inr hS) ?_
    try simp only [Act.put, List.setIfInBounds_toArray, List.set_cons_succ, List.set_cons_zero, List.getElem_toArray, List.getElem_cons_succ, List.getElem_cons_zero]
    clear hK K
    refine wpAnyM_takeC (i := 15) (v := ?_) 11 rfl (by kernel_rfl) (by kernel_rfl) (by kernel_rfl) (by kernel_rfl) (by kernel_rfl) (by kernel_rfl) (fun _ _ _ h => h) hS (.inl ⟨by rfl, ?_⟩) ?_
    rotate_left 1
    · intro w' hS'; go_simp; try with_reducible rfl
    simp only [Act.put, List.setIfInBounds_toArray, List.set_cons_succ, List.set_cons_zero, List.getElem_toArray, List.getElem_cons_succ, List.getElem_cons_zero]
    refine wpAnyM_one (i := 16) (by kernel_rfl) rfl (by rfl) (fun K hK => ?_)
    go_simp
    refine hK _ _ (.inr hS) ?_
    try simp only [Act.put, List.setIfInBounds_toArray, List.set_cons_succ, List.set_cons_zero, List.getElem_toArray, List.getElem_cons_succ, List.getElem_cons_zero]
    clear hK K
    refine wpAnyM_one (i := 17) (by kernel_rfl) rfl (by rfl) (fun K hK => ?_)
    go_simp
    refine hK _ _ (.inr hS) ?_
    try simp only [Act.put, List.setIfInBounds_toArray, List.set_cons_succ, List.set_cons_zero, List.getElem_toArray, List.getElem_cons_succ, List.getElem_cons_zero]
    clear hK K
    refine wpAnyM_one (i := 18) (by kernel_rfl) rfl (by rfl) (fun K hK => ?_)
    go_simp
    refine hK _ _ (.inr hS) ?_
    try simp only [Act.put, List.setIfInBounds_toArray, List.set_cons_succ, List.set_cons_zero, List.getElem_toArray, List.getElem_cons_succ, List.getElem_cons_zero]
    clear hK K
    refine wpAnyM_one (i := 19) (by kernel_rfl) rfl (by rfl) (fun K hK => ?_)
    go_simp
    refine hK _ _ (.inr hS) ?_
    try simp only [Act.put, List.setIfInBounds_toArray, List.set_cons_succ, List.set_cons_zero, List.getElem_toArray, List.getElem_cons_succ, List.getElem_cons_zero]
    clear hK K
    refine wpAnyM_takeC (i := 20) (v := ?_) 10 rfl (by kernel_rfl) (by kernel_rfl) (by kernel_rfl) (by kernel_rfl) (by kernel_rfl) (by kernel_rfl) (fun _ _ _ h => h) hS (.inl ⟨by rfl, ?_⟩) ?_
    rotate_left 1
    · intro w' hS'; go_simp; try with_reducible rfl
    simp only [Act.put, List.setIfInBounds_toArray, List.set_cons_succ, List.set_cons_zero, List.getElem_toArray, List.getElem_cons_succ, List.getElem_cons_zero]
    refine wpAnyM_one (i := 21) (by kernel_rfl) rfl (by rfl) (fun K hK => ?_)
    go_simp
    refine hK _ _ (.inr hS) ?_
    try simp only [Act.put, List.setIfInBounds_toArray, List.set_cons_succ, List.set_cons_zero, List.getElem_toArray, List.getElem_cons_succ, List.getElem_cons_zero]
    clear hK K
    refine wpAnyM_one (i := 22) (by kernel_rfl) rfl (by rfl) (fun K hK => ?_)
    go_simp
    refine hK _ _ (.inr hS) ?_
    try simp only [Act.put, List.setIfInBounds_toArray, List.set_cons_succ, List.set_cons_zero, List.getElem_toArray, List.getElem_cons_succ, List.getElem_cons_zero]
    clear hK K
    refine wpAnyM_one (i := 23) (by kernel_rfl) rfl (by rfl) (fun K hK => ?_)
    go_simp
    refine hK _ _ (.inr hS) ?_
    try simp only [Act.put, List.setIfInBounds_toArray, List.set_cons_succ, List.set_cons_zero, List.getElem_toArray, List.getElem_cons_succ, List.getElem_cons_zero]
    clear hK K
    refine wpAnyM_one (i := 24) (by kernel_rfl) rfl (by rfl) (fun K hK => ?_)
    go_simp
    refine hK _ _ (.inr hS) ?_
    try simp only [Act.put, List.setIfInBounds_toArray, List.set_cons_succ, List.set_cons_zero, List.getElem_toArray, List.getElem_cons_succ, List.getElem_cons_zero]
    clear hK K
    refine wpAnyM_takeC (i := 25) (v := ?_) 9 rfl (by kernel_rfl) (by kernel_rfl) (by kernel_rfl) (by kernel_rfl) (by kernel_rfl) (by kernel_rfl) (fun _ _ _ h => h) hS (.inl ⟨by rfl, ?_⟩) ?_
    rotate_left 1
    · intro w' hS'; go_simp; try with_reducible rfl
    simp only [Act.put, List.setIfInBounds_toArray, List.set_cons_succ, List.set_cons_zero, List.getElem_toArray, List.getElem_cons_succ, List.getElem_cons_zero]
    refine wpAnyM_one (i := 26) (by kernel_rfl) rfl (by rfl) (fun K hK => ?_)
    go_simp
    refine hK _ _ (.inr hS) ?_
    try simp only [Act.put, List.setIfInBounds_toArray, List.set_cons_succ, List.set_cons_zero, List.getElem_toArray, List.getElem_cons_succ, List.getElem_cons_zero]
    clear hK K
    refine wpAnyM_one (i := 27) (by kernel_rfl) rfl (by rfl) (fun K hK => ?_)
    go_simp
    refine hK _ _ (.inr hS) ?_
    try simp only [Act.put, List.setIfInBounds_toArray, List.set_cons_succ, List.set_cons_zero, List.getElem_toArray, List.getElem_cons_succ, List.getElem_cons_zero]
    clear hK K
    refine wpAnyM_one (i := 28) (by kernel_rfl) rfl (by rfl) (fun K hK => ?_)
    go_simp
    refine hK _ _ (.inr hS) ?_
    try simp only [Act.put, List.setIfInBounds_toArray, List.set_cons_succ, List.set_cons_zero, List.getElem_toArray, List.getElem_cons_succ, List.getElem_cons_zero]
    clear hK K
    refine wpAnyM_one (i := 29) (by kernel_rfl) rfl (by rfl) (fun K hK => ?_)
    go_simp
    refine hK _ _ (.inr hS) ?_
    try simp only [Act.put, List.setIfInBounds_toArray, List.set_cons_succ, List.set_cons_zero, List.getElem_toArray, List.getElem_cons_succ, List.getElem_cons_zero]
    clear hK K
    refine wpAnyM_takeC (i := 30) (v := ?_) 6 rfl (by kernel_rfl) (by kernel_rfl) (by kernel_rfl) (by kernel_rfl) (by kernel_rfl) (by kernel_rfl) (fun _ _ _ h => h) hS (.inl ⟨by rfl, ?_⟩) ?_
    rotate_left 1
    · intro w' hS'; go_simp; try with_reducible rfl
    simp only [Act.put, List.setIfInBounds_toArray, List.set_cons_succ, List.set_cons_zero, List.getElem_toArray, List.getElem_cons_succ, List.getElem_cons_zero]
    refine wpAnyM_one (i := 31) (by kernel_rfl) rfl (by rfl) (fun K hK => ?_)
    go_simp
    refine hK _ _ (.inr hS) ?_
    try simp only [Act.put, List.setIfInBounds_toArray, List.set_cons_succ, List.set_cons_zero, List.getElem_toArray, List.getElem_cons_succ, List.getElem_cons_zero]
    clear hK K
    refine wpAnyM_one (i := 32) (by kernel_rfl) rfl (by rfl) (fun K hK => ?_)
    go_simp
    refine (SR2.out _ hS).mono ?_
    rintro e X2 ⟨rfl, hb⟩
    replace hS := hS.trans (hb.mono hS.size)
    refine hK _ _ (.inr hS) ?_
    clear hb
    try simp only [Act.put, List.setIfInBounds_toArray, List.set_cons_succ, List.set_cons_zero, List.getElem_toArray, List.getElem_cons_succ, List.getElem_cons_zero]
    clear hK K
    refine wpAnyM_one (i := 33) (by kernel_rfl) rfl (by rfl) (fun K hK => ?_)
    go_simp
    refine hK _ _ (.inr hS) ?_
    try simp only [Act.put, List.setIfInBounds_toArray, List.set_cons_succ, List.set_cons_zero, List.getElem_toArray, List.getElem_cons_succ, List.getElem_cons_zero]
    clear hK K
    refine wpAnyM_one (i := 34) (by kernel_rfl) rfl (by rfl) (fun K hK => ?_)
    go_simp
    refine hK _ _ (.inr hS) ?_
    try simp only [Act.put, List.setIfInBounds_toArray, List.set_cons_succ, List.set_cons_zero, List.getElem_toArray, List.getElem_cons_succ, List.getElem_cons_zero]
    clear hK K
    refine wpAnyM_one (i := 35) (by kernel_rfl) rfl (by rfl) (fun K hK => ?_)
    go_simp
    refine hK _ _ (.inr hS) ?_
    try simp only [Act.put, List.setIfInBounds_toArray, List.set_cons_succ, List.set_cons_zero, List.getElem_toArray, List.getElem_cons_succ, List.getElem_cons_zero]
    clear hK K
    refine wpAnyM_takeC (i := 36) (v := ?_) 6 rfl (by kernel_rfl) (by kernel_rfl) (by kernel_rfl) (by kernel_rfl) (by kernel_rfl) (by kernel_rfl) (fun _ _ _ h => h) hS (.inl ⟨by rfl, ?_⟩) ?_
    rotate_left 1
    · intro w' hS'; go_simp; try with_reducible rfl
    simp only [Act.put, List.setIfInBounds_toArray, List.set_cons_succ, List.set_cons_zero, List.getElem_toArray, List.getElem_cons_succ, List.getElem_cons_zero]
    refine wpAnyM_one (i := 37) (by kernel_rfl) rfl (by rfl) (fun K hK => ?_)
    go_simp
    refine hK _ _ (.inr hS) ?_
    try simp only [Act.put, List.setIfInBounds_toArray, List.set_cons_succ, List.set_cons_zero, List.getElem_toArray, List.getElem_cons_succ, List.getElem_cons_zero]
    clear hK K
    refine wpAnyM_one (i := 38) (by kernel_rfl) rfl (by rfl) (fun K hK => ?_)
    go_simp
    refine hK _ _ (.inr hS) ?_
    try simp only [Act.put, List.setIfInBounds_toArray, List.set_cons_succ, List.set_cons_zero, List.getElem_toArray, List.getElem_cons_succ, List.getElem_cons_zero]
    clear hK K
    refine wpAnyM_one (i := 39) (by kernel_rfl) rfl (by rfl) (fun K hK => ?_)
    go_simp
    refine hK _ _ (.inr hS) ?_
    try simp only [Act.put, List.setIfInBounds_toArray, List.set_cons_succ, List.set_cons_zero, List.getElem_toArray, List.getElem_cons_succ, List.getElem_cons_zero]
    clear hK K
    refine wpAnyM_one (i := 40) (by kernel_rfl) rfl (by rfl) (fun K hK => ?_)
    go_simp
    refine hK _ _ (.inr hS) ?_
    try simp only [Act.put, List.setIfInBounds_toArray, List.set_cons_succ, List.set_cons_zero, List.getElem_toArray, List.getElem_cons_succ, List.getElem_cons_zero]
    clear hK K
    refine wpAnyM_takeC (i := 41) (v := ?_) 3 rfl (by kernel_rfl) (by kernel_rfl) (by kernel_rfl) (by kernel_rfl) (by kernel_rfl) (by kernel_rfl) (fun _ _ _ h => h) hS (.inl ⟨by rfl, ?_⟩) ?_
    rotate_left 1
    · intro w' hS'; go_simp; try with_reducible rfl
    simp only [Act.put, List.setIfInBounds_toArray, List.set_cons_succ, List.set_cons_zero, List.getElem_toArray, List.getElem_cons_succ, List.getElem_cons_zero]
    refine wpAnyM_one (i := 42) (by kernel_rfl) rfl (by rfl) (fun K hK => ?_)
    go_simp
    refine hK _ _ (.inr hS) ?_
    try simp only [Act.put, List.setIfInBounds_toArray, List.set_cons_succ, List.set_cons_zero, List.getElem_toArray, List.getElem_cons_succ, List.getElem_cons_zero]
    clear hK K
    refine wpAnyM_one (i := 43) (by kernel_rfl) rfl (by rfl) (fun K hK => ?_)
    go_simp
    refine (SR3.out _ hS).mono ?_
    rintro e X3 ⟨rfl, hb⟩
    replace hS := hS.trans (hb.mono hS.size)
    refine hK _ _ (.inr hS) ?_
    clear hb
    try simp only [Act.put, List.setIfInBounds_toArray, List.set_cons_succ, List.set_cons_zero, List.getElem_toArray, List.getElem_cons_succ, List.getElem_cons_zero]
    clear hK K
    refine wpAnyM_one (i := 44) (by kernel_rfl) rfl (by rfl) (fun K hK => ?_)
    go_simp
    refine hK _ _ (.inr hS) ?_
    try simp only [Act.put, List.setIfInBounds_toArray, List.set_cons_succ, List.set_cons_zero, List.getElem_toArray, List.getElem_cons_succ, List.getElem_cons_zero]
    clear hK K
    refine wpAnyM_one (i := 45) (by kernel_rfl) rfl (by rfl) (fun K hK => ?_)
    go_simp
    refine hK _ _ (.inr hS) ?_
    try simp only [Act.put, List.setIfInBounds_toArray, List.set_cons_succ, List.set_cons_zero, List.getElem_toArray, List.getElem_cons_succ, List.getElem_cons_zero]
    clear hK K
    refine wpAnyM_one (i := 46) (by kernel_rfl) rfl (by rfl) (fun K hK => ?_)
    go_simp
    refine hK _ _ (.inr hS) ?_
    try simp only [Act.put, List.setIfInBounds_toArray, List.set_cons_succ, List.set_cons_zero, List.getElem_toArray, List.getElem_cons_succ, List.getElem_cons_zero]
    clear hK K
    refine wpAnyM_takeC (i := 47) (v := ?_) 3 rfl (by kernel_rfl) (by kernel_rfl) (by kernel_rfl) (by kernel_rfl) (by kernel_rfl) (by kernel_rfl) (fun _ _ _ h => h) hS (.inl ⟨by rfl, ?_⟩) ?_
    rotate_left 1
    · intro w' hS'; go_simp; try with_reducible rfl
    simp only [Act.put, List.setIfInBounds_toArray, List.set_cons_succ, List.set_cons_zero, List.getElem_toArray, List.getElem_cons_succ, List.getElem_cons_zero]
    refine wpAnyM_takeC (i := 49) (v := ?_) 3 rfl (by kernel_rfl) (by kernel_rfl) (by kernel_rfl) (by kernel_rfl) (by kernel_rfl) (by kernel_rfl) (fun _ _ _ h => h) hS (.inl ⟨by rfl, ?_⟩) ?_
    rotate_left 1
    · intro w' hS'; go_simp; try with_reducible rfl
    simp only [Act.put, List.setIfInBounds_toArray, List.set_cons_succ, List.set_cons_zero, List.getElem_toArray, List.getElem_cons_succ, List.getElem_cons_zero]
    refine wpAnyM_one (i := 48) (by kernel_rfl) rfl (by rfl) (fun K hK => ?_)
    go_simp
    refine (TX1.out _ hS).mono ?_
    rintro e X4 ⟨rfl, hb⟩
    replace hS := hS.trans (hb.mono hS.size)
    refine hK _ _ (.inr hS) ?_
    clear hb
    try simp only [Act.put, List.setIfInBounds_toArray, List.set_cons_succ, List.set_cons_zero, List.getElem_toArray, List.getElem_cons_succ, List.getElem_cons_zero]
    clear hK K
    refine wpAnyM_one (i := 50) (by kernel_rfl) rfl (by rfl) (fun K hK => ?_)
    go_simp
    refine (TX2.out _ hS).mono ?_
    rintro e X5 ⟨rfl, hb⟩
    replace hS := hS.trans (hb.mono hS.size)
    refine hK _ _ (.inr hS) ?_
    clear hb
    try simp only [Act.put, List.setIfInBounds_toArray, List.set_cons_succ, List.set_cons_zero, List.getElem_toArray, List.getElem_cons_succ, List.getElem_cons_zero]
    clear hK K
    refine wpAnyM_one (i := 51) (by kernel_rfl) rfl (by rfl) (fun K hK => ?_)
    go_simp
    refine hK _ _ (.inr hS) ?_
    try simp only [Act.put, List.setIfInBounds_toArray, List.set_cons_succ, List.set_cons_zero, List.getElem_toArray, List.getElem_cons_succ, List.getElem_cons_zero]
    clear hK K
    refine wpAnyM_one (i := 52) (by kernel_rfl) rfl (by rfl) (fun K hK => ?_)
    go_simp
    refine hK _ _ (.inl rfl) ?_
    clear hK K
    refine wpAnyM_done (by kernel_rfl) ?_ _
    try simp only [Act.put, List.setIfInBounds_toArray, List.set_cons_succ, List.set_cons_zero, List.getElem_toArray, List.getElem_cons_succ, List.getElem_cons_zero]
    go_wp2_with fail
    go_meet
    case rel => exact ⟨rfl, hS⟩
  case rest =>
    obtain ⟨rfl, hb⟩ := hcut
    obtain ⟨w14, rfl⟩ : ∃ u, u = wc := ⟨_, rfl⟩
    replace hD := door_below hD hb
    replace r1 := r1.below hb
    replace b_g1 := b_g1.below hb
    replace q1 := q1.below hb
    replace b_k1 := b_k1.below hb
    replace rn := rn.below hb
    replace b_gn := b_gn.below hb
    replace r2 := r2.below hb
    replace b_g2 := b_g2.below hb
    replace q2 := q2.below hb
    replace b_k2 := b_k2.below hb
    replace ra := ra.below hb
    replace b_ga := b_ga.below hb
    replace r3 := r3.below hb
    replace b_g3 := b_g3.below hb
    replace q3 := q3.below hb
    replace b_k3 := b_k3.below hb
    replace rt := rt.below hb
    replace b_gt := b_gt.below hb
    replace hbel := hbel.trans (hb.mono hbel.size)
    clear hb
    clear b_k1 b_k2 b_k3 q1 q2 q3 b_gt rt
    have HN2 : Hid (three = 0 → ∃ p : Int, numR Bn Zn = (p, 0) ∧ numR B2 Z2 = (-p, 0) ∧ negR B2 Z2 = (Bn, Zn, 0) ∧ -1000000000001 ≤ p ∧ p ≤ 1000000000001) := Lib.hid HN.out
    have HW2 : Hid (five = 0 → ∃ p : Int, numR Ba Za = (p, 0) ∧ numR B3 Z3 = (p, 0) ∧ (Z3.length : Int) = wide) := Lib.hid HW.out
    have HS2 : Hid (bad = 0 → numR B1 Z1 = (x, 0)) := Lib.hid HS.out
    clear HN HW HS
    go_upto_if 168 with fail
    go_cut [2] from 206 (fun s2 wx => s2 = .bool false ∧ Below w14.heap.size w14 wx)
    case first =>
      have hb14 : Below w14.heap.size w14 w14 := Below.refl _ _
      by_cases ht : three = 0
      rotate_left
      · go_wp2_with fail
        go_meet
        case rel => exact ⟨rfl, hb14⟩
      obtain ⟨p, ev1, ev2, ev3, p0, p1⟩ := HN2.out ht
      have HT := Lib.hid ht
      subst ht
      have vn : IntKind.i64.wrap p = p := IntWalk.i64_in p (by omega)
      clear p0 p1 HT
      clear hbel r1 b_g1 ra b_ga r3 b_g3
      have c0 := b_gn.at_ 0 rfl
      have c1 := b_gn.at_ 1 rfl
      go_wp2_with fail
      refine (numR_at Bn An Cn Zn w14 rn hn64.2 hn64.1 hD.2 ev1).mono ?_
      rintro e w15 ⟨rfl, hb⟩
      clear c0 c1
      replace hD := door_below hD hb
      replace b_gn := b_gn.below hb
      replace b_g2 := b_g2.below hb
      replace rn := rn.below hb
      replace r2 := r2.below hb
      replace hb14 := hb14.trans (hb.mono hb14.size)
      clear hb
      have c0 := b_g2.at_ 0 rfl
      have c1 := b_g2.at_ 1 rfl
      go_wp2_with fail
      refine (numR_at B2 A2 C2 Z2 w15 r2 h2.2 h2.1 hD.2 ev2).mono ?_
      rintro e w16 ⟨rfl, hb⟩
      clear c0 c1
      replace hD := door_below hD hb
      replace b_gn := b_gn.below hb
      replace b_g2 := b_g2.below hb
      replace rn := rn.below hb
      replace r2 := r2.below hb
      replace hb14 := hb14.trans (hb.mono hb14.size)
      clear hb
      have c0 := b_g2.at_ 0 rfl
      have c1 := b_g2.at_ 1 rfl
      go_wp2_with fail
      refine (regC_mk (implNegateAccumulator B2 A2 C2 Z2 w16 r2 h2.2 h2.1 hD.2) ev3).mono ?_
      rintro e w17 ⟨A5, C5, rfl, ow, hb⟩
      clear c0 c1
      replace hD := door_below hD hb
      replace b_gn := b_gn.below hb
      replace b_g2 := b_g2.below hb
      replace rn := rn.below hb
      replace r2 := r2.below hb
      replace hb14 := hb14.trans (hb.mono hb14.size)
      clear hb
      have r5 := ow.rd
      clear ow
      go_upto_region 22 with fail
      obtain ⟨g5, hg5⟩ : ∃ g, g = w17.heap.size := ⟨_, rfl⟩
      obtain ⟨v17, hV⟩ : ∃ V, V = w17.alloc (.cells #[.int .i64 Bn, .slice A5 Zn.length C5] 26) := ⟨_, rfl⟩
      try rw [← hg5, ← hV]
      have b_g5 : Bx v17 g5 26 #[.int .i64 Bn, .slice A5 Zn.length C5] := by rw [hV, hg5]; exact Bx.new _ _ _
      have hb : Below w17.heap.size w17 v17 := by rw [hV]; exact (Below.refl _ _).alloc (Nat.le_refl _) _
      replace r5 := r5.below hb
      replace hD := door_below hD hb
      replace b_gn := b_gn.below hb
      replace b_g2 := b_g2.below hb
      replace rn := rn.below hb
      replace r2 := r2.below hb
      replace hb14 := hb14.trans (hb.mono hb14.size)
      clear hb
      clear hV hg5
      have c0 := b_g5.at_ 0 rfl
      have c1 := b_g5.at_ 1 rfl
      have d0 := b_gn.at_ 0 rfl
      have d1 := b_gn.at_ 1 rfl
      clear ev1 ev2 ev3
      go_wp2_with fail
      refine (specSameRegister Bn A5 C5 Zn Bn An Cn Zn v17 r5 hn64.2 hn64.1 rn hn64.2 hn64.1).mono ?_
      rw [regEqB_self]
      rintro e w18 ⟨rfl, hb⟩
      replace hb14 := hb14.trans (hb.mono hb14.size)
      clear hb c0 c1 d0 d1
      go_wp2_with fail
      go_meet
      case rel => exact ⟨rfl, hb14⟩
    case rest =>
      obtain ⟨rfl, hb⟩ := hcut
      obtain ⟨w19, rfl⟩ : ∃ u, u = wc := ⟨_, rfl⟩
      replace hD := door_below hD hb
      replace r1 := r1.below hb
      replace b_g1 := b_g1.below hb
      replace rn := rn.below hb
      replace b_gn := b_gn.below hb
      replace r2 := r2.below hb
      replace b_g2 := b_g2.below hb
      replace ra := ra.below hb
      replace b_ga := b_ga.below hb
      replace r3 := r3.below hb
      replace b_g3 := b_g3.below hb
      replace hbel := hbel.trans (hb.mono hbel.size)
      clear hb
      clear HN2
      go_upto_if 207 with fail
      go_cut [2] from 236 (fun s2 wx => s2 = .bool false ∧ Below w19.heap.size w19 wx)
      case first =>
        have hb14 : Below w19.heap.size w19 w19 := Below.refl _ _
        by_cases ht : five = 0
        rotate_left
        · go_wp2_with fail
          go_meet
          case rel => exact ⟨rfl, hb14⟩
        obtain ⟨p, ev1, ev2, ev3⟩ := HW2.out ht
        subst ht
        clear hbel r1 b_g1 rn b_gn r2 b_g2
        have c0 := b_ga.at_ 0 rfl
        have c1 := b_ga.at_ 1 rfl
        go_wp2_with fail
        refine (numR_at Ba Aa Ca Za w19 ra ha64.2 ha64.1 hD.2 ev1).mono ?_
        rintro e w20 ⟨rfl, hb⟩
        clear c0 c1
        replace hD := door_below hD hb
        replace b_ga := b_ga.below hb
        replace b_g3 := b_g3.below hb
        replace ra := ra.below hb
        replace r3 := r3.below hb
        replace hb14 := hb14.trans (hb.mono hb14.size)
        clear hb
        have c0 := b_g3.at_ 0 rfl
        have c1 := b_g3.at_ 1 rfl
        go_wp2_with fail
        refine (numR_at B3 A3 C3 Z3 w20 r3 h3.2 h3.1 hD.2 ev2).mono ?_
        rintro e w21 ⟨rfl, hb⟩
        clear c0 c1
        replace hD := door_below hD hb
        replace b_ga := b_ga.below hb
        replace b_g3 := b_g3.below hb
        replace ra := ra.below hb
        replace r3 := r3.below hb
        replace hb14 := hb14.trans (hb.mono hb14.size)
        clear hb
        have c0 := b_g3.at_ 0 rfl
        have c1 := b_g3.at_ 1 rfl
        go_wp2_with fail
        go_meet
        case rel => exact ⟨rfl, hb14⟩
      case rest =>
        obtain ⟨rfl, hb⟩ := hcut
        obtain ⟨w22, rfl⟩ : ∃ u, u = wc := ⟨_, rfl⟩
        replace hD := door_below hD hb
        replace r1 := r1.below hb
        replace b_g1 := b_g1.below hb
        replace rn := rn.below hb
        replace b_gn := b_gn.below hb
        replace r2 := r2.below hb
        replace b_g2 := b_g2.below hb
        replace ra := ra.below hb
        replace b_ga := b_ga.below hb
        replace r3 := r3.below hb
        replace b_g3 := b_g3.below hb
        replace hbel := hbel.trans (hb.mono hbel.size)
        clear hb
        clear HW2
        by_cases ht : bad = 0
        rotate_left
        · go_wp2_with fail
          go_ret
          exact ⟨rfl, hbel⟩
        have ev1 := HS2.out ht
        subst ht
        have c0 := b_g1.at_ 0 rfl
        have c1 := b_g1.at_ 1 rfl
        go_wp2_with fail
        refine (numR_at B1 A1 C1 Z1 w22 r1 h1.2 h1.1 hD.2 ev1).mono ?_
        rintro e w23 ⟨rfl, hb⟩
        replace hbel := hbel.trans (hb.mono hbel.size)
        clear hb c0 c1
        go_wp2_with fail
        go_ret
        exact ⟨rfl, hbel⟩

/-- The door's own heap meets the condition: closed facts. -/
theorem door_met (os : Os) (args : Array Value) : laidMetH Tryd.prog Rows.fnAccumulatorsRow.laid ((World.laidAll Tryd.prog os Rows.fnAccumulatorsRow.laid).forCall (fun _ _ => 0) ⟨#[], args, []⟩).memory :=
  by rw [MakeChecks.laidMetH_plain _ _ _ (by kernel_rfl)]; exact laidMet_laidAll _ (by kernel_rfl) (by kernel_rfl)

set_option maxRecDepth 100000 in
theorem lifted (os : Os) (started : os.Started) (H : Type) (enc : TypeId × Value → H) :
    ReturnsInHanded {} Tryd.checked os 4 .any (fun w args => (Rows.fnAccumulatorsSpec.pre enc Tryd.prog Tryd.f4 [] false w args ∧ laidMetH Tryd.prog Rows.fnAccumulatorsRow.laid w) ∧ sizedMet enc Tryd.prog Tryd.f4 (OpenSpec.ofChange Rows.fnAccumulatorsSpec) false w args)
      (Rows.fnAccumulatorsSpec.post enc Tryd.prog Tryd.f4 false true false false) := by
  refine returnsInHanded_of_change_and (C := Tryd.checked) (X := fun w _ => laidMetH Tryd.prog Rows.fnAccumulatorsRow.laid w) (fun _ _ _ hh h => h.of_heap hh) own_knob started (by kernel_rfl) Tryd.func4
    (ChangeSpec.witness_shaped (enc := enc) (C := Tryd.checked) (os := os) (X := fun w _ => laidMetH Tryd.prog Rows.fnAccumulatorsRow.laid w) false (World.laidAll Tryd.prog os Rows.fnAccumulatorsRow.laid) #[.slice none 0 0] 8 (World.laidAll_os _ _ _) (World.shaped_of_ZipB (by kernel_rfl) (by kernel_rfl)) (by kernel_rfl) (by kernel_rfl) (by kernel_rfl) (door_met os _)) ?_
  intro W base args ds gs before hval0 hW _ _ hL _
  have hval : ∀ (j : Nat) t v, Tryd.f4.params[j]? = some t → args[j]? = some v → Value.okWide Tryd.prog W .any base t v := hval0
  have hW' := hW
  obtain ⟨p, q, hA0, hV0, rfl, hfz, hnd⟩ := hW
  have hA : DataW.TrodAll enc Tryd.prog W 0 (fun _ => true) true Tryd.f4.params.toList args.toList ds p := hA0
  have hV : DataW.TrodVars enc Tryd.prog W (fun _ => true) ["loop.example/g00930/impl.errBell"] gs q := hV0
  rw [Tryd.params4] at hA hval
  obtain ⟨v0, vs0, d0, ds0, p0, q0, hargs, rfl, rfl, h0, r0⟩ := trodAll_cons hA
  obtain ⟨rfl, rfl, rfl⟩ := trodAll_nil r0
  obtain rfl : args = #[v0] := by cases args; simp_all
  have k0 := h0
  have lt0 : ∀ x ∈ p0, x.block < W.heap.size := by obtain ⟨m, hm⟩ := k0; exact DataW.trod_lt m _ _ _ hm
  obtain ⟨xA, xC, xZ, rfl, hx⟩ := open_Bytes (hval 0 22 v0 rfl rfl) h0
  have hD := of_laid hL
  clear hA0 hval0
  obtain ⟨gd, rfl⟩ : ∃ gd, gs = [gd] := by
    obtain ⟨_, _, _, _, d, _, h, _⟩ := trodVars_one hV
    exact ⟨d, h⟩
  refine (law_walk xA xC xZ W hx hD).mono fun e W' ⟨he, bel⟩ => ?_
  subst he
  obtain ⟨q', hq'⟩ := var_stays gVar tVar (by kernel_rfl) (of_decide_eq_true (by kernel_rfl)) hV bel
  exact ⟨_, rfl, _, _, _, [], _, q', hW', trodAll_mk1 (shut_bool Tryd.underlying4 _), (trodAll_cons_mk (Below.trod laid_out (by kernel_rfl) (of_decide_eq_true (by kernel_rfl)) k0 bel lt0) trodAll_mk0), hq', bel.frame _, fun h => by cases h⟩

set_option maxHeartbeats 20000000 in
theorem closed : joinedFacts Tryd.prog 4 Tryd.f4 Rows.fnAccumulatorsSpec Rows.fnAccumulatorsRow = true := by
  simp only [joinedFacts, Bool.and_eq_true]
  refine ⟨⟨⟨⟨⟨⟨⟨⟨⟨⟨⟨⟨⟨⟨⟨⟨⟨⟨⟨⟨⟨⟨⟨⟨⟨⟨⟨⟨⟨⟨⟨?_, laid_out⟩, fact_maps⟩, ?_⟩, ?_⟩, ?_⟩, fact_stops⟩, ?_⟩, fact_knobs⟩, ?_⟩, ?_⟩, ?_⟩, ?_⟩, ?_⟩, ?_⟩, ?_⟩, ?_⟩, ?_⟩, ?_⟩, ?_⟩, ?_⟩, ?_⟩, fact_plain⟩, ?_⟩, fact_heard⟩, fact_enter⟩, fact_lift⟩, ?_⟩, ?_⟩, ?_⟩, ?_⟩, ?_⟩
  all_goals (as_aux_lemma => kernel_rfl)

theorem over : Rows.FnAccumulatorsSaid :=
  OpenClaim.holds_of_wide 4 Tryd.f4 rfl rfl rfl rfl rfl rfl rfl ⟨rfl, rfl, rfl, rfl, rfl⟩ rfl rfl rfl rfl rfl (by as_aux_lemma => kernel_rfl) Tryd.func4 closed
    (of_decide_eq_true (by as_aux_lemma => kernel_rfl)) (by unfold Func.isWrapper; first | (rw [if_pos (by decide +kernel)]; kernel_rfl) | (rw [if_neg (by decide +kernel)]; exact ⟨rfl, rfl⟩))
    (fun os started H enc _ => lifted os started H enc)

set_option maxHeartbeats 20000000 in
/-- The statement: the tied card. -/
theorem proved : Rows.FnAccumulatorsCardSaid :=
  Claim7.holds_tied_plain_at .later [] [.data, .data, .data, .sentinel] true (true, "ec655d68bd83ee750dda8ab1bd41c2789a9eb6bdf7c44e01156a152df2f96c04") true
    over (fun _ h => by cases h) (by as_aux_lemma => kernel_rfl) (fun _ h => by cases h) fnAccumulators_row_tie rfl ⟨rfl, rfl⟩ (by as_aux_lemma => kernel_rfl) rfl
    (fun f fn hf hfn => by
      obtain rfl : f = 4 := Option.some.inj ((show Tryd.prog.funcNamed "loop.example/g00930/laws.FnAccumulators" = some 4 by as_aux_lemma => kernel_rfl).symm.trans hf) |>.symm
      obtain rfl : fn = Tryd.f4 := (Option.some.inj (Tryd.func4.symm.trans hfn)).symm
      exact ⟨(by as_aux_lemma => kernel_rfl), fun j t ht => by
        rw [Tryd.params4] at ht
        have hm : t ∈ [22] := by simpa using Array.mem_of_getElem? ht
        have hall : ([22].all fun u => !Tryd.prog.wantsStandIn u) = true := by as_aux_lemma => kernel_rfl
        exact (show Tryd.prog.wantsStandIn t = false by simpa using List.all_eq_true.1 hall t hm)⟩)
    (by as_aux_lemma => kernel_rfl)
end Go.Proofs.YtlahobdopmdfmaaDoor.lawFnAccumulators
