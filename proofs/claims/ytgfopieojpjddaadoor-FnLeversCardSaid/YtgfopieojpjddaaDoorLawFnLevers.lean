/-
  laws.FnLevers returns true at every input (no condition, but the texts of the library's tables, which the card ties), and leaves its arguments as they were.
-/
import Derived.Test.YtgfopieojpjddaaDoorAwsAll
import Derived.Test.YtgfopieojpjddaaDoorLvAll
import Derived.Test.YtgfopieojpjddaaDoorBytes
import Derived.Test.YtgfopieojpjddaaDoorOrdC
import Derived.Test.YtgfopieojpjddaaDoorShapeD
import Derived.Test.YtgfopieojpjddaaDoorDoorFrame
import Derived.Test.YtgfopieojpjddaaDoorFacts
import Derived.Test.YtgfopieojpjddaaDoorRows
import Derived.Deep.Cut
import Derived.Deep.RegionHeld3
namespace Go.Proofs.YtgfopieojpjddaaDoor
open Go.RowKit
theorem RfDoor.below {w w' : World} (h : RfDoor w) (hb : Below w.heap.size w w') : RfDoor w' := rfDoor_below h hb
end Go.Proofs.YtgfopieojpjddaaDoor
namespace Go.Proofs.YtgfopieojpjddaaDoor.lawFnLevers
open Go.ChangeShapes Go.WideShapes Go.ChangeAt Go.WideElems Go.RowKit Go.Joins
open Go.ChangeMaps (open_string shut_string)
open Go.BigFrame
theorem gVar : Tryd.prog.globalNamed "loop.example/g00930/impl.faultWords" = some 1 := by kernel_rfl
theorem tVar : (Tryd.prog.globals[1]?).map (·.type) = some 107 := by kernel_rfl

theorem rowErr (u : TypeId) (h : Tryd.prog.typeName? 3 u = some "*errors.errorString") : u = 202 :=
  typeName_ptr_named (nm := "errors.errorString") (by rw [show "*" ++ "errors.errorString" = "*errors.errorString" by decide]; kernel_rfl) (by kernel_rfl) (by decide) u (by rw [show "*" ++ "errors.errorString" = "*errors.errorString" by decide]; exact h)
abbrev Door (w : World) : Prop := RfDoor w
theorem door_below {w w' : World} (h : Door w) (hb : Below w.heap.size w w') : Door w' := rfDoor_below h hb
theorem of_laid {W : World} (h : laidMetH Tryd.prog Rows.fnLeversRow.laid W) (hSh : W.ShapedOpen Tryd.prog) : Door W := by
  rw [MakeChecks.laidMetH_plain _ _ _ (by kernel_rfl)] at h
  have h2 := h.tail.tail
  refine ⟨?_, ?_, cell_of_shapedOpen_int (P := Tryd.prog) (g := 5) (t := 3) (zero := #[.int .i64 0]) hSh (of_decide_eq_true (by kernel_rfl)) (by kernel_rfl) rfl (by kernel_rfl) (by kernel_rfl) Tryd.underlying3⟩
  refine ⟨Lib.tabIs_of_head (g := 6) (t := 206) (e := 159) (n := 20) (by kernel_rfl) (by kernel_rfl) Tryd.underlying206 Tryd.underlying159 (by kernel_rfl) (by kernel_rfl)
    (show laidMet Tryd.prog (("internal/strconv.uint64pow10", Lib.tabData .u64 Lib.pow10Tab) :: _) W from h2), ?_, ?_⟩
  · obtain ⟨a, t, hv, _⟩ := laid_sentinel h2.tail.tail (g := 3) (ti := 95) (tp := 202) (te := 204) (ts := 9) (by kernel_rfl) (by kernel_rfl) Tryd.underlying95 rowErr Tryd.underlying202 Tryd.underlying204 rfl rfl Tryd.underlying9 (by kernel_rfl) (by kernel_rfl)
    exact ⟨_, by simpa using World.var?_cell (g := 3) (by kernel_rfl) hv 0, _, _, rfl⟩
  · obtain ⟨a, t, hv, _⟩ := laid_sentinel h2.tail (g := 4) (ti := 95) (tp := 202) (te := 204) (ts := 9) (by kernel_rfl) (by kernel_rfl) Tryd.underlying95 rowErr Tryd.underlying202 Tryd.underlying204 rfl rfl Tryd.underlying9 (by kernel_rfl) (by kernel_rfl)
    exact ⟨_, by simpa using World.var?_cell (g := 4) (by kernel_rfl) hv 0, _, _, rfl⟩
  · obtain ⟨ps, ⟨g0, t0, cs0, f0, p0, q0, hg0, ht0, hv0, hd0, _⟩, _, _⟩ := h2.tail.tail.tail
    obtain rfl := Option.some.inj (gVar.symm.trans hg0)
    obtain rfl := Option.some.inj (tVar.symm.trans ht0)
    have at_ : ∀ (i : Nat) (b : List UInt8), i < 4 → (match (Rows.laid_loop_example_g00930_impl_faultWords : DataW Unit) with | .agg ds => ds[i]? | _ => none) = some (.lit (.string b)) → W.cell? ⟨1, i, none⟩ = some (.string ⟨b.toArray⟩) := by
      intro i b hi hb
      have := strs_of Tryd.underlying107 Tryd.underlying9 (by kernel_rfl) (show DataW.trod _ Tryd.prog W 0 _ _ f0 107 cs0.toList = some (.agg _, p0) from hd0) hi hb
      rw [World.var?_cell hg0 hv0 i]
      simpa using this
    exact ⟨at_ 0 _ (by omega) rfl, at_ 1 _ (by omega) rfl, at_ 2 _ (by omega) rfl, at_ 3 _ (by omega) rfl⟩

theorem mid_i64 {z : Int} (h0 : -100000000 ≤ z) (h1 : z ≤ 100000000) : I64 z := by
  unfold I64
  simp [Lit.wf, IntKind.min, IntKind.max, IntKind.signed, IntKind.bits]
  omega
theorem digs_i64 {b : Int} {zs : List Int} (b1 : b ≤ 12) (h : DigsOf b zs) : All64 zs := fun z hz => by
  have := h z hz
  exact mid_i64 (by omega) (by omega)
theorem all2_lv {n k : Int} {fs : List (Int × Int)} (h : LvsTo n k fs) (hk : k ≤ 16) : All2 fs := fun x hx => by
  have := h.all x hx
  exact ⟨mid_i64 (by omega) (by omega), mid_i64 (by omega) (by omega)⟩
theorem rdF_none (w : World) (a : Option Addr) : RdF pairF w a [] := ⟨by simp, fun h => absurd rfl h⟩

set_option maxRecDepth 100000 in
set_option maxHeartbeats 8000000 in
theorem law_walk (xA : Option Addr) (xC : Nat) (xZ : List Int) (yA : Option Addr) (yC : Nat) (yZ : List Int) (w : World) (hx : RawU w xA xZ) (hy : RawU w yA yZ) (hD : Door w) :
    Calls Tryd.prog 11 #[.slice xA xZ.length xC, .slice yA yZ.length yC] w fun e w' => e = .returned (.bool true) ∧ Below w.heap.size w w' := by
  have hbel : Below w.heap.size w w := Below.refl _ _
  go_enter Tryd.func11, Tryd.ntmps11
  go_wp2_with fail
  refine (a2Long_any xA yA xZ.length yZ.length xC yC w).mono ?_
  rintro e w1 ⟨rfl, hq⟩
  subst w1
  by_cases hl : 3000 < xZ.length ∨ 3000 < yZ.length
  · rw [decide_eq_true hl]
    clear hl
    go_wp2
    go_ret
    exact ⟨rfl, hbel⟩
  · rw [decide_eq_false hl]
    replace hx := hx.rd (by omega)
    replace hy := hy.rd (by omega)
    clear hl
    go_wp2_with fail
    refine (a2Registers_any xA xZ xC w hx).mono ?_
    rintro e w1 ⟨b, xs, ys, A, C, D, E, rfl, dx, hly, dy, rx, ry, hb⟩
    clear hx
    replace hD := hD.below hb
    replace hy := hy.below hb
    replace hbel := hbel.trans (hb.mono hbel.size)
    clear hb
    have b0 := dx.b0
    have b1 := dx.b1
    have n0 := dx.n0
    have n1 := dx.n1
    have ib : I64 b := mid_i64 (by omega) (by omega)
    have x64 := digs_i64 b1 dx.digs
    have y64 := digs_i64 b1 dy
    obtain ⟨dZ, hadd⟩ := lv_add dx hly dy
    obtain ⟨hfr, hsf⟩ := lv_free dx hly dy
    rw [hadd] at hfr
    have HDX := Lib.hid (show DrawnR b xs 7 ∧ ys.length = xs.length ∧ DigsOf b ys from ⟨dx, hly, dy⟩)
    have hZn : (tab (sumD b xs ys) xs.length).length = xs.length := tab_len _ _
    have z64 := digs_i64 b1 dZ.digs
    have HAD := Lib.hid hadd
    clear hadd
    obtain ⟨Z, eZ⟩ : ∃ Z, Z = tab (sumD b xs ys) xs.length := ⟨_, rfl⟩
    obtain ⟨c, ec⟩ : ∃ c, c = cK b xs ys xs.length := ⟨_, rfl⟩
    obtain ⟨n, hn⟩ : ∃ n, n = xs.length := ⟨_, rfl⟩
    rw [← eZ, ← ec] at hfr
    rw [← eZ] at hZn z64
    have HAD : Hid (addR b xs b ys = (b, Z, c, 0)) := Lib.hid (by rw [eZ, ec]; exact HAD.out)
    have HFR := Lib.hid hfr
    have HSF := Lib.hid hsf
    have HXN := Lib.hid hn
    have HYN := Lib.hid (hly.trans hn.symm)
    have HZN := Lib.hid (hZn.trans hn.symm)
    have hn1 : 1 ≤ n ∧ n ≤ 7 := by omega
    rw [hly, ← hn]
    clear hn hly n0 n1 hfr hsf hZn eZ ec dx dy dZ b0
    go_upto_region 4 with fail
    obtain ⟨ga, hga⟩ : ∃ g, g = w1.heap.size := ⟨_, rfl⟩
    obtain ⟨v1, hv1⟩ : ∃ V, V = (w1.alloc (.cells #[.int .i64 b, .slice A n C] 47)).alloc (.cells #[.int .i64 b, .slice D n E] 47) := ⟨_, rfl⟩
    have b_ga : Bx v1 ga 47 #[.int .i64 b, .slice A n C] := by rw [hv1, hga]; exact (Bx.new _ _ _).alloc _
    have b_ga1 : Bx v1 (ga + 1) 47 #[.int .i64 b, .slice D n E] := by rw [hv1, hga]; simpa using Bx.new (w1.alloc (.cells #[.int .i64 b, .slice A n C] 47)) #[.int .i64 b, .slice D n E] 47
    have hb : Below w1.heap.size w1 v1 := by rw [hv1]; exact ((Below.refl _ _).alloc (Nat.le_refl _) _).alloc (by simp) _
    rw [← hga, ← hv1]
    clear hv1 hga
    replace hD := hD.below hb
    replace hy := hy.below hb
    replace rx := rx.below hb
    replace ry := ry.below hb
    replace hbel := hbel.trans (hb.mono hbel.size)
    clear hb
    have ca0 := b_ga.at_ 0 rfl
    have ca1 := b_ga.at_ 1 rfl
    have cb0 := b_ga1.at_ 0 rfl
    have cb1 := b_ga1.at_ 1 rfl
    go_wp2_with fail
    have hcon := specAddRegisters b A C xs b D E ys v1 rx x64 ib ry y64 ib
    rw [← HXN.out, HYN.out] at hcon
    refine hcon.mono ?_
    clear hcon
    rintro e w2 ⟨A3, C3, he, o3, hb⟩
    rw [HAD.out] at he o3
    replace he : e = .returned (.tuple #[.agg #[.int .i64 b, .slice A3 n C3], .int .i64 c, .int .i64 0]) := by rw [← HZN.out]; exact he
    subst he
    have r3 : Rd w2 A3 Z := o3.rd
    clear o3 ca0 ca1 cb0 cb1
    replace hD := hD.below hb
    replace hy := hy.below hb
    replace rx := rx.below hb
    replace ry := ry.below hb
    replace b_ga := b_ga.below hb
    replace b_ga1 := b_ga1.below hb
    replace hbel := hbel.trans (hb.mono hbel.size)
    clear hb
    have cga0 := b_ga.at_ 0 rfl
    have cga1 := b_ga.at_ 1 rfl
    have zga := b_ga.lt
    have cga10 := b_ga1.at_ 0 rfl
    have cga11 := b_ga1.at_ 1 rfl
    have zga1 := b_ga1.lt
    go_wp2_with fail
    clear cga0 cga1 zga cga10 cga11 zga1
    obtain ⟨gs, hgs⟩ : ∃ g, g = w2.heap.size := ⟨_, rfl⟩
    obtain ⟨v2, hv2⟩ : ∃ V, V = w2.alloc (.cells #[.int .i64 b, .slice A3 n C3] 47) := ⟨_, rfl⟩
    have b_gs : Bx v2 gs 47 #[.int .i64 b, .slice A3 n C3] := by rw [hv2, hgs]; exact Bx.new _ _ _
    have hb : Below w2.heap.size w2 v2 := by rw [hv2]; exact (Below.refl _ _).alloc (Nat.le_refl _) _
    rw [← hgs, ← hv2]
    clear hv2 hgs
    replace hD := hD.below hb
    replace hy := hy.below hb
    replace rx := rx.below hb
    replace ry := ry.below hb
    replace b_ga := b_ga.below hb
    replace b_ga1 := b_ga1.below hb
    replace r3 := r3.below hb
    replace hbel := hbel.trans (hb.mono hbel.size)
    clear hb
    obtain ⟨u2, hu2⟩ : ∃ u, u = v2.alloc (.cells #[] 53) := ⟨_, rfl⟩
    have hb : Below v2.heap.size v2 u2 := by rw [hu2]; exact (by repeat (first | exact Below.refl _ _ | refine Below.setCell ?_ (by first | omega | (simp <;> omega)) _ | refine Below.alloc ?_ (by first | omega | (simp <;> omega)) _ | refine Below.drew ?_))
    rw [← hu2]
    clear hu2
    replace hD := hD.below hb
    replace hy := hy.below hb
    replace rx := rx.below hb
    replace ry := ry.below hb
    replace b_ga := b_ga.below hb
    replace b_ga1 := b_ga1.below hb
    replace r3 := r3.below hb
    replace b_gs := b_gs.below hb
    replace hbel := hbel.trans (hb.mono hbel.size)
    clear hb
    have hcon := implAddWithFaults b A C xs b D E ys (some ⟨gs + 1, 0, none⟩) 0 [] u2 rx x64 ib ry y64 ib (rdF_none _ _) (fun x hx => by cases hx)
    rw [← HXN.out, HYN.out, List.length_nil] at hcon
    refine hcon.mono ?_
    clear hcon
    rintro e w3 ⟨A4, C4, he, o4, hb⟩
    rw [HFR.out] at he o4
    replace he : e = .returned (.tuple #[.agg #[.int .i64 b, .slice A4 n C4], .int .i64 c, .int .i64 0]) := by rw [← HZN.out]; exact he
    subst he
    have r4 : Rd w3 A4 Z := o4.rd
    clear o4
    replace hD := hD.below hb
    replace hy := hy.below hb
    replace rx := rx.below hb
    replace ry := ry.below hb
    replace b_ga := b_ga.below hb
    replace b_ga1 := b_ga1.below hb
    replace r3 := r3.below hb
    replace b_gs := b_gs.below hb
    replace hbel := hbel.trans (hb.mono hbel.size)
    clear hb
    have cgs0 := b_gs.at_ 0 rfl
    have cgs1 := b_gs.at_ 1 rfl
    have zgs := b_gs.lt
    go_wp2_with fail
    clear cgs0 cgs1 zgs
    obtain ⟨gx, hgx⟩ : ∃ g, g = w3.heap.size := ⟨_, rfl⟩
    obtain ⟨v3, hv3⟩ : ∃ V, V = w3.alloc (.cells #[.int .i64 b, .slice A4 n C4] 47) := ⟨_, rfl⟩
    have b_gx : Bx v3 gx 47 #[.int .i64 b, .slice A4 n C4] := by rw [hv3, hgx]; exact Bx.new _ _ _
    have hb : Below w3.heap.size w3 v3 := by rw [hv3]; exact (Below.refl _ _).alloc (Nat.le_refl _) _
    rw [← hgx, ← hv3]
    clear hv3 hgx
    replace hD := hD.below hb
    replace hy := hy.below hb
    replace rx := rx.below hb
    replace ry := ry.below hb
    replace b_ga := b_ga.below hb
    replace b_ga1 := b_ga1.below hb
    replace r3 := r3.below hb
    replace b_gs := b_gs.below hb
    replace r4 := r4.below hb
    replace hbel := hbel.trans (hb.mono hbel.size)
    clear hb
    have hcon := specSameRegister b A4 C4 Z b A3 C3 Z v3 r4 z64 ib r3 z64 ib
    rw [HZN.out, regEqB_self] at hcon
    refine hcon.mono ?_
    clear hcon
    rintro e w4 ⟨rfl, hb⟩
    clear r4 b_gx
    replace hD := hD.below hb
    replace hy := hy.below hb
    replace rx := rx.below hb
    replace ry := ry.below hb
    replace b_ga := b_ga.below hb
    replace b_ga1 := b_ga1.below hb
    replace r3 := r3.below hb
    replace b_gs := b_gs.below hb
    replace hbel := hbel.trans (hb.mono hbel.size)
    clear hb
    have cga0 := b_ga.at_ 0 rfl
    have cga1 := b_ga.at_ 1 rfl
    have zga := b_ga.lt
    have cga10 := b_ga1.at_ 0 rfl
    have cga11 := b_ga1.at_ 1 rfl
    have zga1 := b_ga1.lt
    go_wp2_with fail
    clear cga0 cga1 zga cga10 cga11 zga1
    obtain ⟨u4, hu4⟩ : ∃ u, u = w4.alloc (.cells #[] 53) := ⟨_, rfl⟩
    have hb : Below w4.heap.size w4 u4 := by rw [hu4]; exact (by repeat (first | exact Below.refl _ _ | refine Below.setCell ?_ (by first | omega | (simp <;> omega)) _ | refine Below.alloc ?_ (by first | omega | (simp <;> omega)) _ | refine Below.drew ?_))
    have hcon := implShowsFaults b A C xs b D E ys (some ⟨w4.heap.size, 0, none⟩) 0 [] (w4.alloc (.cells #[] 53)) (rx.below (by rw [← hu4]; exact hb)) x64 ib (ry.below (by rw [← hu4]; exact hb)) y64 ib (rdF_none _ _) (fun x hx => by cases hx)
    rw [← HXN.out, HYN.out, List.length_nil] at hcon
    rw [← hu4] at hcon ⊢
    clear hu4
    replace hD := hD.below hb
    replace hy := hy.below hb
    replace rx := rx.below hb
    replace ry := ry.below hb
    replace b_ga := b_ga.below hb
    replace b_ga1 := b_ga1.below hb
    replace r3 := r3.below hb
    replace b_gs := b_gs.below hb
    replace hbel := hbel.trans (hb.mono hbel.size)
    clear hb
    refine hcon.mono ?_
    clear hcon
    rintro e w5 ⟨he, hb⟩
    rw [HSF.out] at he
    subst he
    replace hD := hD.below hb
    replace hy := hy.below hb
    replace rx := rx.below hb
    replace ry := ry.below hb
    replace b_ga := b_ga.below hb
    replace b_ga1 := b_ga1.below hb
    replace r3 := r3.below hb
    replace b_gs := b_gs.below hb
    replace hbel := hbel.trans (hb.mono hbel.size)
    clear hb
    have cga0 := b_ga.at_ 0 rfl
    have cga1 := b_ga.at_ 1 rfl
    have zga := b_ga.lt
    go_wp2_with fail
    clear cga0 cga1 zga
    refine (a2Faults_any yA yZ yC n w5 hy (by omega)).mono ?_
    rintro e w6 ⟨fs, F, G, rfl, hlv, of, hb⟩
    clear hy
    have rf : RdF pairF w6 F fs := of.rd
    clear of
    replace hD := hD.below hb
    replace rx := rx.below hb
    replace ry := ry.below hb
    replace b_ga := b_ga.below hb
    replace b_ga1 := b_ga1.below hb
    replace r3 := r3.below hb
    replace b_gs := b_gs.below hb
    replace hbel := hbel.trans (hb.mono hbel.size)
    clear hb
    obtain ⟨dK, hawf⟩ := lv_awf HDX.out.1 HDX.out.2.1 HDX.out.2.2 (fs := fs) (by rw [← HXN.out]; exact hlv)
    have hKn : (tab (levD b xs ys (kds fs)) xs.length).length = xs.length := tab_len _ _
    have hsh := lv_shows hawf HAD.out
    have hvf := faults_wide (by omega) (by omega) hlv
    have k64 := digs_i64 b1 dK.digs
    have f64 := all2_lv hlv (by omega)
    obtain ⟨K, eK⟩ : ∃ K, K = tab (levD b xs ys (kds fs)) xs.length := ⟨_, rfl⟩
    obtain ⟨d, ed⟩ : ∃ d, d = lcK b xs ys (kds fs) xs.length := ⟨_, rfl⟩
    rw [← eK, ← ed] at hawf hsh
    rw [← eK] at hKn k64
    have HWF := Lib.hid hawf
    have HSH := Lib.hid hsh
    have HVF := Lib.hid hvf
    have HKN := Lib.hid (hKn.trans HXN.out.symm)
    have HLV := Lib.hid hlv
    clear hawf hsh hvf hKn dK eK ed hlv
    have cga0 := b_ga.at_ 0 rfl
    have cga1 := b_ga.at_ 1 rfl
    have zga := b_ga.lt
    have cga10 := b_ga1.at_ 0 rfl
    have cga11 := b_ga1.at_ 1 rfl
    have zga1 := b_ga1.lt
    go_wp2_with fail
    clear cga0 cga1 zga cga10 cga11 zga1
    have hcon := implAddWithFaults b A C xs b D E ys F G fs w6 rx x64 ib ry y64 ib rf f64
    rw [← HXN.out, HYN.out] at hcon
    refine hcon.mono ?_
    clear hcon
    rintro e w7 ⟨A6, C6, he, o6, hb⟩
    rw [HWF.out] at he o6
    replace he : e = .returned (.tuple #[.agg #[.int .i64 b, .slice A6 n C6], .int .i64 d, .int .i64 0]) := by rw [← HKN.out]; exact he
    subst he
    have r6 : Rd w7 A6 K := o6.rd
    clear o6
    replace hD := hD.below hb
    replace rx := rx.below hb
    replace ry := ry.below hb
    replace b_ga := b_ga.below hb
    replace b_ga1 := b_ga1.below hb
    replace r3 := r3.below hb
    replace b_gs := b_gs.below hb
    replace rf := rf.below hb
    replace hbel := hbel.trans (hb.mono hbel.size)
    clear hb
    go_upto_region 10 with fail
    obtain ⟨gy, hgy⟩ : ∃ g, g = w7.heap.size := ⟨_, rfl⟩
    obtain ⟨v7, hv7⟩ : ∃ V, V = w7.alloc (.cells #[.int .i64 b, .slice A6 n C6] 47) := ⟨_, rfl⟩
    have b_gy : Bx v7 gy 47 #[.int .i64 b, .slice A6 n C6] := by rw [hv7, hgy]; exact Bx.new _ _ _
    have hb : Below w7.heap.size w7 v7 := by rw [hv7]; exact (Below.refl _ _).alloc (Nat.le_refl _) _
    rw [← hgy, ← hv7]
    clear hv7 hgy
    replace hD := hD.below hb
    replace rx := rx.below hb
    replace ry := ry.below hb
    replace b_ga := b_ga.below hb
    replace b_ga1 := b_ga1.below hb
    replace r3 := r3.below hb
    replace b_gs := b_gs.below hb
    replace rf := rf.below hb
    replace r6 := r6.below hb
    replace hbel := hbel.trans (hb.mono hbel.size)
    clear hb
    have i_n : I64 (n : Int) := mid_i64 (by omega) (by omega)
    have HV : ∀ v, Below v7.heap.size v7 v → Calls Tryd.prog 58 #[.int .i64 (n : Nat), .slice F fs.length G] v fun e w' => e = .returned (.bool true) ∧ Below v.heap.size v w' := fun v k => implValidFaults_at (n : Int) F G fs v HVF.out i_n (rf.below k) f64
    have HS : ∀ v, Below v7.heap.size v7 v → Calls Tryd.prog 56 #[.agg #[.int .i64 b, .slice A n C], .agg #[.int .i64 b, .slice D n E], .slice F fs.length G] v fun e w' => e = .returned (.bool (!(regEqB b b K Z && decide (d = c)))) ∧ Below v.heap.size v w' := fun v k => by
      have h := implShowsFaults b A C xs b D E ys F G fs v (rx.below k) x64 ib (ry.below k) y64 ib (rf.below k) f64
      rw [← HXN.out, HYN.out, HSH.out] at h
      exact h
    have HQ : ∀ v, Below v7.heap.size v7 v → Calls Tryd.prog 46 #[.agg #[.int .i64 b, .slice A6 n C6], .agg #[.int .i64 b, .slice A3 n C3]] v fun e w' => e = .returned (.bool (regEqB b b K Z)) ∧ Below v.heap.size v w' := fun v k => by
      have h := specSameRegister b A6 C6 K b A3 C3 Z v (r6.below k) k64 ib (r3.below k) z64 ib
      rw [HZN.out, HKN.out] at h
      exact h
    go_cut [99] from 75 (fun s99 wx => s99 = .bool false ∧ Below v7.heap.size v7 wx)
    case first =>
      have rga0 := kept_all (b_ga.at_ 0 rfl)
      have rga1 := kept_all (b_ga.at_ 1 rfl)
      have rgb0 := kept_all (b_ga1.at_ 0 rfl)
      have rgb1 := kept_all (b_ga1.at_ 1 rfl)
      have rgs0 := kept_all (b_gs.at_ 0 rfl)
      have rgs1 := kept_all (b_gs.at_ 1 rfl)
      have rgy0 := kept_all (b_gy.at_ 0 rfl)
      have rgy1 := kept_all (b_gy.at_ 1 rfl)
      clear hD rx ry r3 r6 rf b_ga b_ga1 b_gs b_gy hbel HWF HSH HVF HKN HLV HAD HFR HSF HXN HYN HZN HDX
      generalize regEqB b b K Z = B at HS HQ
      cases B with
      | false =>
        rw [Bool.false_and, Bool.not_false] at HS
        refine wp_region_marked (fun w' => Below v7.heap.size v7 w') 24 (by kernel_rfl) ?_
        have hS : Below v7.heap.size v7 v7.drew := (Below.refl _ _).drew
        refine wpAnyM_takeC (i := 0) (v := ?_) 25 rfl (by kernel_rfl) (by kernel_rfl) (by kernel_rfl) (by kernel_rfl) (by kernel_rfl) (by kernel_rfl) (fun _ _ _ h => h) hS (.inl ⟨by rfl, ?_⟩) ?_
        rotate_left 1
        · intro w' hS'; go_simp; try with_reducible rfl
        simp only [Act.put, List.setIfInBounds_toArray, List.set_cons_succ, List.set_cons_zero, List.getElem_toArray, List.getElem_cons_zero]
        refine wpAnyM_takeC (i := 1) (v := ?_) 25 rfl (by kernel_rfl) (by kernel_rfl) (by kernel_rfl) (by kernel_rfl) (by kernel_rfl) (by kernel_rfl) (fun _ _ _ h => h) hS (.inl ⟨by rfl, ?_⟩) ?_
        rotate_left 1
        · intro w' hS'; go_simp; try with_reducible rfl
        simp only [Act.put, List.setIfInBounds_toArray, List.set_cons_succ, List.set_cons_zero, List.getElem_toArray, List.getElem_cons_succ, List.getElem_cons_zero]
        refine wpAnyM_takeC (i := 2) (v := ?_) 25 rfl (by kernel_rfl) (by kernel_rfl) (by kernel_rfl) (by kernel_rfl) (by kernel_rfl) (by kernel_rfl) (fun _ _ _ h => h) hS (.inl ⟨by rfl, ?_⟩) ?_
        rotate_left 1
        · intro w' hS'; go_simp; try with_reducible rfl
        simp only [Act.put, List.setIfInBounds_toArray, List.set_cons_succ, List.set_cons_zero, List.getElem_toArray, List.getElem_cons_succ, List.getElem_cons_zero]
        refine wpAnyM_takeC (i := 3) (v := ?_) 25 rfl (by kernel_rfl) (by kernel_rfl) (by kernel_rfl) (by kernel_rfl) (by kernel_rfl) (by kernel_rfl) (fun _ _ _ h => h) hS (.inl ⟨by rfl, ?_⟩) ?_
        rotate_left 1
        · intro w' hS'; go_simp; try with_reducible rfl
        simp only [Act.put, List.setIfInBounds_toArray, List.set_cons_succ, List.set_cons_zero, List.getElem_toArray, List.getElem_cons_succ, List.getElem_cons_zero]
        refine wpAnyM_takeC (i := 4) (v := ?_) 25 rfl (by kernel_rfl) (by kernel_rfl) (by kernel_rfl) (by kernel_rfl) (by kernel_rfl) (by kernel_rfl) (fun _ _ _ h => h) hS (.inl ⟨by rfl, ?_⟩) ?_
        rotate_left 1
        · intro w' hS'; go_simp; try with_reducible rfl
        simp only [Act.put, List.setIfInBounds_toArray, List.set_cons_succ, List.set_cons_zero, List.getElem_toArray, List.getElem_cons_succ, List.getElem_cons_zero]
        refine wpAnyM_takeC (i := 5) (v := ?_) 25 rfl (by kernel_rfl) (by kernel_rfl) (by kernel_rfl) (by kernel_rfl) (by kernel_rfl) (by kernel_rfl) (fun _ _ _ h => h) hS (.inl ⟨by rfl, ?_⟩) ?_
        rotate_left 1
        · intro w' hS'; go_simp; try with_reducible rfl
        simp only [Act.put, List.setIfInBounds_toArray, List.set_cons_succ, List.set_cons_zero, List.getElem_toArray, List.getElem_cons_succ, List.getElem_cons_zero]
        refine wpAnyM_takeC (i := 6) (v := ?_) 25 rfl (by kernel_rfl) (by kernel_rfl) (by kernel_rfl) (by kernel_rfl) (by kernel_rfl) (by kernel_rfl) (fun _ _ _ h => h) hS (.inl ⟨by rfl, ?_⟩) ?_
        rotate_left 1
        · intro w' hS'; go_simp; try with_reducible rfl
        simp only [Act.put, List.setIfInBounds_toArray, List.set_cons_succ, List.set_cons_zero, List.getElem_toArray, List.getElem_cons_succ, List.getElem_cons_zero]
        refine wpAnyM_one (i := 7) (by kernel_rfl) rfl (by rfl) (fun K hK => ?_)
        go_simp
        refine (HV v7.drew hS).mono ?_
        rintro e w8 ⟨rfl, hb⟩
        have h1 := hS.trans (hb.mono hS.size)
        clear hb
        refine hK _ _ (.inr h1) ?_
        try simp only [Act.put, List.setIfInBounds_toArray, List.set_cons_succ, List.set_cons_zero, List.getElem_toArray, List.getElem_cons_succ, List.getElem_cons_zero]
        clear hK K
        refine wpAnyM_takeC (i := 8) (v := ?_) 25 rfl (by kernel_rfl) (by kernel_rfl) (by kernel_rfl) (by kernel_rfl) (by kernel_rfl) (by kernel_rfl) (fun _ _ _ h => h) h1 (.inl ⟨by rfl, ?_⟩) ?_
        rotate_left 1
        · intro w' hS'; go_simp; try with_reducible rfl
        simp only [Act.put, List.setIfInBounds_toArray, List.set_cons_succ, List.set_cons_zero, List.getElem_toArray, List.getElem_cons_succ, List.getElem_cons_zero]
        refine wpAnyM_takeC (i := 9) (v := ?_) 25 rfl (by kernel_rfl) (by kernel_rfl) (by kernel_rfl) (by kernel_rfl) (by kernel_rfl) (by kernel_rfl) (fun _ _ _ h => h) h1 (.inl ⟨by rfl, ?_⟩) ?_
        rotate_left 1
        · intro w' hS'; go_simp; try with_reducible rfl
        simp only [Act.put, List.setIfInBounds_toArray, List.set_cons_succ, List.set_cons_zero, List.getElem_toArray, List.getElem_cons_succ, List.getElem_cons_zero]
        refine wpAnyM_takeC (i := 10) (v := ?_) 25 rfl (by kernel_rfl) (by kernel_rfl) (by kernel_rfl) (by kernel_rfl) (by kernel_rfl) (by kernel_rfl) (fun _ _ _ h => h) h1 (.inl ⟨by rfl, ?_⟩) ?_
        rotate_left 1
        · intro w' hS'; go_simp; try with_reducible rfl
        simp only [Act.put, List.setIfInBounds_toArray, List.set_cons_succ, List.set_cons_zero, List.getElem_toArray, List.getElem_cons_succ, List.getElem_cons_zero]
        refine wpAnyM_takeC (i := 11) (v := ?_) 25 rfl (by kernel_rfl) (by kernel_rfl) (by kernel_rfl) (by kernel_rfl) (by kernel_rfl) (by kernel_rfl) (fun _ _ _ h => h) h1 (.inl ⟨by rfl, ?_⟩) ?_
        rotate_left 1
        · intro w' hS'; go_simp; try with_reducible rfl
        simp only [Act.put, List.setIfInBounds_toArray, List.set_cons_succ, List.set_cons_zero, List.getElem_toArray, List.getElem_cons_succ, List.getElem_cons_zero]
        refine wpAnyM_takeC (i := 12) (v := ?_) 25 rfl (by kernel_rfl) (by kernel_rfl) (by kernel_rfl) (by kernel_rfl) (by kernel_rfl) (by kernel_rfl) (fun _ _ _ h => h) h1 (.inl ⟨by rfl, ?_⟩) ?_
        rotate_left 1
        · intro w' hS'; go_simp; try with_reducible rfl
        simp only [Act.put, List.setIfInBounds_toArray, List.set_cons_succ, List.set_cons_zero, List.getElem_toArray, List.getElem_cons_succ, List.getElem_cons_zero]
        refine wpAnyM_takeC (i := 13) (v := ?_) 25 rfl (by kernel_rfl) (by kernel_rfl) (by kernel_rfl) (by kernel_rfl) (by kernel_rfl) (by kernel_rfl) (fun _ _ _ h => h) h1 (.inl ⟨by rfl, ?_⟩) ?_
        rotate_left 1
        · intro w' hS'; go_simp; try with_reducible rfl
        simp only [Act.put, List.setIfInBounds_toArray, List.set_cons_succ, List.set_cons_zero, List.getElem_toArray, List.getElem_cons_succ, List.getElem_cons_zero]
        refine wpAnyM_takeC (i := 15) (v := ?_) 25 rfl (by kernel_rfl) (by kernel_rfl) (by kernel_rfl) (by kernel_rfl) (by kernel_rfl) (by kernel_rfl) (fun _ _ _ h => h) h1 (.inl ⟨by rfl, ?_⟩) ?_
        rotate_left 1
        · intro w' hS'; go_simp; try with_reducible rfl
        simp only [Act.put, List.setIfInBounds_toArray, List.set_cons_succ, List.set_cons_zero, List.getElem_toArray, List.getElem_cons_succ, List.getElem_cons_zero]
        refine wpAnyM_takeC (i := 16) (v := ?_) 25 rfl (by kernel_rfl) (by kernel_rfl) (by kernel_rfl) (by kernel_rfl) (by kernel_rfl) (by kernel_rfl) (fun _ _ _ h => h) h1 (.inl ⟨by rfl, ?_⟩) ?_
        rotate_left 1
        · intro w' hS'; go_simp; try with_reducible rfl
        simp only [Act.put, List.setIfInBounds_toArray, List.set_cons_succ, List.set_cons_zero, List.getElem_toArray, List.getElem_cons_succ, List.getElem_cons_zero]
        refine wpAnyM_one (i := 14) (by kernel_rfl) rfl (by rfl) (fun K hK => ?_)
        go_simp
        refine (HS w8 h1).mono ?_
        rintro e w9 ⟨rfl, hb⟩
        have h2 := h1.trans (hb.mono h1.size)
        clear hb
        refine hK _ _ (.inr h2) ?_
        try simp only [Act.put, List.setIfInBounds_toArray, List.set_cons_succ, List.set_cons_zero, List.getElem_toArray, List.getElem_cons_succ, List.getElem_cons_zero]
        clear hK K
        refine wpAnyM_one (i := 17) (by kernel_rfl) rfl (by rfl) (fun K hK => ?_)
        go_simp
        refine (HQ w9 h2).mono ?_
        rintro e w10 ⟨rfl, hb⟩
        have h3 := h2.trans (hb.mono h2.size)
        clear hb
        refine hK _ _ (.inr h3) ?_
        try simp only [Act.put, List.setIfInBounds_toArray, List.set_cons_succ, List.set_cons_zero, List.getElem_toArray, List.getElem_cons_succ, List.getElem_cons_zero]
        clear hK K
        refine wpAnyM_takeC (i := 18) (v := ?_) 25 rfl (by kernel_rfl) (by kernel_rfl) (by kernel_rfl) (by kernel_rfl) (by kernel_rfl) (by kernel_rfl) (fun _ _ _ h => h) h3 (.inl ⟨by rfl, ?_⟩) ?_
        rotate_left 1
        · intro w' hS'; go_simp; try with_reducible rfl
        simp only [Act.put, List.setIfInBounds_toArray, List.set_cons_succ, List.set_cons_zero, List.getElem_toArray, List.getElem_cons_succ, List.getElem_cons_zero]
        refine wpAnyM_takeC (i := 19) (v := undef) 25 rfl (by kernel_rfl) (by kernel_rfl) (by kernel_rfl) (by kernel_rfl) (by kernel_rfl) (by kernel_rfl) (fun _ _ _ h => h) h3 (.inr ⟨by rfl, rfl⟩) ?_
        simp only [Act.put, List.setIfInBounds_toArray, List.set_cons_succ, List.set_cons_zero, List.getElem_toArray, List.getElem_cons_succ, List.getElem_cons_zero]
        refine wpAnyM_takeC (i := 20) (v := undef) 25 rfl (by kernel_rfl) (by kernel_rfl) (by kernel_rfl) (by kernel_rfl) (by kernel_rfl) (by kernel_rfl) (fun _ _ _ h => h) h3 (.inr ⟨by rfl, rfl⟩) ?_
        simp only [Act.put, List.setIfInBounds_toArray, List.set_cons_succ, List.set_cons_zero, List.getElem_toArray, List.getElem_cons_succ, List.getElem_cons_zero]
        refine wpAnyM_takeC (i := 21) (v := undef) 25 rfl (by kernel_rfl) (by kernel_rfl) (by kernel_rfl) (by kernel_rfl) (by kernel_rfl) (by kernel_rfl) (fun _ _ _ h => h) h3 (.inr ⟨by rfl, rfl⟩) ?_
        simp only [Act.put, List.setIfInBounds_toArray, List.set_cons_succ, List.set_cons_zero, List.getElem_toArray, List.getElem_cons_succ, List.getElem_cons_zero]
        refine wpAnyM_takeC (i := 22) (v := ?_) 25 rfl (by kernel_rfl) (by kernel_rfl) (by kernel_rfl) (by kernel_rfl) (by kernel_rfl) (by kernel_rfl) (fun _ _ _ h => h) h3 (.inl ⟨by rfl, ?_⟩) ?_
        rotate_left 1
        · intro w' hS'; go_simp; try with_reducible rfl
        simp only [Act.put, List.setIfInBounds_toArray, List.set_cons_succ, List.set_cons_zero, List.getElem_toArray, List.getElem_cons_succ, List.getElem_cons_zero]
        refine wpAnyM_takeC (i := 23) (v := ?_) 25 rfl (by kernel_rfl) (by kernel_rfl) (by kernel_rfl) (by kernel_rfl) (by kernel_rfl) (by kernel_rfl) (fun _ _ _ h => h) h3 (.inl ⟨by rfl, ?_⟩) ?_
        rotate_left 1
        · intro w' hS'; go_simp; try with_reducible rfl
        simp only [Act.put, List.setIfInBounds_toArray, List.set_cons_succ, List.set_cons_zero, List.getElem_toArray, List.getElem_cons_succ, List.getElem_cons_zero]
        refine wpAnyM_one (i := 24) (by kernel_rfl) rfl (by rfl) (fun K hK => ?_)
        go_simp
        refine hK _ _ (.inl rfl) ?_
        try simp only [Act.put, List.setIfInBounds_toArray, List.set_cons_succ, List.set_cons_zero, List.getElem_toArray, List.getElem_cons_succ, List.getElem_cons_zero]
        clear hK K
        refine wpAnyM_done (by kernel_rfl) ?_ _
        go_wp2_with fail
        go_meet
        case rel => exact ⟨rfl, h3⟩
      | true =>
        by_cases hdc : d = c
        · rw [decide_eq_true hdc, Bool.true_and, Bool.not_true] at HS
          subst hdc
          go_region_held3 (fun w' => Below v7.heap.size v7 w') (first | exact hk | exact (Below.refl _ _).drew)
            (first | (go_at_call 58; have qB := ‹Below v7.heap.size v7 _›; refine (HV _ qB).mono ?_; rintro e w8 ⟨rfl, hb⟩; have hk := qB.trans (hb.mono qB.size)) | (go_at_call 56; have qB := ‹Below v7.heap.size v7 _›; refine (HS _ qB).mono ?_; rintro e w9 ⟨rfl, hb⟩; have hk := qB.trans (hb.mono qB.size)) | (go_at_call 46; have qB := ‹Below v7.heap.size v7 _›; refine (HQ _ qB).mono ?_; rintro e w10 ⟨rfl, hb⟩; have hk := qB.trans (hb.mono qB.size)))
          go_wp2_with fail
          go_meet
          case rel => exact ⟨rfl, by assumption⟩
        · rw [decide_eq_false hdc, Bool.true_and, Bool.not_false] at HS
          have hd1 := decide_eq_false hdc
          have hd2 : (d == c) = false := by simp [hdc]
          go_region_held3 (fun w' => Below v7.heap.size v7 w') (first | exact hk | exact (Below.refl _ _).drew)
            (first | (go_at_call 58; have qB := ‹Below v7.heap.size v7 _›; refine (HV _ qB).mono ?_; rintro e w8 ⟨rfl, hb⟩; have hk := qB.trans (hb.mono qB.size)) | (go_at_call 56; have qB := ‹Below v7.heap.size v7 _›; refine (HS _ qB).mono ?_; rintro e w9 ⟨rfl, hb⟩; have hk := qB.trans (hb.mono qB.size)) | (go_at_call 46; have qB := ‹Below v7.heap.size v7 _›; refine (HQ _ qB).mono ?_; rintro e w10 ⟨rfl, hb⟩; have hk := qB.trans (hb.mono qB.size)))
          go_wp2_with fail
          go_meet
          case rel => exact ⟨rfl, by assumption⟩
    case rest =>
      obtain ⟨rfl, hb⟩ := hcut
      clear HV HS HQ i_n HWF HSH HVF HKN HAD HFR HSF HXN HYN HZN HDX
      clear rx ry r3 r6 b_ga b_ga1 b_gs b_gy
      replace hD := hD.below hb
      replace rf := rf.below hb
      replace hbel := hbel.trans (hb.mono hbel.size)
      clear hb
      go_wp2_with fail
      go_loopw [17, 18, 19] (fun i _ _ wr => ∃ j : Nat, j ≤ fs.length ∧ i = .int .i64 (j : Nat) ∧ Below wc.heap.size wc wr) (fun i _ _ _ => fs.length - (intOf i).toNat)
      case atStart => exact ⟨0, Nat.zero_le _, rfl, Below.refl _ _⟩
      case round =>
        obtain ⟨j, hj, rfl, hbj⟩ := hrel
        by_cases hlt : j < fs.length
        · have hx := HLV.out.all _ (elt_mem (F := pairF) hlt)
          obtain ⟨hback, hsz⟩ := ft_back hx.1 (by omega)
          have HBK := Lib.hid hback
          have hfl := rf.len
          have hx2 := f64 _ (elt_mem (F := pairF) hlt)
          have rfj := rf.below hbj
          have hDj := hD.below hbj
          obtain ⟨fb, off, hF, p0, p1⟩ := rfj.at2 hlt
          subst hF
          clear hback hx
          go_wp2_with fail
          refine (implFaultText (elt pairF fs j) _ hx2 ⟨hDj.rd.tab, hDj.words⟩).mono ?_
          rintro e w11 ⟨rfl, hb1⟩
          replace hDj := hDj.below hb1
          replace p0 := kept hb1 p0
          replace p1 := kept hb1 p1
          replace hbj := hbj.trans (hb1.mono hbj.size)
          clear hb1
          go_wp2_with fail
          refine (implReadFault (ftV (elt pairF fs j)) w11 hsz hDj).mono ?_
          rintro e w12 ⟨he, hb1⟩
          rw [HBK.out] at he
          subst he
          replace p0 := kept hb1 p0
          replace p1 := kept hb1 p1
          replace hbj := hbj.trans (hb1.mono hbj.size)
          clear hb1 hDj rfj
          go_upto_region 16 with fail
          obtain ⟨q, hq⟩ : ∃ q, q = w12.heap.size := ⟨_, rfl⟩
          obtain ⟨v12, hv⟩ : ∃ v, v = w12.alloc (.cells #[.int .i64 (elt pairF fs j).1, .int .i64 (elt pairF fs j).2] 53) := ⟨_, rfl⟩
          have bf : Bx v12 q 53 #[.int .i64 (elt pairF fs j).1, .int .i64 (elt pairF fs j).2] := by rw [hv, hq]; exact Bx.new _ _ _
          have hb1 : Below w12.heap.size w12 v12 := by rw [hv]; exact (by repeat (first | exact Below.refl _ _ | refine Below.setCell ?_ (by first | omega | (simp <;> omega)) _ | refine Below.alloc ?_ (by first | omega | (simp <;> omega)) _ | refine Below.drew ?_))
          rw [← hq, ← hv]
          clear hq hv
          replace p0 := kept hb1 p0
          replace p1 := kept hb1 p1
          replace hbj := hbj.trans (hb1.mono hbj.size)
          have c0 := bf.at_ 0 rfl
          have c1 := bf.at_ 1 rfl
          clear hb1 bf
          go_quiet (fail)
          go_wp2_with fail
          go_roundw
          case rel => exact ⟨j + 1, by omega, by go_num, bel_drewN hbj _⟩
          case measure => (simp [intOf]) <;> omega
        · obtain rfl : j = fs.length := by omega
          go_wp2_with fail
          go_ret
          exact ⟨rfl, hbel.trans (hbj.mono hbel.size)⟩

/-- The door's own heap meets the condition: closed facts. -/
theorem door_met (os : Os) (args : Array Value) : laidMetH Tryd.prog Rows.fnLeversRow.laid ((World.doorLaid Tryd.prog 400 os).forCall (fun _ _ => 0) ⟨#[], args, []⟩).memory :=
  laidMetH_of_parts3 (fuel := 8) (laidMet_of_run' 8 (by kernel_rfl) (by kernel_rfl)) (by kernel_rfl) (by kernel_rfl)

set_option maxRecDepth 100000 in
theorem lifted (os : Os) (started : os.Started) (H : Type) (enc : TypeId × Value → H) :
    ReturnsInHanded {} Tryd.checked os 11 .any (fun w args => (Rows.fnLeversSpec.pre enc Tryd.prog Tryd.f11 [] false w args ∧ laidMetH Tryd.prog Rows.fnLeversRow.laid w) ∧ sizedMet enc Tryd.prog Tryd.f11 (OpenSpec.ofChange Rows.fnLeversSpec) false w args)
      (Rows.fnLeversSpec.post enc Tryd.prog Tryd.f11 false true false false) := by
  refine handed_laid_shaped (C := Tryd.checked) (laid := Rows.fnLeversRow.laid) own_knob started (by kernel_rfl) Tryd.func11
    (ChangeSpec.witness_shaped (enc := enc) (C := Tryd.checked) (os := os) (X := fun w _ => laidMetH Tryd.prog Rows.fnLeversRow.laid w) false (World.doorLaid Tryd.prog 400 os) #[.slice none 0 0, .slice none 0 0] 8 rfl (World.shaped_of_RefB (by kernel_rfl) (by kernel_rfl)) (by kernel_rfl) (by kernel_rfl) (by kernel_rfl) (door_met os _)) ?_
  intro W base args ds gs before hval0 hW hL hSh
  have hval : ∀ (j : Nat) t v, Tryd.f11.params[j]? = some t → args[j]? = some v → Value.okWide Tryd.prog W .any base t v := hval0
  have hW' := hW
  obtain ⟨p, q, hA0, hV0, rfl, hfz, hnd⟩ := hW
  have hA : DataW.TrodAll enc Tryd.prog W 0 (fun _ => true) true Tryd.f11.params.toList args.toList ds p := hA0
  have hV : DataW.TrodVars enc Tryd.prog W (fun _ => true) ["loop.example/g00930/impl.faultWords"] gs q := hV0
  rw [Tryd.params11] at hA hval
  obtain ⟨v0, vs0, d0, ds0, p0, q0, hargs, rfl, rfl, h0, r0⟩ := trodAll_cons hA
  obtain ⟨v1, vs1, d1, ds1, p1, q1, rfl, rfl, rfl, h1, r1⟩ := trodAll_cons r0
  obtain ⟨rfl, rfl, rfl⟩ := trodAll_nil r1
  obtain rfl : args = #[v0, v1] := by cases args; simp_all
  have k0 := h0
  have lt0 : ∀ x ∈ p0, x.block < W.heap.size := by obtain ⟨m, hm⟩ := k0; exact DataW.trod_lt m _ _ _ hm
  obtain ⟨xA, xC, xZ, rfl, hx⟩ := open_Bytes (hval 0 57 v0 rfl rfl) h0
  have k1 := h1
  have lt1 : ∀ x ∈ p1, x.block < W.heap.size := by obtain ⟨m, hm⟩ := k1; exact DataW.trod_lt m _ _ _ hm
  obtain ⟨yA, yC, yZ, rfl, hy⟩ := open_Bytes (hval 1 57 v1 rfl rfl) h1
  have hD := of_laid hL hSh
  clear hA0 hval0
  obtain ⟨gd, rfl⟩ : ∃ gd, gs = [gd] := by
    obtain ⟨_, _, _, _, d, _, h, _⟩ := trodVars_one hV
    exact ⟨d, h⟩
  refine (law_walk xA xC xZ yA yC yZ W hx hy hD).mono fun e W' ⟨he, bel⟩ => ?_
  subst he
  obtain ⟨q', hq'⟩ := var_stays gVar tVar (by kernel_rfl) (of_decide_eq_true (by kernel_rfl)) hV bel
  exact ⟨_, rfl, _, _, _, [], _, q', hW', trodAll_mk1 (shut_bool Tryd.underlying4 _), (trodAll_cons_mk (Below.trod laid_out (by kernel_rfl) (of_decide_eq_true (by kernel_rfl)) k0 bel lt0) (trodAll_cons_mk (Below.trod laid_out (by kernel_rfl) (of_decide_eq_true (by kernel_rfl)) k1 bel lt1) trodAll_mk0)), hq', bel.frame _, fun h => by cases h⟩

set_option maxHeartbeats 20000000 in
theorem closed : joinedFacts Tryd.prog 11 Tryd.f11 Rows.fnLeversSpec Rows.fnLeversRow = true := by
  simp only [joinedFacts, Bool.and_eq_true]
  refine ⟨⟨⟨⟨⟨⟨⟨⟨⟨⟨⟨⟨⟨⟨⟨⟨⟨⟨⟨⟨⟨⟨⟨⟨⟨⟨⟨⟨⟨⟨⟨?_, laid_out⟩, fact_maps⟩, ?_⟩, ?_⟩, ?_⟩, fact_stops⟩, ?_⟩, fact_knobs⟩, ?_⟩, ?_⟩, ?_⟩, ?_⟩, ?_⟩, ?_⟩, ?_⟩, ?_⟩, ?_⟩, ?_⟩, ?_⟩, ?_⟩, ?_⟩, fact_plain⟩, ?_⟩, fact_heard⟩, fact_enter⟩, fact_lift⟩, ?_⟩, ?_⟩, ?_⟩, ?_⟩, ?_⟩
  all_goals (as_aux_lemma => kernel_rfl)

theorem over : Rows.FnLeversSaid :=
  OpenClaim.holds_of_wide 11 Tryd.f11 rfl rfl rfl rfl rfl rfl rfl ⟨rfl, rfl, rfl, rfl, rfl⟩ rfl rfl rfl rfl rfl (by as_aux_lemma => kernel_rfl) Tryd.func11 closed
    (of_decide_eq_true (by as_aux_lemma => kernel_rfl)) (by unfold Func.isWrapper; first | (rw [if_pos (by decide +kernel)]; kernel_rfl) | (rw [if_neg (by decide +kernel)]; exact ⟨rfl, rfl⟩))
    (fun os started H enc _ => lifted os started H enc)

/-- The statement: the tied card. -/
theorem proved : Rows.FnLeversCardSaid :=
  Claim7.holds_tied_plain_at .later [] [.data, .data, .data, .sentinel, .sentinel, .data] true (true, "6075a7d7f41d0bf6fa5891e1ddca2dba93e09eafc9bda3e018996d44eb929edf") true
    over (fun _ h => by cases h) (by kernel_rfl) (fun _ h => by cases h) fnLevers_row_tie rfl ⟨rfl, rfl⟩ (by kernel_rfl) rfl
    (fun f fn hf hfn => by
      obtain rfl : f = 11 := Option.some.inj ((show Tryd.prog.funcNamed "loop.example/g00930/laws.FnLevers" = some 11 by kernel_rfl).symm.trans hf) |>.symm
      obtain rfl : fn = Tryd.f11 := (Option.some.inj (Tryd.func11.symm.trans hfn)).symm
      exact ⟨by kernel_rfl, fun j t ht => by
        rw [Tryd.params11] at ht
        have hm : t ∈ [57] := by have := Array.mem_of_getElem? ht; simpa using this
        have hall : ([57].all fun u => !Tryd.prog.wantsStandIn u) = true := by kernel_rfl
        exact (show Tryd.prog.wantsStandIn t = false by simpa using List.all_eq_true.1 hall t hm)⟩)
    (by kernel_rfl)
end Go.Proofs.YtgfopieojpjddaaDoor.lawFnLevers
