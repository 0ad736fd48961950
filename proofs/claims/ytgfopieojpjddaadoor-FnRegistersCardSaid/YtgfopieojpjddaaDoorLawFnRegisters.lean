/-
  laws.FnRegisters returns true at every input (no condition, but the texts of the library's tables, which the card ties), and leaves its arguments as they were.
-/
import Derived.Test.YtgfopieojpjddaaDoorRegsAll
import Derived.Test.YtgfopieojpjddaaDoorRgI
import Derived.Test.YtgfopieojpjddaaDoorTxtI
import Derived.Test.YtgfopieojpjddaaDoorOkI
import Derived.Test.YtgfopieojpjddaaDoorDrawR
import Derived.Test.YtgfopieojpjddaaDoorDoorFrame
import Derived.Test.YtgfopieojpjddaaDoorShapeD
import Derived.Test.YtgfopieojpjddaaDoorFacts
import Derived.Test.YtgfopieojpjddaaDoorRows
namespace Go.Proofs.YtgfopieojpjddaaDoor
open Go.RowKit
theorem RgDoor.below {w w' : World} (h : RgDoor w) (hb : Below w.heap.size w w') : RgDoor w' := rgDoor_below h hb
end Go.Proofs.YtgfopieojpjddaaDoor
namespace Go.Proofs.YtgfopieojpjddaaDoor.lawFnRegisters
open Go.ChangeShapes Go.WideShapes Go.ChangeAt Go.WideElems Go.RowKit Go.Joins
open Go.ChangeMaps (open_string shut_string)
open Go.BigFrame

theorem rowErr (u : TypeId) (h : Tryd.prog.typeName? 3 u = some "*errors.errorString") : u = 202 :=
  typeName_ptr_named (nm := "errors.errorString") (by rw [show "*" ++ "errors.errorString" = "*errors.errorString" by decide]; kernel_rfl) (by kernel_rfl) (by decide) u (by rw [show "*" ++ "errors.errorString" = "*errors.errorString" by decide]; exact h)
def Door (w : World) : Prop := RgDoor w
theorem door_below {w w' : World} (h : Door w) (hb : Below w.heap.size w w') : Door w' := rgDoor_below h hb
theorem of_laid {W : World} (h : laidMetH Tryd.prog Rows.fnRegistersRow.laid W) (hSh : W.ShapedOpen Tryd.prog) : Door W := by
  rw [MakeChecks.laidMetH_plain _ _ _ (by kernel_rfl)] at h
  have h2 := h.tail.tail
  refine ⟨?_, cell_of_shapedOpen_int (P := Tryd.prog) (g := 5) (t := 3) (zero := #[.int .i64 0]) hSh (of_decide_eq_true (by kernel_rfl)) (by kernel_rfl) rfl (by kernel_rfl) (by kernel_rfl) Tryd.underlying3⟩
  refine ⟨Lib.tabIs_of_head (g := 6) (t := 206) (e := 159) (n := 20) (by kernel_rfl) (by kernel_rfl) Tryd.underlying206 Tryd.underlying159 (by kernel_rfl) (by kernel_rfl)
    (show laidMet Tryd.prog (("internal/strconv.uint64pow10", Lib.tabData .u64 Lib.pow10Tab) :: _) W from h2), ?_, ?_⟩
  · obtain ⟨a, t, hv, _⟩ := laid_sentinel h2.tail.tail (g := 3) (ti := 95) (tp := 202) (te := 204) (ts := 9) (by kernel_rfl) (by kernel_rfl) Tryd.underlying95 rowErr Tryd.underlying202 Tryd.underlying204 rfl rfl Tryd.underlying9 (by kernel_rfl) (by kernel_rfl)
    exact ⟨_, by simpa using World.var?_cell (g := 3) (by kernel_rfl) hv 0, _, _, rfl⟩
  · obtain ⟨a, t, hv, _⟩ := laid_sentinel h2.tail (g := 4) (ti := 95) (tp := 202) (te := 204) (ts := 9) (by kernel_rfl) (by kernel_rfl) Tryd.underlying95 rowErr Tryd.underlying202 Tryd.underlying204 rfl rfl Tryd.underlying9 (by kernel_rfl) (by kernel_rfl)
    exact ⟨_, by simpa using World.var?_cell (g := 4) (by kernel_rfl) hv 0, _, _, rfl⟩

theorem mid_i64 {z : Int} (h0 : -100000000 ≤ z) (h1 : z ≤ 100000000) : I64 z := by
  unfold I64
  simp [Lit.wf, IntKind.min, IntKind.max, IntKind.signed, IntKind.bits]
  omega
theorem digs_i64 {b : Int} {zs : List Int} (b1 : b ≤ 12) (h : DigsOf b zs) : All64 zs := fun z hz => by
  have := h z hz
  exact mid_i64 (by omega) (by omega)
theorem vof_drawn {b : Int} {xs : List Int} (h : DrawnR b xs 7) : vofR b xs = (valR b xs, 0) := by rw [vofR, if_pos h.ok]

set_option maxRecDepth 100000 in
set_option maxHeartbeats 8000000 in
theorem law_walk (xA : Option Addr) (xC : Nat) (xZ : List Int) (w : World) (hx : RawU w xA xZ) (hD : RgDoor w) :
    Calls Tryd.prog 10 #[.slice xA xZ.length xC] w fun e w' => e = .returned (.bool true) ∧ Below w.heap.size w w' := by
  have hbel : Below w.heap.size w w := Below.refl _ _
  go_enter Tryd.func10, Tryd.ntmps10
  go_wp2_with fail
  refine (a2Long_any xA none xZ.length 0 xC 0 w).mono ?_
  rintro e w1 ⟨rfl, hq⟩
  subst w1
  by_cases hl : 3000 < xZ.length ∨ 3000 < 0
  · rw [decide_eq_true hl]
    clear hl
    go_wp2
    go_ret
    exact ⟨rfl, hbel⟩
  · rw [decide_eq_false hl]
    replace hx := hx.rd (by omega)
    clear hl
    go_wp2_with fail
    refine (a2Registers_any xA xZ xC w hx).mono ?_
    rintro e w1 ⟨b, xs, ys, A, C, D, E, rfl, dx, hly, dy, rx, ry, hb⟩
    clear hx
    replace hD := hD.below hb
    replace hbel := hbel.trans (hb.mono hbel.size)
    clear hb
    have b0 := dx.b0
    have b1 := dx.b1
    have n0 := dx.n0
    have n1 := dx.n1
    have ib : I64 b := mid_i64 (by omega) (by omega)
    have x64 := digs_i64 b1 dx.digs
    have y64 := digs_i64 b1 dy
    have dY : DrawnR b ys 7 := ⟨b0, b1, by omega, by omega, dy⟩
    obtain ⟨dZ, hadd, hsum, hcar⟩ := addR_drawn dx hly dy
    have hsub := subR_back dx hly dy
    obtain ⟨dK, hcpl, hcv⟩ := cplR_drawn dx
    have hvx := vof_drawn dx
    have hvy := vof_drawn dY
    have hvz := vof_drawn dZ
    have hvk := vof_drawn dK
    have hnr := nrR_back dx
    have hrg := rgR_back dx.ok
    have hcm : cmpR b xs b ys = (if valR b xs < valR b ys then -1 else if valR b ys < valR b xs then 1 else 0, 0) := by rw [cmpR, if_pos (twoE_drawn dx hly dy)]
    have hox := dx.ok
    have hoz := dZ.ok
    have z64 := digs_i64 b1 dZ.digs
    have k64 := digs_i64 b1 dK.digs
    have hp := pow_bd (by omega) b1 n1 (b := b)
    have vx := valR_bd b0 b1 n1 dx.digs
    have vy := valR_bd b0 b1 (by omega) dy
    have vz := valR_bd b0 b1 dZ.n1 dZ.digs
    have hZn : (tab (sumD b xs ys) xs.length).length = xs.length := tab_len _ _
    have hKn : (tab (cplD b xs) xs.length).length = xs.length := tab_len _ _
    obtain ⟨p, ep⟩ : ∃ p, p = b ^ xs.length := ⟨_, rfl⟩
    obtain ⟨Z, eZ⟩ : ∃ Z, Z = tab (sumD b xs ys) xs.length := ⟨_, rfl⟩
    obtain ⟨K, eK⟩ : ∃ K, K = tab (cplD b xs) xs.length := ⟨_, rfl⟩
    obtain ⟨c, ec⟩ : ∃ c, c = cK b xs ys xs.length := ⟨_, rfl⟩
    obtain ⟨n, hn⟩ : ∃ n, n = xs.length := ⟨_, rfl⟩
    have HPW := Lib.hid (a2Power_any b xs.length · b0 b1 n1)
    rw [← ep] at HPW hp hsum hcv
    rw [← eZ] at hadd hsum hsub hvz hoz z64 vz hZn
    rw [← eK] at hcpl hcv hvk k64 hKn
    rw [← ec] at hadd hsum hsub hcar
    clear ep eZ eK ec dx dy dY dZ dK
    obtain ⟨x, ex⟩ : ∃ x, x = valR b xs := ⟨_, rfl⟩
    obtain ⟨y, ey⟩ : ∃ y, y = valR b ys := ⟨_, rfl⟩
    obtain ⟨s, es⟩ : ∃ s, s = valR b Z := ⟨_, rfl⟩
    obtain ⟨z, ez⟩ : ∃ z, z = valR b K := ⟨_, rfl⟩
    rw [← ex] at hvx hnr hcm hsum hcv vx
    rw [← ey] at hvy hcm hsum vy
    rw [← es] at hvz hsum vz
    rw [← ez] at hvk hcv
    clear ex ey es ez
    obtain ⟨q, eq⟩ : ∃ q, q = (if x < y then (-1 : Int) else if y < x then 1 else 0) := ⟨_, rfl⟩
    have HQ : Hid ((x < y → q = -1) ∧ (x = y → q = 0) ∧ (y < x → q = 1)) := Lib.hid (by
      subst eq
      refine ⟨fun h => if_pos h, fun h => ?_, fun h => ?_⟩
      · rw [if_neg (by omega), if_neg (by omega)]
      · rw [if_neg (by omega), if_pos h])
    rw [← eq] at hcm
    clear eq
    have HVX := Lib.hid hvx
    have HVY := Lib.hid hvy
    have HVZ := Lib.hid hvz
    have HVK := Lib.hid hvk
    have HNR := Lib.hid hnr
    have HRG := Lib.hid hrg
    have HCM := Lib.hid hcm
    have HOX := Lib.hid hox
    have HOZ := Lib.hid hoz
    have HAD := Lib.hid hadd
    have HSB := Lib.hid hsub
    have HCP := Lib.hid hcpl
    have HSM := Lib.hid hsum
    have HCV := Lib.hid hcv
    have HXN := Lib.hid hn
    have HYN := Lib.hid (hly.trans hn.symm)
    have HZN := Lib.hid (hZn.trans hn.symm)
    have HKN := Lib.hid (hKn.trans hn.symm)
    have ix : I64 x := mid_i64 (by omega) (by omega)
    have i_n : I64 (n : Int) := mid_i64 (by omega) (by omega)
    have hn1 : 1 ≤ n ∧ n ≤ 7 := by omega
    rw [← hn] at HPW HNR
    rw [hly, ← hn]
    clear hn hly n0 n1 hvx hvy hvz hvk hnr hrg hcm hox hoz hadd hsub hcpl hsum hcv hZn hKn
    go_upto_region 4 with fail
    obtain ⟨ga, hga⟩ : ∃ g, g = w1.heap.size := ⟨_, rfl⟩
    obtain ⟨v1, hv1⟩ : ∃ V, V = (w1.alloc (.cells #[.int .i64 b, .slice A n C] 47)).alloc (.cells #[.int .i64 b, .slice D n E] 47) := ⟨_, rfl⟩
    have b_ga : Bx v1 ga 47 #[.int .i64 b, .slice A n C] := by rw [hv1, hga]; exact (Bx.new _ _ _).alloc _
    have b_ga1 : Bx v1 (ga + 1) 47 #[.int .i64 b, .slice D n E] := by rw [hv1, hga]; simpa using Bx.new (w1.alloc (.cells #[.int .i64 b, .slice A n C] 47)) #[.int .i64 b, .slice D n E] 47
    have hb : Below w1.heap.size w1 v1 := by rw [hv1]; exact ((Below.refl _ _).alloc (Nat.le_refl _) _).alloc (by simp) _
    rw [← hga, ← hv1]
    clear hv1 hga
    replace hD := hD.below hb
    replace rx := rx.below hb
    replace ry := ry.below hb
    replace hbel := hbel.trans (hb.mono hbel.size)
    clear hb
    have ca0 := b_ga.at_ 0 rfl
    have ca1 := b_ga.at_ 1 rfl
    go_wp2_with fail
    refine (HPW.out v1).mono ?_
    rintro e w2 ⟨rfl, hq⟩
    subst w2
    clear HPW
    go_wp2_with fail
    have hcon := implValueOf b A C xs v1 rx x64 ib
    rw [← HXN.out, HVX.out] at hcon
    refine hcon.mono ?_
    clear hcon
    rintro e w2 ⟨rfl, hb⟩
    clear ca0 ca1
    replace hD := hD.below hb
    replace rx := rx.below hb
    replace ry := ry.below hb
    replace b_ga := b_ga.below hb
    replace b_ga1 := b_ga1.below hb
    replace hbel := hbel.trans (hb.mono hbel.size)
    clear hb
    have cb0 := b_ga1.at_ 0 rfl
    have cb1 := b_ga1.at_ 1 rfl
    go_wp2_with fail
    have hcon := implValueOf b D E ys w2 ry y64 ib
    rw [HYN.out, HVY.out] at hcon
    refine hcon.mono ?_
    clear hcon
    rintro e w3 ⟨rfl, hb⟩
    clear cb0 cb1
    replace hD := hD.below hb
    replace rx := rx.below hb
    replace ry := ry.below hb
    replace b_ga := b_ga.below hb
    replace b_ga1 := b_ga1.below hb
    replace hbel := hbel.trans (hb.mono hbel.size)
    clear hb
    have ca0 := b_ga.at_ 0 rfl
    have ca1 := b_ga.at_ 1 rfl
    go_wp2_with fail
    refine (implNewRegister b (n : Int) x w3 ib i_n ix).mono ?_
    rintro e w4 ⟨A1, C1, he, o1, hb⟩
    rw [HNR.out] at he o1
    replace he : e = .returned (.tuple #[.agg #[.int .i64 b, .slice A1 n C1], .int .i64 0]) := by rw [HXN.out]; exact he
    subst he
    have r1 : Rd w4 A1 xs := o1.rd
    clear ca0 ca1 o1
    replace hD := hD.below hb
    replace rx := rx.below hb
    replace ry := ry.below hb
    replace b_ga := b_ga.below hb
    replace b_ga1 := b_ga1.below hb
    replace hbel := hbel.trans (hb.mono hbel.size)
    clear hb
    have cga0 := b_ga.at_ 0 rfl
    have cga1 := b_ga.at_ 1 rfl
    have zga := b_ga.lt
    go_wp2_with fail
    clear cga0 cga1 zga
    obtain ⟨gr, hgr⟩ : ∃ g, g = w4.heap.size := ⟨_, rfl⟩
    obtain ⟨v4, hv4⟩ : ∃ V, V = w4.alloc (.cells #[.int .i64 b, .slice A1 n C1] 47) := ⟨_, rfl⟩
    have b_gr : Bx v4 gr 47 #[.int .i64 b, .slice A1 n C1] := by rw [hv4, hgr]; exact Bx.new _ _ _
    have hb : Below w4.heap.size w4 v4 := by rw [hv4]; exact (Below.refl _ _).alloc (Nat.le_refl _) _
    rw [← hgr, ← hv4]
    clear hv4 hgr
    replace hD := hD.below hb
    replace rx := rx.below hb
    replace ry := ry.below hb
    replace b_ga := b_ga.below hb
    replace b_ga1 := b_ga1.below hb
    replace r1 := r1.below hb
    replace hbel := hbel.trans (hb.mono hbel.size)
    clear hb
    have hcon := implRegisterText b A C xs v4 rx x64 ib hD.rd.tab
    rw [← HXN.out] at hcon
    refine hcon.mono ?_
    clear hcon
    rintro e w5 ⟨rfl, hb⟩
    replace hD := hD.below hb
    replace rx := rx.below hb
    replace ry := ry.below hb
    replace b_ga := b_ga.below hb
    replace b_ga1 := b_ga1.below hb
    replace r1 := r1.below hb
    replace b_gr := b_gr.below hb
    replace hbel := hbel.trans (hb.mono hbel.size)
    clear hb
    go_wp2_with fail
    refine (implReadRegister (txR b xs) w5 (txR_size HOX.out) hD).mono ?_
    rintro e w6 ⟨A2, C2, he, o2, hb⟩
    rw [HRG.out] at he o2
    replace he : e = .returned (.tuple #[.agg #[.int .i64 b, .slice A2 n C2], .bool true]) := by rw [HXN.out]; exact he
    subst he
    have r2 : Rd w6 A2 xs := o2.rd
    clear o2
    clear hD
    replace rx := rx.below hb
    replace ry := ry.below hb
    replace b_ga := b_ga.below hb
    replace b_ga1 := b_ga1.below hb
    replace r1 := r1.below hb
    replace b_gr := b_gr.below hb
    replace hbel := hbel.trans (hb.mono hbel.size)
    clear hb
    have cga0 := b_ga.at_ 0 rfl
    have cga1 := b_ga.at_ 1 rfl
    have zga := b_ga.lt
    have cgr0 := b_gr.at_ 0 rfl
    have cgr1 := b_gr.at_ 1 rfl
    have zgr := b_gr.lt
    go_wp2_with fail
    clear cga0 cga1 zga cgr0 cgr1 zgr
    obtain ⟨gt, hgt⟩ : ∃ g, g = w6.heap.size := ⟨_, rfl⟩
    obtain ⟨v6, hv6⟩ : ∃ V, V = w6.alloc (.cells #[.int .i64 b, .slice A2 n C2] 47) := ⟨_, rfl⟩
    have b_gt : Bx v6 gt 47 #[.int .i64 b, .slice A2 n C2] := by rw [hv6, hgt]; exact Bx.new _ _ _
    have hb : Below w6.heap.size w6 v6 := by rw [hv6]; exact (Below.refl _ _).alloc (Nat.le_refl _) _
    rw [← hgt, ← hv6]
    clear hv6 hgt
    replace rx := rx.below hb
    replace ry := ry.below hb
    replace b_ga := b_ga.below hb
    replace b_ga1 := b_ga1.below hb
    replace r1 := r1.below hb
    replace b_gr := b_gr.below hb
    replace r2 := r2.below hb
    replace hbel := hbel.trans (hb.mono hbel.size)
    clear hb
    have hcon := specSameRegister b A1 C1 xs b A C xs v6 r1 x64 ib rx x64 ib
    rw [← HXN.out, regEqB_self] at hcon
    refine hcon.mono ?_
    clear hcon
    rintro e w7 ⟨rfl, hb⟩
    clear r1 b_gr
    replace rx := rx.below hb
    replace ry := ry.below hb
    replace b_ga := b_ga.below hb
    replace b_ga1 := b_ga1.below hb
    replace r2 := r2.below hb
    replace b_gt := b_gt.below hb
    replace hbel := hbel.trans (hb.mono hbel.size)
    clear hb
    have cga0 := b_ga.at_ 0 rfl
    have cga1 := b_ga.at_ 1 rfl
    have zga := b_ga.lt
    have cgt0 := b_gt.at_ 0 rfl
    have cgt1 := b_gt.at_ 1 rfl
    have zgt := b_gt.lt
    go_wp2_with fail
    clear cga0 cga1 zga cgt0 cgt1 zgt
    have hcon := specSameRegister b A2 C2 xs b A C xs w7 r2 x64 ib rx x64 ib
    rw [← HXN.out, regEqB_self] at hcon
    refine hcon.mono ?_
    clear hcon
    rintro e w8 ⟨rfl, hb⟩
    clear r2 b_gt
    replace rx := rx.below hb
    replace ry := ry.below hb
    replace b_ga := b_ga.below hb
    replace b_ga1 := b_ga1.below hb
    replace hbel := hbel.trans (hb.mono hbel.size)
    clear hb
    have cga0 := b_ga.at_ 0 rfl
    have cga1 := b_ga.at_ 1 rfl
    have zga := b_ga.lt
    go_wp2_with fail
    clear cga0 cga1 zga
    have hcon := implValidRegister b A C xs w8 rx x64 ib
    rw [← HXN.out, HOX.out] at hcon
    refine hcon.mono ?_
    clear hcon
    rintro e w9 ⟨rfl, hb⟩
    replace rx := rx.below hb
    replace ry := ry.below hb
    replace b_ga := b_ga.below hb
    replace b_ga1 := b_ga1.below hb
    replace hbel := hbel.trans (hb.mono hbel.size)
    clear hb
    have cga0 := b_ga.at_ 0 rfl
    have cga1 := b_ga.at_ 1 rfl
    have zga := b_ga.lt
    have cgb10 := b_ga1.at_ 0 rfl
    have cgb11 := b_ga1.at_ 1 rfl
    have zgb1 := b_ga1.lt
    go_wp2_with fail
    clear cga0 cga1 zga cgb10 cgb11 zgb1
    have hcon := implAddRegisters b A C xs b D E ys w9 rx x64 ib ry y64 ib
    rw [← HXN.out, HYN.out] at hcon
    refine hcon.mono ?_
    clear hcon
    rintro e w10 ⟨A3, C3, he, o3, hb⟩
    rw [HAD.out] at he o3
    replace he : e = .returned (.tuple #[.agg #[.int .i64 b, .slice A3 n C3], .int .i64 c, .int .i64 0]) := by rw [← HZN.out]; exact he
    subst he
    have r3 : Rd w10 A3 Z := o3.rd
    clear o3
    replace rx := rx.below hb
    replace ry := ry.below hb
    replace b_ga := b_ga.below hb
    replace b_ga1 := b_ga1.below hb
    replace hbel := hbel.trans (hb.mono hbel.size)
    clear hb
    have cgb10 := b_ga1.at_ 0 rfl
    have cgb11 := b_ga1.at_ 1 rfl
    have zgb1 := b_ga1.lt
    go_wp2_with fail
    clear cgb10 cgb11 zgb1
    obtain ⟨gs, hgs⟩ : ∃ g, g = w10.heap.size := ⟨_, rfl⟩
    obtain ⟨v10, hv10⟩ : ∃ V, V = w10.alloc (.cells #[.int .i64 b, .slice A3 n C3] 47) := ⟨_, rfl⟩
    have b_gs : Bx v10 gs 47 #[.int .i64 b, .slice A3 n C3] := by rw [hv10, hgs]; exact Bx.new _ _ _
    have hb : Below w10.heap.size w10 v10 := by rw [hv10]; exact (Below.refl _ _).alloc (Nat.le_refl _) _
    rw [← hgs, ← hv10]
    clear hv10 hgs
    replace rx := rx.below hb
    replace ry := ry.below hb
    replace b_ga := b_ga.below hb
    replace b_ga1 := b_ga1.below hb
    replace r3 := r3.below hb
    replace hbel := hbel.trans (hb.mono hbel.size)
    clear hb
    have hcon := implSubRegisters b A3 C3 Z b D E ys v10 r3 z64 ib ry y64 ib
    rw [HZN.out, HYN.out] at hcon
    refine hcon.mono ?_
    clear hcon
    rintro e w11 ⟨A4, C4, he, o4, hb⟩
    rw [HSB.out] at he o4
    replace he : e = .returned (.tuple #[.agg #[.int .i64 b, .slice A4 n C4], .int .i64 c, .int .i64 0]) := by rw [HXN.out]; exact he
    subst he
    have r4 : Rd w11 A4 xs := o4.rd
    clear o4
    replace rx := rx.below hb
    replace ry := ry.below hb
    replace b_ga := b_ga.below hb
    replace b_ga1 := b_ga1.below hb
    replace r3 := r3.below hb
    replace b_gs := b_gs.below hb
    replace hbel := hbel.trans (hb.mono hbel.size)
    clear hb
    have cga0 := b_ga.at_ 0 rfl
    have cga1 := b_ga.at_ 1 rfl
    have zga := b_ga.lt
    have cgb10 := b_ga1.at_ 0 rfl
    have cgb11 := b_ga1.at_ 1 rfl
    have zgb1 := b_ga1.lt
    go_wp2_with fail
    clear cga0 cga1 zga cgb10 cgb11 zgb1
    obtain ⟨ge, hge⟩ : ∃ g, g = w11.heap.size := ⟨_, rfl⟩
    obtain ⟨v11, hv11⟩ : ∃ V, V = w11.alloc (.cells #[.int .i64 b, .slice A4 n C4] 47) := ⟨_, rfl⟩
    have b_ge : Bx v11 ge 47 #[.int .i64 b, .slice A4 n C4] := by rw [hv11, hge]; exact Bx.new _ _ _
    have hb : Below w11.heap.size w11 v11 := by rw [hv11]; exact (Below.refl _ _).alloc (Nat.le_refl _) _
    rw [← hge, ← hv11]
    clear hv11 hge
    replace rx := rx.below hb
    replace ry := ry.below hb
    replace b_ga := b_ga.below hb
    replace b_ga1 := b_ga1.below hb
    replace r3 := r3.below hb
    replace b_gs := b_gs.below hb
    replace r4 := r4.below hb
    replace hbel := hbel.trans (hb.mono hbel.size)
    clear hb
    have hcon := implCompareRegisters b A C xs b D E ys v11 rx x64 ib ry y64 ib
    rw [← HXN.out, HYN.out, HCM.out] at hcon
    refine hcon.mono ?_
    clear hcon
    rintro e w12 ⟨rfl, hb⟩
    clear ry b_ga1
    replace rx := rx.below hb
    replace b_ga := b_ga.below hb
    replace r3 := r3.below hb
    replace b_gs := b_gs.below hb
    replace r4 := r4.below hb
    replace b_ge := b_ge.below hb
    replace hbel := hbel.trans (hb.mono hbel.size)
    clear hb
    have cgs0 := b_gs.at_ 0 rfl
    have cgs1 := b_gs.at_ 1 rfl
    have zgs := b_gs.lt
    go_wp2_with fail
    clear cgs0 cgs1 zgs
    have hcon := specValidRegister b A3 C3 Z w12 r3 z64 ib
    rw [HZN.out, HOZ.out] at hcon
    refine hcon.mono ?_
    clear hcon
    rintro e w13 ⟨rfl, hb⟩
    replace rx := rx.below hb
    replace b_ga := b_ga.below hb
    replace r3 := r3.below hb
    replace b_gs := b_gs.below hb
    replace r4 := r4.below hb
    replace b_ge := b_ge.below hb
    replace hbel := hbel.trans (hb.mono hbel.size)
    clear hb
    have cga0 := b_ga.at_ 0 rfl
    have cga1 := b_ga.at_ 1 rfl
    have zga := b_ga.lt
    have cge0 := b_ge.at_ 0 rfl
    have cge1 := b_ge.at_ 1 rfl
    have zge := b_ge.lt
    go_wp2_with fail
    clear cga0 cga1 zga cge0 cge1 zge
    have hcon := specSameRegister b A4 C4 xs b A C xs w13 r4 x64 ib rx x64 ib
    rw [← HXN.out, regEqB_self] at hcon
    refine hcon.mono ?_
    clear hcon
    rintro e w14 ⟨rfl, hb⟩
    clear r4 b_ge
    replace rx := rx.below hb
    replace b_ga := b_ga.below hb
    replace r3 := r3.below hb
    replace b_gs := b_gs.below hb
    replace hbel := hbel.trans (hb.mono hbel.size)
    clear hb
    have cgs0 := b_gs.at_ 0 rfl
    have cgs1 := b_gs.at_ 1 rfl
    have zgs := b_gs.lt
    go_wp2_with fail
    clear cgs0 cgs1 zgs
    have hcon := specValueOf b A3 C3 Z w14 r3 z64 ib
    rw [HZN.out, HVZ.out] at hcon
    refine hcon.mono ?_
    clear hcon
    rintro e w15 ⟨rfl, hb⟩
    clear r3 b_gs
    replace rx := rx.below hb
    replace b_ga := b_ga.below hb
    replace hbel := hbel.trans (hb.mono hbel.size)
    clear hb
    have cga0 := b_ga.at_ 0 rfl
    have cga1 := b_ga.at_ 1 rfl
    have zga := b_ga.lt
    go_wp2_with fail
    clear cga0 cga1 zga
    have hcon := implComplementOf b A C xs w15 rx x64 ib
    rw [← HXN.out, HCP.out] at hcon
    refine hcon.mono ?_
    clear hcon
    rintro e w16 ⟨A5, C5, he, o5, hb⟩
    replace he : e = .returned (.tuple #[.agg #[.int .i64 b, .slice A5 n C5], .int .i64 0]) := by rw [← HKN.out]; exact he
    subst he
    have r5 : Rd w16 A5 K := o5.rd
    clear o5
    clear rx b_ga
    replace hbel := hbel.trans (hb.mono hbel.size)
    clear hb
    go_wp2_with fail
    obtain ⟨gk, hgk⟩ : ∃ g, g = w16.heap.size := ⟨_, rfl⟩
    obtain ⟨v16, hv16⟩ : ∃ V, V = w16.alloc (.cells #[.int .i64 b, .slice A5 n C5] 47) := ⟨_, rfl⟩
    have b_gk : Bx v16 gk 47 #[.int .i64 b, .slice A5 n C5] := by rw [hv16, hgk]; exact Bx.new _ _ _
    have hb : Below w16.heap.size w16 v16 := by rw [hv16]; exact (Below.refl _ _).alloc (Nat.le_refl _) _
    rw [← hgk, ← hv16]
    clear hv16 hgk
    replace r5 := r5.below hb
    replace hbel := hbel.trans (hb.mono hbel.size)
    clear hb
    have hcon := specValueOf b A5 C5 K v16 r5 k64 ib
    rw [HKN.out, HVK.out] at hcon
    refine hcon.mono ?_
    clear hcon
    rintro e w17 ⟨rfl, hb⟩
    clear r5 b_gk
    replace hbel := hbel.trans (hb.mono hbel.size)
    clear hb
    have hsm := HSM.out
    have hcv := HCV.out
    have hq := HQ.out
    clear HVX HVY HVZ HVK HNR HRG HCM HOX HOZ HAD HSB HCP HSM HCV HXN HYN HZN HKN HQ ix i_n
    obtain rfl : z = p - 1 - x := hcv
    rcases hcar with rfl | rfl
    · obtain rfl : s = x + y := by omega
      rcases Int.lt_trichotomy x y with h | h | h
      · obtain rfl : q = -1 := hq.1 h
        clear hq hsm
        go_wp2
        go_ret
        exact ⟨by first | rfl | (apply ret_bool; simp; omega), hbel⟩
      · subst h
        obtain rfl : q = 0 := hq.2.1 rfl
        clear hq hsm
        go_wp2
        go_ret
        exact ⟨by first | rfl | (apply ret_bool; simp; omega), hbel⟩
      · obtain rfl : q = 1 := hq.2.2 h
        clear hq hsm
        go_wp2
        go_ret
        exact ⟨by first | rfl | (apply ret_bool; simp; omega), hbel⟩
    · obtain rfl : s = x + y - p := by omega
      rcases Int.lt_trichotomy x y with h | h | h
      · obtain rfl : q = -1 := hq.1 h
        clear hq hsm
        go_wp2
        go_ret
        exact ⟨by first | rfl | (apply ret_bool; simp; omega), hbel⟩
      · subst h
        obtain rfl : q = 0 := hq.2.1 rfl
        clear hq hsm
        go_wp2
        go_ret
        exact ⟨by first | rfl | (apply ret_bool; simp; omega), hbel⟩
      · obtain rfl : q = 1 := hq.2.2 h
        clear hq hsm
        go_wp2
        go_ret
        exact ⟨by first | rfl | (apply ret_bool; simp; omega), hbel⟩

/-- The door's own heap meets the condition: closed facts. -/
theorem door_met (os : Os) (args : Array Value) : laidMetH Tryd.prog Rows.fnRegistersRow.laid ((World.doorLaid Tryd.prog 400 os).forCall (fun _ _ => 0) ⟨#[], args, []⟩).memory :=
  laidMetH_of_parts3 (fuel := 8) (laidMet_of_run' 8 (by kernel_rfl) (by kernel_rfl)) (by kernel_rfl) (by kernel_rfl)

set_option maxRecDepth 100000 in
theorem lifted (os : Os) (started : os.Started) (H : Type) (enc : TypeId × Value → H) :
    ReturnsInHanded {} Tryd.checked os 10 .any (fun w args => (Rows.fnRegistersSpec.pre enc Tryd.prog Tryd.f10 [] false w args ∧ laidMetH Tryd.prog Rows.fnRegistersRow.laid w) ∧ sizedMet enc Tryd.prog Tryd.f10 (OpenSpec.ofChange Rows.fnRegistersSpec) false w args)
      (Rows.fnRegistersSpec.post enc Tryd.prog Tryd.f10 false true false false) := by
  refine handed_laid_shaped (C := Tryd.checked) (laid := Rows.fnRegistersRow.laid) own_knob started (by kernel_rfl) Tryd.func10
    (ChangeSpec.witness_shaped (enc := enc) (C := Tryd.checked) (os := os) (X := fun w _ => laidMetH Tryd.prog Rows.fnRegistersRow.laid w) false (World.doorLaid Tryd.prog 400 os) #[.slice none 0 0] 8 rfl (World.shaped_of_RefB (by kernel_rfl) (by kernel_rfl)) (by kernel_rfl) (by kernel_rfl) (by kernel_rfl) (door_met os _)) ?_
  intro W base args ds gs before hval0 hW hL hSh
  have hval : ∀ (j : Nat) t v, Tryd.f10.params[j]? = some t → args[j]? = some v → Value.okWide Tryd.prog W .any base t v := hval0
  have hW' := hW
  obtain ⟨p, q, hA0, hV0, rfl, hfz, hnd⟩ := hW
  have hA : DataW.TrodAll enc Tryd.prog W 0 (fun _ => true) true Tryd.f10.params.toList args.toList ds p := hA0
  have hV : DataW.TrodVars enc Tryd.prog W (fun _ => true) [] gs q := hV0
  rw [Tryd.params10] at hA hval
  obtain ⟨v0, vs0, d0, ds0, p0, q0, hargs, rfl, rfl, h0, r0⟩ := trodAll_cons hA
  obtain ⟨rfl, rfl, rfl⟩ := trodAll_nil r0
  obtain rfl : args = #[v0] := by cases args; simp_all
  have k0 := h0
  have lt0 : ∀ x ∈ p0, x.block < W.heap.size := by obtain ⟨m, hm⟩ := k0; exact DataW.trod_lt m _ _ _ hm
  obtain ⟨xA, xC, xZ, rfl, hx⟩ := open_Bytes (hval 0 57 v0 rfl rfl) h0
  have hD := of_laid hL hSh
  clear hA0 hval0
  obtain ⟨rfl, rfl⟩ := trodVars_none hV
  refine (law_walk xA xC xZ W hx hD).mono fun e W' ⟨he, bel⟩ => ?_
  subst he
  exact ⟨_, rfl, _, _, _, [], _, [], hW', trodAll_mk1 (shut_bool Tryd.underlying4 _), (trodAll_cons_mk (Below.trod laid_out (by kernel_rfl) (of_decide_eq_true (by kernel_rfl)) k0 bel lt0) trodAll_mk0), rfl, bel.frame _, fun h => by cases h⟩

theorem over : Rows.FnRegistersSaid :=
  OpenClaim.holds_of_wide 10 Tryd.f10 rfl rfl rfl rfl rfl rfl rfl ⟨rfl, rfl, rfl, rfl, rfl⟩ rfl rfl rfl rfl rfl (by kernel_rfl) Tryd.func10 (by kernel_rfl)
    (of_decide_eq_true (by kernel_rfl)) (by unfold Func.isWrapper; first | (rw [if_pos (by decide +kernel)]; kernel_rfl) | (rw [if_neg (by decide +kernel)]; exact ⟨rfl, rfl⟩))
    (fun os started H enc _ => lifted os started H enc)

/-- The statement: the tied card. -/
theorem proved : Rows.FnRegistersCardSaid :=
  Claim7.holds_tied_plain_at .later [] [.data, .data, .data, .sentinel, .sentinel] true (true, "6075a7d7f41d0bf6fa5891e1ddca2dba93e09eafc9bda3e018996d44eb929edf") true
    over (fun _ h => by cases h) (by kernel_rfl) (fun _ h => by cases h) fnRegisters_row_tie rfl ⟨rfl, rfl⟩ (by kernel_rfl) rfl
    (fun f fn hf hfn => by
      obtain rfl : f = 10 := Option.some.inj ((show Tryd.prog.funcNamed "loop.example/g00930/laws.FnRegisters" = some 10 by kernel_rfl).symm.trans hf) |>.symm
      obtain rfl : fn = Tryd.f10 := (Option.some.inj (Tryd.func10.symm.trans hfn)).symm
      exact ⟨by kernel_rfl, fun j t ht => by
        rw [Tryd.params10] at ht
        have hm : t ∈ [57] := by simpa using Array.mem_of_getElem? ht
        have hall : ([57].all fun u => !Tryd.prog.wantsStandIn u) = true := by kernel_rfl
        exact (show Tryd.prog.wantsStandIn t = false by simpa using List.all_eq_true.1 hall t hm)⟩)
    (by kernel_rfl)
end Go.Proofs.YtgfopieojpjddaaDoor.lawFnRegisters
