/-
  laws.FnTrains returns true at every input (no condition), and leaves its arguments as they were.
-/
import Derived.Test.YtaefgkhbgljkoaaBytes
import Derived.Test.YtaefgkhbgljkoaaDrawT
import Derived.Test.YtaefgkhbgljkoaaRatI
import Derived.Test.YtaefgkhbgljkoaaRatS
import Derived.Test.YtaefgkhbgljkoaaLeastI
import Derived.Test.YtaefgkhbgljkoaaJoinI
import Derived.Test.YtaefgkhbgljkoaaBackI
import Derived.Test.YtaefgkhbgljkoaaFindI
import Derived.Test.YtaefgkhbgljkoaaFacts
import Derived.Test.YtaefgkhbgljkoaaRows
namespace Go.Proofs.Ytaefgkhbgljkoaa.lawFnTrains
open Go.ChangeShapes Go.WideShapes Go.ChangeAt Go.WideElems Go.RowKit Go.Joins
open Go.ChangeMaps (open_string shut_string)

set_option maxRecDepth 100000 in
set_option maxHeartbeats 8000000 in
theorem law_walk (xA : Option Addr) (xC : Nat) (xZ : List Int) (yA : Option Addr) (yC : Nat) (yZ : List Int) (w : World) (hx : RawU w xA xZ) (hy : RawU w yA yZ) :
    Calls Try.prog 3 #[.slice xA xZ.length xC, .slice yA yZ.length yC] w fun e w' => e = .returned (.bool true) ∧ Below w.heap.size w w' := by
  have hbel : Below w.heap.size w w := Below.refl _ _
  go_enter Try.func3, Try.ntmps3
  go_wp2_with fail
  refine (a2Long_any xA yA xZ.length yZ.length xC yC w).mono ?_
  rintro e w1 ⟨rfl, hq⟩
  subst w1
  by_cases hl : 3000 < xZ.length ∨ 3000 < yZ.length
  · rw [decide_eq_true hl]
    clear hl
    go_wp2
    go_ret
    exact ⟨rfl, hbel⟩
  · rw [decide_eq_false hl]
    replace hx := hx.rd (by omega)
    replace hy := hy.rd (by omega)
    clear hl
    go_wp2_with fail
    refine (a2Train_any xA xZ xC w hx).mono ?_
    rintro e w1 ⟨xs, A, C, rfl, dx, ox, hb⟩
    have rx := ox.rd
    clear ox
    replace hx := hx.below hb
    replace hy := hy.below hb
    replace hbel := hbel.trans (hb.mono hbel.size)
    clear hb
    go_wp2_with fail
    refine (a2Train_any yA yZ yC w1 hy).mono ?_
    rintro e w2 ⟨ys, B, D, rfl, dy, oy, hb⟩
    have ry := oy.rd
    clear oy
    replace hx := hx.below hb
    replace hy := hy.below hb
    replace rx := rx.below hb
    replace hbel := hbel.trans (hb.mono hbel.size)
    clear hb
    go_wp2_with fail
    refine (implRatioOf A C xs w2 rx dx.i64).mono ?_
    rw [ratR_ok dx.train]
    rintro e w3 ⟨rfl, hb⟩
    replace hx := hx.below hb
    replace hy := hy.below hb
    replace rx := rx.below hb
    replace ry := ry.below hb
    replace hbel := hbel.trans (hb.mono hbel.size)
    clear hb
    obtain ⟨xn, hxn⟩ : ∃ z, z = (ratQ xs).num := ⟨_, rfl⟩
    obtain ⟨xd, hxd⟩ : ∃ z : Int, z = ((ratQ xs).den : Int) := ⟨_, rfl⟩
    rw [← hxn, ← hxd]
    have Hx := Lib.hid (And.intro hxn hxd)
    clear hxn hxd
    go_wp2_with fail
    obtain ⟨g1, hg1⟩ : ∃ g, g = w3.heap.size := ⟨_, rfl⟩
    obtain ⟨v3, hv3⟩ : ∃ V, V = w3.alloc (.cells #[.int .i64 xn, .int .i64 xd] 27) := ⟨_, rfl⟩
    have bg1 : Bx v3 g1 27 #[.int .i64 xn, .int .i64 xd] := by rw [hv3, hg1]; exact Bx.new _ _ _
    have hb : Below w3.heap.size w3 v3 := by rw [hv3]; exact (Below.refl _ _).alloc (Nat.le_refl _) _
    rw [← hg1, ← hv3]
    clear hv3 hg1
    replace hx := hx.below hb
    replace hy := hy.below hb
    replace rx := rx.below hb
    replace ry := ry.below hb
    replace hbel := hbel.trans (hb.mono hbel.size)
    clear hb
    go_wp2_with fail
    refine (specRatioOf B D ys v3 ry dy.i64).mono ?_
    rw [ratR_ok dy.train]
    rintro e w4 ⟨rfl, hb⟩
    replace hx := hx.below hb
    replace hy := hy.below hb
    replace rx := rx.below hb
    replace ry := ry.below hb
    replace bg1 := bg1.below hb
    replace hbel := hbel.trans (hb.mono hbel.size)
    clear hb
    obtain ⟨yn, hyn⟩ : ∃ z, z = (ratQ ys).num := ⟨_, rfl⟩
    obtain ⟨yd, hyd⟩ : ∃ z : Int, z = ((ratQ ys).den : Int) := ⟨_, rfl⟩
    rw [← hyn, ← hyd]
    have Hy := Lib.hid (And.intro hyn hyd)
    clear hyn hyd
    go_wp2_with fail
    obtain ⟨g2, hg2⟩ : ∃ g, g = w4.heap.size := ⟨_, rfl⟩
    obtain ⟨v4, hv4⟩ : ∃ V, V = w4.alloc (.cells #[.int .i64 yn, .int .i64 yd] 27) := ⟨_, rfl⟩
    have bg2 : Bx v4 g2 27 #[.int .i64 yn, .int .i64 yd] := by rw [hv4, hg2]; exact Bx.new _ _ _
    have hb : Below w4.heap.size w4 v4 := by rw [hv4]; exact (Below.refl _ _).alloc (Nat.le_refl _) _
    rw [← hg2, ← hv4]
    clear hv4 hg2
    replace hx := hx.below hb
    replace hy := hy.below hb
    replace rx := rx.below hb
    replace ry := ry.below hb
    replace bg1 := bg1.below hb
    replace hbel := hbel.trans (hb.mono hbel.size)
    clear hb
    obtain ⟨zs, hzs⟩ : ∃ zs, zs = xs ++ ys := ⟨_, rfl⟩
    obtain ⟨ks, hks⟩ : ∃ ks, ks = backL xs := ⟨_, rfl⟩
    have tz : trainB zs = true := by rw [hzs]; exact join_train dx dy
    have iz : All2 zs := by rw [hzs]; exact join_i64 dx dy
    have dk : Drawn ks := by rw [hks]; exact dx.back
    have HJ := Lib.hid (show joinR xs ys = (zs, 0) by rw [hzs]; exact join_ok dx dy)
    have HB := Lib.hid (show backR' xs = (ks, 0) by rw [hks]; exact backR'_ok dx.train)
    have HZ := Lib.hid (And.intro hzs hks)
    clear hzs hks
    go_wp2_with fail
    refine (implJoinTrains A C xs B D ys v4 rx dx.i64 ry dy.i64).mono ?_
    rw [HJ.out]
    rintro e w5 ⟨A3, C3, rfl, oj, hb⟩
    have rj : RdF pairF w5 A3 zs := oj.rd
    clear oj
    replace hx := hx.below hb
    replace hy := hy.below hb
    replace rx := rx.below hb
    replace ry := ry.below hb
    replace bg1 := bg1.below hb
    replace bg2 := bg2.below hb
    replace hbel := hbel.trans (hb.mono hbel.size)
    clear hb
    go_wp2_with fail
    refine (implBackTrain A C xs w5 rx dx.i64).mono ?_
    rw [HB.out]
    rintro e w6 ⟨A4, C4, rfl, ok, hb⟩
    have rk : RdF pairF w6 A4 ks := ok.rd
    clear ok
    replace hx := hx.below hb
    replace hy := hy.below hb
    replace rx := rx.below hb
    replace ry := ry.below hb
    replace bg1 := bg1.below hb
    replace bg2 := bg2.below hb
    replace rj := rj.below hb
    replace hbel := hbel.trans (hb.mono hbel.size)
    clear hb
    go_wp2_with fail
    refine (specValidTrain A3 C3 zs w6 rj iz).mono ?_
    rw [tz]
    rintro e w7 ⟨rfl, hb⟩
    replace hx := hx.below hb
    replace hy := hy.below hb
    replace rx := rx.below hb
    replace ry := ry.below hb
    replace bg1 := bg1.below hb
    replace bg2 := bg2.below hb
    replace rj := rj.below hb
    replace rk := rk.below hb
    replace hbel := hbel.trans (hb.mono hbel.size)
    clear hb
    go_wp2_with fail
    refine (specValidTrain A4 C4 ks w7 rk dk.i64).mono ?_
    rw [dk.train]
    rintro e w8 ⟨rfl, hb⟩
    replace hx := hx.below hb
    replace hy := hy.below hb
    replace rx := rx.below hb
    replace ry := ry.below hb
    replace bg1 := bg1.below hb
    replace bg2 := bg2.below hb
    replace rj := rj.below hb
    replace rk := rk.below hb
    replace hbel := hbel.trans (hb.mono hbel.size)
    clear hb
    have hfx : xn ≠ 0 ∧ 1 ≤ xd := by rw [Hx.out.1, Hx.out.2]; exact ⟨ratQ_num_ne dx, by have := dx.bd; omega⟩
    have x0 := hfx.1
    have x1 : ¬ xd < 1 := by omega
    clear hfx
    have cx0 : w8.cell? ⟨g1, 0, none⟩ = some (.int .i64 xn) := bg1.at_ 0 rfl
    have cx1 : w8.cell? ⟨g1, 1, none⟩ = some (.int .i64 xd) := bg1.at_ 1 rfl
    have x2 : (xn == 0) = false := by simpa using x0
    go_wp2_with fail
    refine (implRatioOf A3 C3 zs w8 rj iz).mono ?_
    rw [ratR_ok tz]
    rintro e w9 ⟨rfl, hb⟩
    clear cx0 cx1
    replace hx := hx.below hb
    replace hy := hy.below hb
    replace rx := rx.below hb
    replace ry := ry.below hb
    replace bg1 := bg1.below hb
    replace bg2 := bg2.below hb
    replace rj := rj.below hb
    replace rk := rk.below hb
    replace hbel := hbel.trans (hb.mono hbel.size)
    clear hb
    obtain ⟨tn, htn⟩ : ∃ z, z = (ratQ zs).num := ⟨_, rfl⟩
    obtain ⟨td, htd⟩ : ∃ z : Int, z = ((ratQ zs).den : Int) := ⟨_, rfl⟩
    rw [← htn, ← htd]
    have Ht := Lib.hid (And.intro htn htd)
    clear htn htd
    go_wp2_with fail
    obtain ⟨g3, hg3⟩ : ∃ g, g = w9.heap.size := ⟨_, rfl⟩
    obtain ⟨v9, hv9⟩ : ∃ V, V = w9.alloc (.cells #[.int .i64 tn, .int .i64 td] 27) := ⟨_, rfl⟩
    have bg3 : Bx v9 g3 27 #[.int .i64 tn, .int .i64 td] := by rw [hv9, hg3]; exact Bx.new _ _ _
    have hb : Below w9.heap.size w9 v9 := by rw [hv9]; exact (Below.refl _ _).alloc (Nat.le_refl _) _
    rw [← hg3, ← hv9]
    clear hv9 hg3
    replace hx := hx.below hb
    replace hy := hy.below hb
    replace rx := rx.below hb
    replace ry := ry.below hb
    replace bg1 := bg1.below hb
    replace bg2 := bg2.below hb
    replace rj := rj.below hb
    replace rk := rk.below hb
    replace hbel := hbel.trans (hb.mono hbel.size)
    clear hb
    go_wp2_with fail
    refine (implRatioOf A4 C4 ks v9 rk dk.i64).mono ?_
    rw [ratR_ok dk.train]
    rintro e w10 ⟨rfl, hb⟩
    replace hx := hx.below hb
    replace hy := hy.below hb
    replace rx := rx.below hb
    replace ry := ry.below hb
    replace bg1 := bg1.below hb
    replace bg2 := bg2.below hb
    replace rj := rj.below hb
    replace rk := rk.below hb
    replace bg3 := bg3.below hb
    replace hbel := hbel.trans (hb.mono hbel.size)
    clear hb
    obtain ⟨un, hun⟩ : ∃ z, z = (ratQ ks).num := ⟨_, rfl⟩
    obtain ⟨ud, hud⟩ : ∃ z : Int, z = ((ratQ ks).den : Int) := ⟨_, rfl⟩
    rw [← hun, ← hud]
    have Hu := Lib.hid (And.intro hun hud)
    clear hun hud
    go_upto_region 13 with fail
    obtain ⟨g4, hg4⟩ : ∃ g, g = w10.heap.size := ⟨_, rfl⟩
    obtain ⟨v10, hv10⟩ : ∃ V, V = w10.alloc (.cells #[.int .i64 un, .int .i64 ud] 27) := ⟨_, rfl⟩
    have bg4 : Bx v10 g4 27 #[.int .i64 un, .int .i64 ud] := by rw [hv10, hg4]; exact Bx.new _ _ _
    have hb : Below w10.heap.size w10 v10 := by rw [hv10]; exact (Below.refl _ _).alloc (Nat.le_refl _) _
    rw [← hg4, ← hv10]
    clear hv10 hg4
    replace hx := hx.below hb
    replace hy := hy.below hb
    replace rx := rx.below hb
    replace ry := ry.below hb
    replace bg1 := bg1.below hb
    replace bg2 := bg2.below hb
    replace rj := rj.below hb
    replace rk := rk.below hb
    replace bg3 := bg3.below hb
    replace hbel := hbel.trans (hb.mono hbel.size)
    clear hb
    have cg10 : v10.cell? ⟨g1, 0, none⟩ = some (.int .i64 xn) := bg1.at_ 0 rfl
    have cg11 : v10.cell? ⟨g1, 1, none⟩ = some (.int .i64 xd) := bg1.at_ 1 rfl
    have cg20 : v10.cell? ⟨g2, 0, none⟩ = some (.int .i64 yn) := bg2.at_ 0 rfl
    have cg21 : v10.cell? ⟨g2, 1, none⟩ = some (.int .i64 yd) := bg2.at_ 1 rfl
    have cg30 : v10.cell? ⟨g3, 0, none⟩ = some (.int .i64 tn) := bg3.at_ 0 rfl
    have cg31 : v10.cell? ⟨g3, 1, none⟩ = some (.int .i64 td) := bg3.at_ 1 rfl
    have cg40 : v10.cell? ⟨g4, 0, none⟩ = some (.int .i64 un) := bg4.at_ 0 rfl
    have cg41 : v10.cell? ⟨g4, 1, none⟩ = some (.int .i64 ud) := bg4.at_ 1 rfl
    have hm := trains_mul dx dy HZ.out.1 Hx.out Hy.out Ht.out
    have hk := trains_back dx HZ.out.2 Hx.out Hu.out
    obtain ⟨m1, m2, m3, m4, m5⟩ := hm
    obtain ⟨k1, k2, k3⟩ := hk
    obtain ⟨ln, hln⟩ : ∃ z : Int, z = (lcmTo xs xs.length : Nat) := ⟨_, rfl⟩
    have hlb : 1 ≤ ln ∧ ln ≤ 29791 := by rw [hln]; have := dx.least; omega
    have HL := Lib.hid (show leastR xs = (ln, 0) by rw [hln]; exact leastR_ok dx.train)
    have HN := Lib.hid hln
    clear hln
    go_wp2_with fail
    refine (implLeastTurns A C xs v10 rx dx.i64).mono ?_
    rw [HL.out]
    rintro e w11 ⟨rfl, hb⟩
    clear cg10 cg11 cg20 cg21 cg30 cg31 cg40 cg41 m1 m2 m3 m4 m5 k1 k2 k3
    replace hx := hx.below hb
    replace hy := hy.below hb
    replace rx := rx.below hb
    replace ry := ry.below hb
    replace bg1 := bg1.below hb
    replace bg2 := bg2.below hb
    replace rj := rj.below hb
    replace rk := rk.below hb
    replace bg3 := bg3.below hb
    replace bg4 := bg4.below hb
    replace hbel := hbel.trans (hb.mono hbel.size)
    clear hb
    have hl1 : ¬ ln < 1 := by omega
    have hl2 : ¬ 1000000 < ln := by omega
    have il : I64 ln := i64_small (by omega) (by omega)
    by_cases hle : ln ≤ 1000
    · obtain ⟨on, HO, o1, o2, o3⟩ := trains_out dx Hx.out HN.out hle
      replace HO := Lib.hid HO
      go_wp2_with fail
      refine (implOutputTurns A C xs ln w11 rx dx.i64 il).mono ?_
      rw [HO.out]
      rintro e oo ⟨rfl, hb⟩
      replace hx := hx.below hb
      replace hy := hy.below hb
      replace rx := rx.below hb
      replace ry := ry.below hb
      replace bg1 := bg1.below hb
      replace bg2 := bg2.below hb
      replace rj := rj.below hb
      replace rk := rk.below hb
      replace bg3 := bg3.below hb
      replace bg4 := bg4.below hb
      replace hbel := hbel.trans (hb.mono hbel.size)
      clear hb
      go_upto_region 20 with fail
      obtain ⟨g5, hg5⟩ : ∃ g, g = oo.heap.size := ⟨_, rfl⟩
      obtain ⟨v11, hv11⟩ : ∃ V, V = oo.alloc (.cells #[.int .i64 on, .int .i64 1] 27) := ⟨_, rfl⟩
      have bg5 : Bx v11 g5 27 #[.int .i64 on, .int .i64 1] := by rw [hv11, hg5]; exact Bx.new _ _ _
      have hb : Below oo.heap.size oo v11 := by rw [hv11]; exact (Below.refl _ _).alloc (Nat.le_refl _) _
      rw [← hg5, ← hv11]
      clear hv11 hg5
      replace hx := hx.below hb
      replace hy := hy.below hb
      replace rx := rx.below hb
      replace ry := ry.below hb
      replace bg1 := bg1.below hb
      replace bg2 := bg2.below hb
      replace rj := rj.below hb
      replace rk := rk.below hb
      replace bg3 := bg3.below hb
      replace bg4 := bg4.below hb
      replace hbel := hbel.trans (hb.mono hbel.size)
      clear hb
      have cg10 : v11.cell? ⟨g1, 0, none⟩ = some (.int .i64 xn) := bg1.at_ 0 rfl
      have cg11 : v11.cell? ⟨g1, 1, none⟩ = some (.int .i64 xd) := bg1.at_ 1 rfl
      have cg50 : v11.cell? ⟨g5, 0, none⟩ = some (.int .i64 on) := bg5.at_ 0 rfl
      have cg51 : v11.cell? ⟨g5, 1, none⟩ = some (.int .i64 1) := bg5.at_ 1 rfl
      go_wp2_with fail
      refine (a2At_any xA xZ xC 0 60 v11 hx (by omega) (by omega) (by omega)).mono ?_
      rintro e p1 ⟨z1, rfl, z10, z11, hb⟩
      replace hx := hx.below hb
      replace hy := hy.below hb
      replace rx := rx.below hb
      replace ry := ry.below hb
      replace bg1 := bg1.below hb
      replace bg2 := bg2.below hb
      replace rj := rj.below hb
      replace rk := rk.below hb
      replace bg3 := bg3.below hb
      replace bg4 := bg4.below hb
      replace bg5 := bg5.below hb
      replace hbel := hbel.trans (hb.mono hbel.size)
      clear hb
      have q1 : IntKind.i64.wrap (1 + z1) = 1 + z1 := fits_int _ (by omega) (by omega)
      go_wp2_with fail
      refine (a2At_any yA yZ yC 0 60 p1 hy (by omega) (by omega) (by omega)).mono ?_
      rintro e p2 ⟨z2, rfl, z20, z21, hb⟩
      replace hx := hx.below hb
      replace hy := hy.below hb
      replace rx := rx.below hb
      replace ry := ry.below hb
      replace bg1 := bg1.below hb
      replace bg2 := bg2.below hb
      replace rj := rj.below hb
      replace rk := rk.below hb
      replace bg3 := bg3.below hb
      replace bg4 := bg4.below hb
      replace bg5 := bg5.below hb
      replace hbel := hbel.trans (hb.mono hbel.size)
      clear hb
      have q2 : IntKind.i64.wrap (1 + z2) = 1 + z2 := fits_int _ (by omega) (by omega)
      obtain ⟨nu, hnu⟩ : ∃ z, z = 1 + z1 := ⟨_, rfl⟩
      obtain ⟨de, hde⟩ : ∃ z, z = 1 + z2 := ⟨_, rfl⟩
      obtain ⟨fs, vn, vd, HF, tf, jf, HR, e1, e2, e3⟩ := trains_found (num := nu) (den := de) (by omega) (by omega) (by omega) (by omega)
      have inu : I64 nu := i64_small (by omega) (by omega)
      have ide : I64 de := i64_small (by omega) (by omega)
      replace HF := Lib.hid HF
      replace HR := Lib.hid HR
      have hnd := Lib.hid (And.intro hnu hde)
      clear hnu hde z10 z11 z20 z21
      go_wp2_with fail
      rw [← hnd.out.1, ← hnd.out.2]
      refine (implFindTrain nu de p2 inu ide).mono ?_
      rw [HF.out]
      rintro e p3 ⟨A5, C5, rfl, of, hb⟩
      have rf : RdF pairF p3 A5 fs := of.rd
      clear of
      replace hx := hx.below hb
      replace hy := hy.below hb
      replace rx := rx.below hb
      replace ry := ry.below hb
      replace bg1 := bg1.below hb
      replace bg2 := bg2.below hb
      replace rj := rj.below hb
      replace rk := rk.below hb
      replace bg3 := bg3.below hb
      replace bg4 := bg4.below hb
      replace bg5 := bg5.below hb
      replace hbel := hbel.trans (hb.mono hbel.size)
      clear hb
      go_wp2_with fail
      refine (specValidTrain A5 C5 fs p3 rf jf).mono ?_
      rw [tf]
      rintro e p4 ⟨rfl, hb⟩
      replace hx := hx.below hb
      replace hy := hy.below hb
      replace rx := rx.below hb
      replace ry := ry.below hb
      replace bg1 := bg1.below hb
      replace bg2 := bg2.below hb
      replace rj := rj.below hb
      replace rk := rk.below hb
      replace bg3 := bg3.below hb
      replace bg4 := bg4.below hb
      replace bg5 := bg5.below hb
      replace rf := rf.below hb
      replace hbel := hbel.trans (hb.mono hbel.size)
      clear hb
      go_wp2_with fail
      refine (specRatioOf A5 C5 fs p4 rf jf).mono ?_
      rw [HR.out]
      rintro e p5 ⟨rfl, hb⟩
      replace hx := hx.below hb
      replace hy := hy.below hb
      replace rx := rx.below hb
      replace ry := ry.below hb
      replace bg1 := bg1.below hb
      replace bg2 := bg2.below hb
      replace rj := rj.below hb
      replace rk := rk.below hb
      replace bg3 := bg3.below hb
      replace bg4 := bg4.below hb
      replace bg5 := bg5.below hb
      replace rf := rf.below hb
      replace hbel := hbel.trans (hb.mono hbel.size)
      clear hb
      go_upto_region 28 with fail
      obtain ⟨g6, hg6⟩ : ∃ g, g = p5.heap.size := ⟨_, rfl⟩
      obtain ⟨q5, hq5⟩ : ∃ V, V = p5.alloc (.cells #[.int .i64 vn, .int .i64 vd] 27) := ⟨_, rfl⟩
      have bg6 : Bx q5 g6 27 #[.int .i64 vn, .int .i64 vd] := by rw [hq5, hg6]; exact Bx.new _ _ _
      have hb : Below p5.heap.size p5 q5 := by rw [hq5]; exact (Below.refl _ _).alloc (Nat.le_refl _) _
      rw [← hg6, ← hq5]
      clear hq5 hg6
      replace hx := hx.below hb
      replace hy := hy.below hb
      replace rx := rx.below hb
      replace ry := ry.below hb
      replace bg1 := bg1.below hb
      replace bg2 := bg2.below hb
      replace rj := rj.below hb
      replace rk := rk.below hb
      replace bg3 := bg3.below hb
      replace bg4 := bg4.below hb
      replace bg5 := bg5.below hb
      replace rf := rf.below hb
      replace hbel := hbel.trans (hb.mono hbel.size)
      clear hb
      have cg60 : q5.cell? ⟨g6, 0, none⟩ = some (.int .i64 vn) := bg6.at_ 0 rfl
      have cg61 : q5.cell? ⟨g6, 1, none⟩ = some (.int .i64 vd) := bg6.at_ 1 rfl
      go_wp2
      go_ret
      exact ⟨rfl, hbel⟩
    · go_wp2_with fail
      go_wp2_with fail
      refine (a2At_any xA xZ xC 0 60 w11 hx (by omega) (by omega) (by omega)).mono ?_
      rintro e p1 ⟨z1, rfl, z10, z11, hb⟩
      replace hx := hx.below hb
      replace hy := hy.below hb
      replace rx := rx.below hb
      replace ry := ry.below hb
      replace bg1 := bg1.below hb
      replace bg2 := bg2.below hb
      replace rj := rj.below hb
      replace rk := rk.below hb
      replace bg3 := bg3.below hb
      replace bg4 := bg4.below hb
      replace hbel := hbel.trans (hb.mono hbel.size)
      clear hb
      have q1 : IntKind.i64.wrap (1 + z1) = 1 + z1 := fits_int _ (by omega) (by omega)
      go_wp2_with fail
      refine (a2At_any yA yZ yC 0 60 p1 hy (by omega) (by omega) (by omega)).mono ?_
      rintro e p2 ⟨z2, rfl, z20, z21, hb⟩
      replace hx := hx.below hb
      replace hy := hy.below hb
      replace rx := rx.below hb
      replace ry := ry.below hb
      replace bg1 := bg1.below hb
      replace bg2 := bg2.below hb
      replace rj := rj.below hb
      replace rk := rk.below hb
      replace bg3 := bg3.below hb
      replace bg4 := bg4.below hb
      replace hbel := hbel.trans (hb.mono hbel.size)
      clear hb
      have q2 : IntKind.i64.wrap (1 + z2) = 1 + z2 := fits_int _ (by omega) (by omega)
      obtain ⟨nu, hnu⟩ : ∃ z, z = 1 + z1 := ⟨_, rfl⟩
      obtain ⟨de, hde⟩ : ∃ z, z = 1 + z2 := ⟨_, rfl⟩
      obtain ⟨fs, vn, vd, HF, tf, jf, HR, e1, e2, e3⟩ := trains_found (num := nu) (den := de) (by omega) (by omega) (by omega) (by omega)
      have inu : I64 nu := i64_small (by omega) (by omega)
      have ide : I64 de := i64_small (by omega) (by omega)
      replace HF := Lib.hid HF
      replace HR := Lib.hid HR
      have hnd := Lib.hid (And.intro hnu hde)
      clear hnu hde z10 z11 z20 z21
      go_wp2_with fail
      rw [← hnd.out.1, ← hnd.out.2]
      refine (implFindTrain nu de p2 inu ide).mono ?_
      rw [HF.out]
      rintro e p3 ⟨A5, C5, rfl, of, hb⟩
      have rf : RdF pairF p3 A5 fs := of.rd
      clear of
      replace hx := hx.below hb
      replace hy := hy.below hb
      replace rx := rx.below hb
      replace ry := ry.below hb
      replace bg1 := bg1.below hb
      replace bg2 := bg2.below hb
      replace rj := rj.below hb
      replace rk := rk.below hb
      replace bg3 := bg3.below hb
      replace bg4 := bg4.below hb
      replace hbel := hbel.trans (hb.mono hbel.size)
      clear hb
      go_wp2_with fail
      refine (specValidTrain A5 C5 fs p3 rf jf).mono ?_
      rw [tf]
      rintro e p4 ⟨rfl, hb⟩
      replace hx := hx.below hb
      replace hy := hy.below hb
      replace rx := rx.below hb
      replace ry := ry.below hb
      replace bg1 := bg1.below hb
      replace bg2 := bg2.below hb
      replace rj := rj.below hb
      replace rk := rk.below hb
      replace bg3 := bg3.below hb
      replace bg4 := bg4.below hb
      replace rf := rf.below hb
      replace hbel := hbel.trans (hb.mono hbel.size)
      clear hb
      go_wp2_with fail
      refine (specRatioOf A5 C5 fs p4 rf jf).mono ?_
      rw [HR.out]
      rintro e p5 ⟨rfl, hb⟩
      replace hx := hx.below hb
      replace hy := hy.below hb
      replace rx := rx.below hb
      replace ry := ry.below hb
      replace bg1 := bg1.below hb
      replace bg2 := bg2.below hb
      replace rj := rj.below hb
      replace rk := rk.below hb
      replace bg3 := bg3.below hb
      replace bg4 := bg4.below hb
      replace rf := rf.below hb
      replace hbel := hbel.trans (hb.mono hbel.size)
      clear hb
      go_upto_region 28 with fail
      obtain ⟨g6, hg6⟩ : ∃ g, g = p5.heap.size := ⟨_, rfl⟩
      obtain ⟨q5, hq5⟩ : ∃ V, V = p5.alloc (.cells #[.int .i64 vn, .int .i64 vd] 27) := ⟨_, rfl⟩
      have bg6 : Bx q5 g6 27 #[.int .i64 vn, .int .i64 vd] := by rw [hq5, hg6]; exact Bx.new _ _ _
      have hb : Below p5.heap.size p5 q5 := by rw [hq5]; exact (Below.refl _ _).alloc (Nat.le_refl _) _
      rw [← hg6, ← hq5]
      clear hq5 hg6
      replace hx := hx.below hb
      replace hy := hy.below hb
      replace rx := rx.below hb
      replace ry := ry.below hb
      replace bg1 := bg1.below hb
      replace bg2 := bg2.below hb
      replace rj := rj.below hb
      replace rk := rk.below hb
      replace bg3 := bg3.below hb
      replace bg4 := bg4.below hb
      replace rf := rf.below hb
      replace hbel := hbel.trans (hb.mono hbel.size)
      clear hb
      have cg60 : q5.cell? ⟨g6, 0, none⟩ = some (.int .i64 vn) := bg6.at_ 0 rfl
      have cg61 : q5.cell? ⟨g6, 1, none⟩ = some (.int .i64 vd) := bg6.at_ 1 rfl
      go_wp2
      go_ret
      exact ⟨rfl, hbel⟩

set_option maxRecDepth 100000 in
theorem lifted (os : Os) (started : os.Started) (H : Type) (enc : TypeId × Value → H) :
    ReturnsInHanded {} Try.checked os 3 .any (Rows.fnTrainsSpec.pre6 enc Try.prog Try.f3 Rows.fnTrainsRow.domain false) (Rows.fnTrainsSpec.post enc Try.prog Try.f3 false true false false) := by
  refine returnsInHanded_of_change (C := Try.checked) own_knob started (by kernel_rfl) Try.func3
    (ChangeSpec.witness6 (enc := enc) (C := Try.checked) false ⟨#[], #[.slice none 0 0, .slice none 0 0], []⟩ 8 (by kernel_rfl) (by kernel_rfl) (by kernel_rfl) (by kernel_rfl)) ?_
  intro W base args ds gs before hval0 hW hcnd _
  have hval : ∀ (j : Nat) t v, Try.f3.params[j]? = some t → args[j]? = some v → Value.okWide Try.prog W .any base t v := hval0
  have hW' := hW
  obtain ⟨p, q, hA0, hV, rfl, hfz, hnd⟩ := hW
  have hA : DataW.TrodAll enc Try.prog W 0 (fun _ => true) true Try.f3.params.toList args.toList ds p := hA0
  rw [Try.params3] at hA hval
  obtain ⟨v0, vs0, d0, ds0, p0, q0, hargs, rfl, rfl, h0, r0⟩ := trodAll_cons hA
  obtain ⟨v1, vs1, d1, ds1, p1, q1, rfl, rfl, rfl, h1, r1⟩ := trodAll_cons r0
  obtain ⟨rfl, rfl, rfl⟩ := trodAll_nil r1
  obtain rfl : args = #[v0, v1] := by cases args; simp_all
  obtain ⟨rfl, rfl⟩ := trodVars_none hV
  have k0 := h0
  have lt0 : ∀ x ∈ p0, x.block < W.heap.size := by obtain ⟨m, hm⟩ := k0; exact DataW.trod_lt m _ _ _ hm
  obtain ⟨xA, xC, xZ, rfl, hx⟩ := open_Bytes (hval 0 22 v0 rfl rfl) h0
  have k1 := h1
  have lt1 : ∀ x ∈ p1, x.block < W.heap.size := by obtain ⟨m, hm⟩ := k1; exact DataW.trod_lt m _ _ _ hm
  obtain ⟨yA, yC, yZ, rfl, hy⟩ := open_Bytes (hval 1 22 v1 rfl rfl) h1
  clear hA0 hval0
  refine (law_walk xA xC xZ yA yC yZ W hx hy).mono fun e W' ⟨he, bel⟩ => ?_
  subst he
  exact ⟨_, rfl, _, _, _, [], _, [], hW', trodAll_mk1 (shut_bool Try.underlying4 _), (trodAll_cons_mk (Below.trod laid_out (by kernel_rfl) (of_decide_eq_true (by kernel_rfl)) k0 bel lt0) (trodAll_cons_mk (Below.trod laid_out (by kernel_rfl) (of_decide_eq_true (by kernel_rfl)) k1 bel lt1) trodAll_mk0)), rfl, bel.frame _, fun h => by cases h⟩

set_option maxHeartbeats 20000000 in
theorem closed : joinedFacts Try.prog 3 Try.f3 Rows.fnTrainsSpec Rows.fnTrainsRow = true := by
  simp only [joinedFacts, Bool.and_eq_true]
  refine ⟨⟨⟨⟨⟨⟨⟨⟨⟨⟨⟨⟨⟨⟨⟨⟨⟨⟨⟨⟨⟨⟨⟨⟨⟨⟨⟨⟨⟨⟨⟨?_, laid_out⟩, fact_maps⟩, ?_⟩, ?_⟩, ?_⟩, fact_stops⟩, ?_⟩, fact_knobs⟩, ?_⟩, ?_⟩, ?_⟩, ?_⟩, ?_⟩, ?_⟩, ?_⟩, ?_⟩, ?_⟩, ?_⟩, ?_⟩, ?_⟩, ?_⟩, fact_plain⟩, ?_⟩, fact_heard⟩, fact_enter⟩, fact_lift⟩, ?_⟩, ?_⟩, ?_⟩, ?_⟩, ?_⟩
  all_goals (as_aux_lemma => kernel_rfl)

theorem over : Rows.fnTrainsRow.holds Try.pinned (OpenSpec.ofChange Rows.fnTrainsSpec) :=
  OpenClaim.holds_of_wide 3 Try.f3 rfl rfl rfl rfl rfl rfl rfl ⟨rfl, rfl, rfl, rfl, rfl⟩ rfl rfl rfl rfl rfl (by as_aux_lemma => kernel_rfl) Try.func3 closed
    (of_decide_eq_true (by as_aux_lemma => kernel_rfl)) (by unfold Func.isWrapper; rw [if_neg (by decide +kernel)]; exact ⟨rfl, rfl⟩)
    (fun os started H enc _ => lifted os started H enc)

/-- The statement. -/
theorem proved : Rows.FnTrainsSaid := over
end Go.Proofs.Ytaefgkhbgljkoaa.lawFnTrains
