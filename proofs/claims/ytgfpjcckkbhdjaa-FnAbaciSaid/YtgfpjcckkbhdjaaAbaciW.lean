/-
  laws.FnAbaci's walk.
-/
import Derived.Test.YtgfpjcckkbhdjaaAbaciM
import Derived.Test.YtgfpjcckkbhdjaaAbaQ
import Derived.Test.YtgfpjcckkbhdjaaAbaI
import Derived.Test.YtgfpjcckkbhdjaaAbaU
import Derived.Test.YtgfpjcckkbhdjaaAbaV
import Derived.Test.YtgfpjcckkbhdjaaAbaW
import Derived.Test.YtgfpjcckkbhdjaaAbaY
import Derived.Test.YtgfpjcckkbhdjaaAbaZ
import Derived.Test.YtgfpjcckkbhdjaaAbaP
import Derived.Test.YtgfpjcckkbhdjaaPicI
import Derived.Test.YtgfpjcckkbhdjaaPicS
import Derived.Test.YtgfpjcckkbhdjaaF6
import Derived.Test.YtgfpjcckkbhdjaaBytes
import Derived.Test.YtgfpjcckkbhdjaaDrawE
import Derived.Test.YtgfpjcckkbhdjaaDrawF
namespace Go.Proofs.Ytgfpjcckkbhdjaa
open Go.RowKit

theorem aba64 {U L W : Int} {rs : List (Int × Int)} (h : abaB U L W rs = true) : I64 U ∧ I64 L ∧ I64 W ∧ All2 rs := by
  obtain ⟨h1, _, h3⟩ := abaB_true h
  have hk := kindB_true h1
  refine ⟨mid64 (by omega) (by omega), mid64 (by omega) (by omega), mid64 (by omega) (by omega), fun x hx => ?_⟩
  have := List.all_eq_true.1 h3 x hx
  simp [rodB] at this
  exact ⟨mid64 (by omega) (by omega), mid64 (by omega) (by omega)⟩
theorem setR_64 (U L W : Int) (rs : List (Int × Int)) (v : Int) : I64 (setR U L W rs v).1 ∧ I64 (setR U L W rs v).2.1 ∧ I64 (setR U L W rs v).2.2.1 ∧ All2 (setR U L W rs v).2.2.2.1 := by
  have z : ∀ c : Int, I64 ((0, 0, 0, [], c) : Int × Int × Int × List (Int × Int) × Int).1 ∧ I64 ((0, 0, 0, [], c) : Int × Int × Int × List (Int × Int) × Int).2.1 ∧ I64 ((0, 0, 0, [], c) : Int × Int × Int × List (Int × Int) × Int).2.2.1 ∧ All2 ((0, 0, 0, [], c) : Int × Int × Int × List (Int × Int) × Int).2.2.2.1 :=
    fun _ => ⟨mid64 (by simp) (by simp), mid64 (by simp) (by simp), mid64 (by simp) (by simp), fun x hx => by cases hx⟩
  cases ha : abaB U L W rs with
  | false => rw [setR_bad ha]; exact z _
  | true =>
    by_cases hv : 0 ≤ v ∧ v ≤ 1000000000000
    · by_cases hl : leftR 10 rs.length v = 0
      · have h := setR_ok ha hv hl
        rw [h]
        exact aba64 (setR_done h).1
      · rw [setR_full ha hv hl]; exact z _
    · rw [setR_range ha hv]; exact z _

set_option maxRecDepth 100000 in
set_option maxHeartbeats 20000000 in
theorem abaci_walk (xA : Option Addr) (xC : Nat) (xZ : List Int) (w : World) (hx : RawU w xA xZ) :
    Calls Try.prog 5 #[.slice xA xZ.length xC] w fun e w' => e = .returned (.bool true) ∧ Below w.heap.size w w' := by
  have hbel : Below w.heap.size w w := Below.refl _ _
  go_enter Try.func5, Try.ntmps5
  go_wp2_with fail
  refine (f6big_any xA xZ.length xC w hx.len).mono ?_
  rintro e w1 ⟨rfl, hq⟩
  subst w1
  by_cases hl : 4096 < xZ.length
  · rw [decide_eq_true hl]
    clear hl
    go_wp2
    go_ret
    exact ⟨rfl, hbel⟩
  · rw [decide_eq_false hl]
    replace hx := hx.rd (by omega)
    clear hl
    go_wp2_with fail
    refine (drawSetAbacus_any xA xZ xC w hx).mono ?_
    rintro e w1 ⟨U1, L1, W1, rs1, A1, C1, z1, rfl, hd, hz, o1, hb⟩
    have r1 := o1.rd
    have H1 := Lib.hid hd
    have Z1 := Lib.hid hz
    clear hd hz o1
    replace hx := hx.below hb
    replace hbel := hbel.trans (hb.mono hbel.size)
    clear hb
    obtain ⟨⟨xU, xL, xW, xr, xc⟩, eR⟩ : ∃ R, R = setR U1 L1 W1 rs1 z1 := ⟨_, rfl⟩
    have hG := setR_64 U1 L1 W1 rs1 z1
    rw [← eR] at hG
    have HR1 := Lib.hid eR
    have G1 := Lib.hid hG
    clear eR hG
    go_upto_region 4 with fail
    obtain ⟨g3, hg3⟩ : ∃ g, g = w1.heap.size := ⟨_, rfl⟩
    obtain ⟨v1, hv1⟩ : ∃ V, V = w1.alloc (.cells #[.int .i64 U1, .int .i64 L1, .int .i64 W1, .slice A1 rs1.length C1] 56) := ⟨_, rfl⟩
    have b_g3 : Bx v1 g3 56 #[.int .i64 U1, .int .i64 L1, .int .i64 W1, .slice A1 rs1.length C1] := by rw [hv1, hg3]; exact Bx.new _ _ _
    have hb : Below w1.heap.size w1 v1 := by rw [hv1]; exact (Below.refl _ _).alloc (Nat.le_refl _) _
    rw [← hg3, ← hv1]
    clear hv1 hg3
    replace hx := hx.below hb
    replace r1 := r1.below hb
    replace hbel := hbel.trans (hb.mono hbel.size)
    clear hb
    have c30 := b_g3.at_ 0 rfl
    have c31 := b_g3.at_ 1 rfl
    have c32 := b_g3.at_ 2 rfl
    have c33 := b_g3.at_ 3 rfl
    go_wp2_with fail
    refine (implSetAbacus U1 L1 W1 A1 C1 rs1 z1 v1 r1 H1.out.u H1.out.l H1.out.w H1.out.all Z1.out).mono ?_
    rintro e w2 ⟨A2, C2, he, o_, hb⟩
    rw [← HR1.out] at o_ he
    replace he : e = .returned (.tuple #[.agg #[.int .i64 xU, .int .i64 xL, .int .i64 xW, .slice A2 xr.length C2], .int .i64 xc]) := he
    subst he
    have r2 : RdF pairF w2 A2 xr := o_.rd
    clear o_
    clear c30 c31 c32 c33
    replace hx := hx.below hb
    replace r1 := r1.below hb
    replace b_g3 := b_g3.below hb
    replace hbel := hbel.trans (hb.mono hbel.size)
    clear hb
    go_upto_region 5 with fail
    obtain ⟨g5, hg5⟩ : ∃ g, g = w2.heap.size := ⟨_, rfl⟩
    obtain ⟨v2, hv2⟩ : ∃ V, V = w2.alloc (.cells #[.int .i64 xU, .int .i64 xL, .int .i64 xW, .slice A2 xr.length C2] 56) := ⟨_, rfl⟩
    have b_g5 : Bx v2 g5 56 #[.int .i64 xU, .int .i64 xL, .int .i64 xW, .slice A2 xr.length C2] := by rw [hv2, hg5]; exact Bx.new _ _ _
    have hb : Below w2.heap.size w2 v2 := by rw [hv2]; exact (Below.refl _ _).alloc (Nat.le_refl _) _
    rw [← hg5, ← hv2]
    clear hv2 hg5
    replace hx := hx.below hb
    replace r1 := r1.below hb
    replace b_g3 := b_g3.below hb
    replace r2 := r2.below hb
    replace hbel := hbel.trans (hb.mono hbel.size)
    clear hb
    have c30 := b_g3.at_ 0 rfl
    have c31 := b_g3.at_ 1 rfl
    have c32 := b_g3.at_ 2 rfl
    have c33 := b_g3.at_ 3 rfl
    go_wp2_with fail
    refine (specSetAbacus U1 L1 W1 A1 C1 rs1 z1 v2 r1 H1.out.u H1.out.l H1.out.w H1.out.all Z1.out).mono ?_
    rintro e w3 ⟨A3, C3, he, o_, hb⟩
    rw [← HR1.out] at o_ he
    replace he : e = .returned (.tuple #[.agg #[.int .i64 xU, .int .i64 xL, .int .i64 xW, .slice A3 xr.length C3], .int .i64 xc]) := he
    subst he
    have r3 : RdF pairF w3 A3 xr := o_.rd
    clear o_
    clear c30 c31 c32 c33
    replace hx := hx.below hb
    replace r1 := r1.below hb
    replace b_g3 := b_g3.below hb
    replace r2 := r2.below hb
    replace b_g5 := b_g5.below hb
    replace hbel := hbel.trans (hb.mono hbel.size)
    clear hb
    go_upto_region 6 with fail
    obtain ⟨g7, hg7⟩ : ∃ g, g = w3.heap.size := ⟨_, rfl⟩
    obtain ⟨v3, hv3⟩ : ∃ V, V = w3.alloc (.cells #[.int .i64 xU, .int .i64 xL, .int .i64 xW, .slice A3 xr.length C3] 56) := ⟨_, rfl⟩
    have b_g7 : Bx v3 g7 56 #[.int .i64 xU, .int .i64 xL, .int .i64 xW, .slice A3 xr.length C3] := by rw [hv3, hg7]; exact Bx.new _ _ _
    have hb : Below w3.heap.size w3 v3 := by rw [hv3]; exact (Below.refl _ _).alloc (Nat.le_refl _) _
    rw [← hg7, ← hv3]
    clear hv3 hg7
    replace hx := hx.below hb
    replace r1 := r1.below hb
    replace b_g3 := b_g3.below hb
    replace r2 := r2.below hb
    replace b_g5 := b_g5.below hb
    replace r3 := r3.below hb
    replace hbel := hbel.trans (hb.mono hbel.size)
    clear hb
    go_wp2_with fail
    refine (drawPlainAbacus_any xA xZ xC v3 hx).mono ?_
    rintro e w4 ⟨U2, L2, W2, rs2, A2d, C2d, rfl, hd, o_, hb⟩
    have r2d := o_.rd
    have H2 := Lib.hid hd
    clear hd o_
    replace hx := hx.below hb
    replace r1 := r1.below hb
    replace b_g3 := b_g3.below hb
    replace r2 := r2.below hb
    replace b_g5 := b_g5.below hb
    replace r3 := r3.below hb
    replace b_g7 := b_g7.below hb
    replace hbel := hbel.trans (hb.mono hbel.size)
    clear hb
    go_upto_region 7 with fail
    obtain ⟨g9, hg9⟩ : ∃ g, g = w4.heap.size := ⟨_, rfl⟩
    obtain ⟨v4, hv4⟩ : ∃ V, V = w4.alloc (.cells #[.int .i64 U2, .int .i64 L2, .int .i64 W2, .slice A2d rs2.length C2d] 56) := ⟨_, rfl⟩
    have b_g9 : Bx v4 g9 56 #[.int .i64 U2, .int .i64 L2, .int .i64 W2, .slice A2d rs2.length C2d] := by rw [hv4, hg9]; exact Bx.new _ _ _
    have hb : Below w4.heap.size w4 v4 := by rw [hv4]; exact (Below.refl _ _).alloc (Nat.le_refl _) _
    rw [← hg9, ← hv4]
    clear hv4 hg9
    replace hx := hx.below hb
    replace r1 := r1.below hb
    replace b_g3 := b_g3.below hb
    replace r2 := r2.below hb
    replace b_g5 := b_g5.below hb
    replace r3 := r3.below hb
    replace b_g7 := b_g7.below hb
    replace r2d := r2d.below hb
    replace hbel := hbel.trans (hb.mono hbel.size)
    clear hb
    obtain ⟨⟨yU, yL, yW, yr, yc⟩, eR⟩ : ∃ R, R = plnR U2 L2 W2 rs2 := ⟨_, rfl⟩
    have hG := setR_64 U2 L2 W2 rs2 (abaV W2 rs2)
    rw [← plnR, ← eR] at hG
    have HR2 := Lib.hid eR
    have G2 := Lib.hid hG
    clear eR hG
    have c90 := b_g9.at_ 0 rfl
    have c91 := b_g9.at_ 1 rfl
    have c92 := b_g9.at_ 2 rfl
    have c93 := b_g9.at_ 3 rfl
    go_wp2_with fail
    refine (implPlainAbacus U2 L2 W2 A2d C2d rs2 v4 r2d H2.out.u H2.out.l H2.out.w H2.out.all).mono ?_
    rintro e w5 ⟨A5, C5, he, o_, hb⟩
    rw [← HR2.out] at o_ he
    replace he : e = .returned (.tuple #[.agg #[.int .i64 yU, .int .i64 yL, .int .i64 yW, .slice A5 yr.length C5], .int .i64 yc]) := he
    subst he
    have r5 : RdF pairF w5 A5 yr := o_.rd
    clear o_
    clear c90 c91 c92 c93
    replace hx := hx.below hb
    replace r1 := r1.below hb
    replace b_g3 := b_g3.below hb
    replace r2 := r2.below hb
    replace b_g5 := b_g5.below hb
    replace r3 := r3.below hb
    replace b_g7 := b_g7.below hb
    replace r2d := r2d.below hb
    replace b_g9 := b_g9.below hb
    replace hbel := hbel.trans (hb.mono hbel.size)
    clear hb
    go_upto_region 8 with fail
    obtain ⟨g10, hg10⟩ : ∃ g, g = w5.heap.size := ⟨_, rfl⟩
    obtain ⟨v5, hv5⟩ : ∃ V, V = w5.alloc (.cells #[.int .i64 yU, .int .i64 yL, .int .i64 yW, .slice A5 yr.length C5] 56) := ⟨_, rfl⟩
    have b_g10 : Bx v5 g10 56 #[.int .i64 yU, .int .i64 yL, .int .i64 yW, .slice A5 yr.length C5] := by rw [hv5, hg10]; exact Bx.new _ _ _
    have hb : Below w5.heap.size w5 v5 := by rw [hv5]; exact (Below.refl _ _).alloc (Nat.le_refl _) _
    rw [← hg10, ← hv5]
    clear hv5 hg10
    replace hx := hx.below hb
    replace r1 := r1.below hb
    replace b_g3 := b_g3.below hb
    replace r2 := r2.below hb
    replace b_g5 := b_g5.below hb
    replace r3 := r3.below hb
    replace b_g7 := b_g7.below hb
    replace r2d := r2d.below hb
    replace b_g9 := b_g9.below hb
    replace r5 := r5.below hb
    replace hbel := hbel.trans (hb.mono hbel.size)
    clear hb
    have c90 := b_g9.at_ 0 rfl
    have c91 := b_g9.at_ 1 rfl
    have c92 := b_g9.at_ 2 rfl
    have c93 := b_g9.at_ 3 rfl
    go_wp2_with fail
    refine (specPlainAbacus U2 L2 W2 A2d C2d rs2 v5 r2d H2.out.u H2.out.l H2.out.w H2.out.all).mono ?_
    rintro e w6 ⟨A6, C6, he, o_, hb⟩
    rw [← HR2.out] at o_ he
    replace he : e = .returned (.tuple #[.agg #[.int .i64 yU, .int .i64 yL, .int .i64 yW, .slice A6 yr.length C6], .int .i64 yc]) := he
    subst he
    have r6 : RdF pairF w6 A6 yr := o_.rd
    clear o_
    clear c90 c91 c92 c93
    replace hx := hx.below hb
    replace r1 := r1.below hb
    replace b_g3 := b_g3.below hb
    replace r2 := r2.below hb
    replace b_g5 := b_g5.below hb
    replace r3 := r3.below hb
    replace b_g7 := b_g7.below hb
    replace r2d := r2d.below hb
    replace b_g9 := b_g9.below hb
    replace r5 := r5.below hb
    replace b_g10 := b_g10.below hb
    replace hbel := hbel.trans (hb.mono hbel.size)
    clear hb
    go_upto_region 9 with fail
    obtain ⟨g12, hg12⟩ : ∃ g, g = w6.heap.size := ⟨_, rfl⟩
    obtain ⟨v6, hv6⟩ : ∃ V, V = w6.alloc (.cells #[.int .i64 yU, .int .i64 yL, .int .i64 yW, .slice A6 yr.length C6] 56) := ⟨_, rfl⟩
    have b_g12 : Bx v6 g12 56 #[.int .i64 yU, .int .i64 yL, .int .i64 yW, .slice A6 yr.length C6] := by rw [hv6, hg12]; exact Bx.new _ _ _
    have hb : Below w6.heap.size w6 v6 := by rw [hv6]; exact (Below.refl _ _).alloc (Nat.le_refl _) _
    rw [← hg12, ← hv6]
    clear hv6 hg12
    replace hx := hx.below hb
    replace r1 := r1.below hb
    replace b_g3 := b_g3.below hb
    replace r2 := r2.below hb
    replace b_g5 := b_g5.below hb
    replace r3 := r3.below hb
    replace b_g7 := b_g7.below hb
    replace r2d := r2d.below hb
    replace b_g9 := b_g9.below hb
    replace r5 := r5.below hb
    replace b_g10 := b_g10.below hb
    replace r6 := r6.below hb
    replace hbel := hbel.trans (hb.mono hbel.size)
    clear hb
    go_wp2_with fail
    refine (drawAbacusValue_any xA xZ xC v6 hx).mono ?_
    rintro e w7 ⟨U3, L3, W3, rs3, A3d, C3d, rfl, hd, o_, hb⟩
    have r3d := o_.rd
    have H3 := Lib.hid hd
    clear hd o_
    replace hx := hx.below hb
    replace r1 := r1.below hb
    replace b_g3 := b_g3.below hb
    replace r2 := r2.below hb
    replace b_g5 := b_g5.below hb
    replace r3 := r3.below hb
    replace b_g7 := b_g7.below hb
    replace r2d := r2d.below hb
    replace b_g9 := b_g9.below hb
    replace r5 := r5.below hb
    replace b_g10 := b_g10.below hb
    replace r6 := r6.below hb
    replace b_g12 := b_g12.below hb
    replace hbel := hbel.trans (hb.mono hbel.size)
    clear hb
    go_upto_region 10 with fail
    obtain ⟨g14, hg14⟩ : ∃ g, g = w7.heap.size := ⟨_, rfl⟩
    obtain ⟨v7, hv7⟩ : ∃ V, V = w7.alloc (.cells #[.int .i64 U3, .int .i64 L3, .int .i64 W3, .slice A3d rs3.length C3d] 56) := ⟨_, rfl⟩
    have b_g14 : Bx v7 g14 56 #[.int .i64 U3, .int .i64 L3, .int .i64 W3, .slice A3d rs3.length C3d] := by rw [hv7, hg14]; exact Bx.new _ _ _
    have hb : Below w7.heap.size w7 v7 := by rw [hv7]; exact (Below.refl _ _).alloc (Nat.le_refl _) _
    rw [← hg14, ← hv7]
    clear hv7 hg14
    replace hx := hx.below hb
    replace r1 := r1.below hb
    replace b_g3 := b_g3.below hb
    replace r2 := r2.below hb
    replace b_g5 := b_g5.below hb
    replace r3 := r3.below hb
    replace b_g7 := b_g7.below hb
    replace r2d := r2d.below hb
    replace b_g9 := b_g9.below hb
    replace r5 := r5.below hb
    replace b_g10 := b_g10.below hb
    replace r6 := r6.below hb
    replace b_g12 := b_g12.below hb
    replace r3d := r3d.below hb
    replace hbel := hbel.trans (hb.mono hbel.size)
    clear hb
    obtain ⟨⟨n3, c3⟩, eR⟩ : ∃ R, R = avR U3 L3 W3 rs3 := ⟨_, rfl⟩
    have HR3 := Lib.hid eR
    clear eR
    have c140 := b_g14.at_ 0 rfl
    have c141 := b_g14.at_ 1 rfl
    have c142 := b_g14.at_ 2 rfl
    have c143 := b_g14.at_ 3 rfl
    go_wp2_with fail
    refine (implAbacusValue U3 L3 W3 A3d C3d rs3 v7 r3d H3.out.u H3.out.l H3.out.w H3.out.all).mono ?_
    rintro e w8 ⟨he, hb⟩
    rw [← HR3.out] at he
    replace he : e = .returned (.tuple #[.int .i64 n3, .int .i64 c3]) := he
    subst he
    clear c140 c141 c142 c143
    replace hx := hx.below hb
    replace r1 := r1.below hb
    replace b_g3 := b_g3.below hb
    replace r2 := r2.below hb
    replace b_g5 := b_g5.below hb
    replace r3 := r3.below hb
    replace b_g7 := b_g7.below hb
    replace r2d := r2d.below hb
    replace b_g9 := b_g9.below hb
    replace r5 := r5.below hb
    replace b_g10 := b_g10.below hb
    replace r6 := r6.below hb
    replace b_g12 := b_g12.below hb
    replace r3d := r3d.below hb
    replace b_g14 := b_g14.below hb
    replace hbel := hbel.trans (hb.mono hbel.size)
    clear hb
    have c140 := b_g14.at_ 0 rfl
    have c141 := b_g14.at_ 1 rfl
    have c142 := b_g14.at_ 2 rfl
    have c143 := b_g14.at_ 3 rfl
    go_wp2_with fail
    refine (specAbacusValue U3 L3 W3 A3d C3d rs3 w8 r3d H3.out.u H3.out.l H3.out.w H3.out.all).mono ?_
    rintro e w9 ⟨he, hb⟩
    rw [← HR3.out] at he
    replace he : e = .returned (.tuple #[.int .i64 n3, .int .i64 c3]) := he
    subst he
    clear c140 c141 c142 c143
    replace hx := hx.below hb
    replace r1 := r1.below hb
    replace b_g3 := b_g3.below hb
    replace r2 := r2.below hb
    replace b_g5 := b_g5.below hb
    replace r3 := r3.below hb
    replace b_g7 := b_g7.below hb
    replace r2d := r2d.below hb
    replace b_g9 := b_g9.below hb
    replace r5 := r5.below hb
    replace b_g10 := b_g10.below hb
    replace r6 := r6.below hb
    replace b_g12 := b_g12.below hb
    replace r3d := r3d.below hb
    replace b_g14 := b_g14.below hb
    replace hbel := hbel.trans (hb.mono hbel.size)
    clear hb
    clear r3d b_g14
    go_wp2_with fail
    refine (drawAbacusPicture_any xA xZ xC w9 hx).mono ?_
    rintro e w10 ⟨U4, L4, W4, rs4, A4d, C4d, rfl, hd, o_, hb⟩
    have r4d := o_.rd
    have H4 := Lib.hid hd
    clear hd o_
    replace hx := hx.below hb
    replace r1 := r1.below hb
    replace b_g3 := b_g3.below hb
    replace r2 := r2.below hb
    replace b_g5 := b_g5.below hb
    replace r3 := r3.below hb
    replace b_g7 := b_g7.below hb
    replace r2d := r2d.below hb
    replace b_g9 := b_g9.below hb
    replace r5 := r5.below hb
    replace b_g10 := b_g10.below hb
    replace r6 := r6.below hb
    replace b_g12 := b_g12.below hb
    replace hbel := hbel.trans (hb.mono hbel.size)
    clear hb
    go_upto_region 13 with fail
    obtain ⟨g19, hg19⟩ : ∃ g, g = w10.heap.size := ⟨_, rfl⟩
    obtain ⟨v10, hv10⟩ : ∃ V, V = w10.alloc (.cells #[.int .i64 U4, .int .i64 L4, .int .i64 W4, .slice A4d rs4.length C4d] 56) := ⟨_, rfl⟩
    have b_g19 : Bx v10 g19 56 #[.int .i64 U4, .int .i64 L4, .int .i64 W4, .slice A4d rs4.length C4d] := by rw [hv10, hg19]; exact Bx.new _ _ _
    have hb : Below w10.heap.size w10 v10 := by rw [hv10]; exact (Below.refl _ _).alloc (Nat.le_refl _) _
    rw [← hg19, ← hv10]
    clear hv10 hg19
    replace hx := hx.below hb
    replace r1 := r1.below hb
    replace b_g3 := b_g3.below hb
    replace r2 := r2.below hb
    replace b_g5 := b_g5.below hb
    replace r3 := r3.below hb
    replace b_g7 := b_g7.below hb
    replace r2d := r2d.below hb
    replace b_g9 := b_g9.below hb
    replace r5 := r5.below hb
    replace b_g10 := b_g10.below hb
    replace r6 := r6.below hb
    replace b_g12 := b_g12.below hb
    replace r4d := r4d.below hb
    replace hbel := hbel.trans (hb.mono hbel.size)
    clear hb
    obtain ⟨⟨ls, c4⟩, eR⟩ : ∃ R, R = picR U4 L4 W4 rs4 := ⟨_, rfl⟩
    have HR4 := Lib.hid eR
    clear eR
    have c190 := b_g19.at_ 0 rfl
    have c191 := b_g19.at_ 1 rfl
    have c192 := b_g19.at_ 2 rfl
    have c193 := b_g19.at_ 3 rfl
    go_wp2_with fail
    refine (implAbacusPicture U4 L4 W4 A4d C4d rs4 v10 r4d H4.out.u H4.out.l H4.out.w H4.out.all).mono ?_
    rintro e w11 ⟨T1, D1, he, o_, hb⟩
    rw [← HR4.out] at o_ he
    replace he : e = .returned (.tuple #[.slice T1 ls.length D1, .int .i64 c4]) := he
    subst he
    have t1 : RdF textF w11 T1 ls := o_.rd
    clear o_
    clear c190 c191 c192 c193
    replace hx := hx.below hb
    replace r1 := r1.below hb
    replace b_g3 := b_g3.below hb
    replace r2 := r2.below hb
    replace b_g5 := b_g5.below hb
    replace r3 := r3.below hb
    replace b_g7 := b_g7.below hb
    replace r2d := r2d.below hb
    replace b_g9 := b_g9.below hb
    replace r5 := r5.below hb
    replace b_g10 := b_g10.below hb
    replace r6 := r6.below hb
    replace b_g12 := b_g12.below hb
    replace r4d := r4d.below hb
    replace b_g19 := b_g19.below hb
    replace hbel := hbel.trans (hb.mono hbel.size)
    clear hb
    have c190 := b_g19.at_ 0 rfl
    have c191 := b_g19.at_ 1 rfl
    have c192 := b_g19.at_ 2 rfl
    have c193 := b_g19.at_ 3 rfl
    go_wp2_with fail
    refine (specAbacusPicture U4 L4 W4 A4d C4d rs4 w11 r4d H4.out.u H4.out.l H4.out.w H4.out.all).mono ?_
    rintro e w12 ⟨T2, D2, he, o_, hb⟩
    rw [← HR4.out] at o_ he
    replace he : e = .returned (.tuple #[.slice T2 ls.length D2, .int .i64 c4]) := he
    subst he
    have t2 : RdF textF w12 T2 ls := o_.rd
    clear o_
    clear c190 c191 c192 c193
    replace hx := hx.below hb
    replace r1 := r1.below hb
    replace b_g3 := b_g3.below hb
    replace r2 := r2.below hb
    replace b_g5 := b_g5.below hb
    replace r3 := r3.below hb
    replace b_g7 := b_g7.below hb
    replace r2d := r2d.below hb
    replace b_g9 := b_g9.below hb
    replace r5 := r5.below hb
    replace b_g10 := b_g10.below hb
    replace r6 := r6.below hb
    replace b_g12 := b_g12.below hb
    replace r4d := r4d.below hb
    replace b_g19 := b_g19.below hb
    replace t1 := t1.below hb
    replace hbel := hbel.trans (hb.mono hbel.size)
    clear hb
    clear r4d b_g19
    go_wp2_with fail
    refine (drawSameAbacus_any xA xZ xC w12 hx).mono ?_
    rintro e w13 ⟨U5, L5, W5, W6, rs5, rs6, A5d, A6d, C5d, C6d, rfl, hd, hd2, r5d, r6d, hb⟩
    have H5 := Lib.hid hd
    have H6 := Lib.hid hd2
    clear hd hd2
    replace hx := hx.below hb
    replace r1 := r1.below hb
    replace b_g3 := b_g3.below hb
    replace r2 := r2.below hb
    replace b_g5 := b_g5.below hb
    replace r3 := r3.below hb
    replace b_g7 := b_g7.below hb
    replace r2d := r2d.below hb
    replace b_g9 := b_g9.below hb
    replace r5 := r5.below hb
    replace b_g10 := b_g10.below hb
    replace r6 := r6.below hb
    replace b_g12 := b_g12.below hb
    replace t1 := t1.below hb
    replace t2 := t2.below hb
    replace hbel := hbel.trans (hb.mono hbel.size)
    clear hb
    clear hx
    go_upto_region 16 with fail
    obtain ⟨g24, hg24⟩ : ∃ g, g = w13.heap.size := ⟨_, rfl⟩
    obtain ⟨v13, hv13⟩ : ∃ V, V = (w13.alloc (.cells #[.int .i64 U5, .int .i64 L5, .int .i64 W5, .slice A5d rs5.length C5d] 56)).alloc (.cells #[.int .i64 U5, .int .i64 L5, .int .i64 W6, .slice A6d rs6.length C6d] 56) := ⟨_, rfl⟩
    have b_g24 : Bx v13 g24 56 #[.int .i64 U5, .int .i64 L5, .int .i64 W5, .slice A5d rs5.length C5d] := by rw [hv13, hg24]; exact (Bx.new _ _ _).alloc _
    have b_g241 : Bx v13 (g24 + 1) 56 #[.int .i64 U5, .int .i64 L5, .int .i64 W6, .slice A6d rs6.length C6d] := by rw [hv13, hg24]; simpa using Bx.new (w13.alloc (.cells #[.int .i64 U5, .int .i64 L5, .int .i64 W5, .slice A5d rs5.length C5d] 56)) #[.int .i64 U5, .int .i64 L5, .int .i64 W6, .slice A6d rs6.length C6d] 56
    have hb : Below w13.heap.size w13 v13 := by rw [hv13]; exact ((Below.refl _ _).alloc (Nat.le_refl _) _).alloc (by simp) _
    rw [← hg24, ← hv13]
    clear hv13 hg24
    replace r1 := r1.below hb
    replace b_g3 := b_g3.below hb
    replace r2 := r2.below hb
    replace b_g5 := b_g5.below hb
    replace r3 := r3.below hb
    replace b_g7 := b_g7.below hb
    replace r2d := r2d.below hb
    replace b_g9 := b_g9.below hb
    replace r5 := r5.below hb
    replace b_g10 := b_g10.below hb
    replace r6 := r6.below hb
    replace b_g12 := b_g12.below hb
    replace t1 := t1.below hb
    replace t2 := t2.below hb
    replace r5d := r5d.below hb
    replace r6d := r6d.below hb
    replace hbel := hbel.trans (hb.mono hbel.size)
    clear hb
    obtain ⟨e1, he1⟩ : ∃ b : Bool, b = abaEqB U5 L5 W5 U5 L5 W6 rs5 rs6 := ⟨_, rfl⟩
    obtain ⟨e2, he2⟩ : ∃ b : Bool, b = abaB U1 L1 W1 rs1 := ⟨_, rfl⟩
    obtain ⟨e3, he3⟩ : ∃ b : Bool, b = plainB U2 L2 W2 rs2 := ⟨_, rfl⟩
    have K1 : Hid (∀ q : After v13, Calls Try.prog 47 #[.agg #[.int .i64 xU, .int .i64 xL, .int .i64 xW, .slice A2 xr.length C2], .agg #[.int .i64 xU, .int .i64 xL, .int .i64 xW, .slice A3 xr.length C3]] q.now fun e w' => e = .returned (.bool true) ∧ Below q.now.heap.size q.now w') := Lib.hid fun q => by
      have h := specSameAbacus xU xL xW A2 C2 xr xU xL xW A3 C3 xr q.now (r2.below q.ok) G1.out.1 G1.out.2.1 G1.out.2.2.1 G1.out.2.2.2 (r3.below q.ok) G1.out.1 G1.out.2.1 G1.out.2.2.1 G1.out.2.2.2
      rw [abaEqB_self] at h
      exact h
    have K2 : Hid (∀ q : After v13, Calls Try.prog 47 #[.agg #[.int .i64 yU, .int .i64 yL, .int .i64 yW, .slice A5 yr.length C5], .agg #[.int .i64 yU, .int .i64 yL, .int .i64 yW, .slice A6 yr.length C6]] q.now fun e w' => e = .returned (.bool true) ∧ Below q.now.heap.size q.now w') := Lib.hid fun q => by
      have h := specSameAbacus yU yL yW A5 C5 yr yU yL yW A6 C6 yr q.now (r5.below q.ok) G2.out.1 G2.out.2.1 G2.out.2.2.1 G2.out.2.2.2 (r6.below q.ok) G2.out.1 G2.out.2.1 G2.out.2.2.1 G2.out.2.2.2
      rw [abaEqB_self] at h
      exact h
    have K3 : Hid (∀ q : After v13, Calls Try.prog 48 #[.slice T1 ls.length D1, .slice T2 ls.length D2] q.now fun e w' => e = .returned (.bool true) ∧ Below q.now.heap.size q.now w') := Lib.hid fun q => by
      have h := f6texts_any T1 T2 D1 D2 ls ls q.now (t1.below q.ok) (t2.below q.ok)
      rw [decide_eq_true (rfl : ls = ls)] at h
      exact h
    have K4 : Hid (∀ q : After v13, Calls Try.prog 49 #[.agg #[.int .i64 U5, .int .i64 L5, .int .i64 W5, .slice A5d rs5.length C5d], .agg #[.int .i64 U5, .int .i64 L5, .int .i64 W6, .slice A6d rs6.length C6d]] q.now fun e w' => e = .returned (.bool e1) ∧ Below q.now.heap.size q.now w') := Lib.hid fun q => by
      have h := implSameAbacus U5 L5 W5 A5d C5d rs5 U5 L5 W6 A6d C6d rs6 q.now (r5d.below q.ok) H5.out.u H5.out.l H5.out.w H5.out.all (r6d.below q.ok) H6.out.u H6.out.l H6.out.w H6.out.all
      rw [← he1] at h
      exact h
    have K5 : Hid (∀ q : After v13, Calls Try.prog 47 #[.agg #[.int .i64 U5, .int .i64 L5, .int .i64 W5, .slice A5d rs5.length C5d], .agg #[.int .i64 U5, .int .i64 L5, .int .i64 W6, .slice A6d rs6.length C6d]] q.now fun e w' => e = .returned (.bool e1) ∧ Below q.now.heap.size q.now w') := Lib.hid fun q => by
      have h := specSameAbacus U5 L5 W5 A5d C5d rs5 U5 L5 W6 A6d C6d rs6 q.now (r5d.below q.ok) H5.out.u H5.out.l H5.out.w H5.out.all (r6d.below q.ok) H6.out.u H6.out.l H6.out.w H6.out.all
      rw [← he1] at h
      exact h
    have K6 : Hid (∀ q : After v13, Calls Try.prog 50 #[.agg #[.int .i64 U1, .int .i64 L1, .int .i64 W1, .slice A1 rs1.length C1]] q.now fun e w' => e = .returned (.bool e2) ∧ Below q.now.heap.size q.now w') := Lib.hid fun q => by
      have h := implValidAbacus U1 L1 W1 A1 C1 rs1 q.now (r1.below q.ok) H1.out.u H1.out.l H1.out.w H1.out.all
      rw [← he2] at h
      exact h
    have K7 : Hid (∀ q : After v13, Calls Try.prog 51 #[.agg #[.int .i64 U1, .int .i64 L1, .int .i64 W1, .slice A1 rs1.length C1]] q.now fun e w' => e = .returned (.bool e2) ∧ Below q.now.heap.size q.now w') := Lib.hid fun q => by
      have h := specValidAbacus U1 L1 W1 A1 C1 rs1 q.now (r1.below q.ok) H1.out.u H1.out.l H1.out.w H1.out.all
      rw [← he2] at h
      exact h
    have K8 : Hid (∀ q : After v13, Calls Try.prog 52 #[.agg #[.int .i64 U2, .int .i64 L2, .int .i64 W2, .slice A2d rs2.length C2d]] q.now fun e w' => e = .returned (.bool e3) ∧ Below q.now.heap.size q.now w') := Lib.hid fun q => by
      have h := implIsPlain U2 L2 W2 A2d C2d rs2 q.now (r2d.below q.ok) H2.out.u H2.out.l H2.out.w H2.out.all
      rw [← he3] at h
      exact h
    have K9 : Hid (∀ q : After v13, Calls Try.prog 53 #[.agg #[.int .i64 U2, .int .i64 L2, .int .i64 W2, .slice A2d rs2.length C2d]] q.now fun e w' => e = .returned (.bool e3) ∧ Below q.now.heap.size q.now w') := Lib.hid fun q => by
      have h := specIsPlain U2 L2 W2 A2d C2d rs2 q.now (r2d.below q.ok) H2.out.u H2.out.l H2.out.w H2.out.all
      rw [← he3] at h
      exact h
    clear he1 he2 he3
    have k3_0 := kept_after (v := .int .i64 U1) (b_g3.at_ 0 rfl)
    have k3_1 := kept_after (v := .int .i64 L1) (b_g3.at_ 1 rfl)
    have k3_2 := kept_after (v := .int .i64 W1) (b_g3.at_ 2 rfl)
    have k3_3 := kept_after (v := .slice A1 rs1.length C1) (b_g3.at_ 3 rfl)
    have k5_0 := kept_after (v := .int .i64 xU) (b_g5.at_ 0 rfl)
    have k5_1 := kept_after (v := .int .i64 xL) (b_g5.at_ 1 rfl)
    have k5_2 := kept_after (v := .int .i64 xW) (b_g5.at_ 2 rfl)
    have k5_3 := kept_after (v := .slice A2 xr.length C2) (b_g5.at_ 3 rfl)
    have k7_0 := kept_after (v := .int .i64 xU) (b_g7.at_ 0 rfl)
    have k7_1 := kept_after (v := .int .i64 xL) (b_g7.at_ 1 rfl)
    have k7_2 := kept_after (v := .int .i64 xW) (b_g7.at_ 2 rfl)
    have k7_3 := kept_after (v := .slice A3 xr.length C3) (b_g7.at_ 3 rfl)
    have k9_0 := kept_after (v := .int .i64 U2) (b_g9.at_ 0 rfl)
    have k9_1 := kept_after (v := .int .i64 L2) (b_g9.at_ 1 rfl)
    have k9_2 := kept_after (v := .int .i64 W2) (b_g9.at_ 2 rfl)
    have k9_3 := kept_after (v := .slice A2d rs2.length C2d) (b_g9.at_ 3 rfl)
    have k10_0 := kept_after (v := .int .i64 yU) (b_g10.at_ 0 rfl)
    have k10_1 := kept_after (v := .int .i64 yL) (b_g10.at_ 1 rfl)
    have k10_2 := kept_after (v := .int .i64 yW) (b_g10.at_ 2 rfl)
    have k10_3 := kept_after (v := .slice A5 yr.length C5) (b_g10.at_ 3 rfl)
    have k12_0 := kept_after (v := .int .i64 yU) (b_g12.at_ 0 rfl)
    have k12_1 := kept_after (v := .int .i64 yL) (b_g12.at_ 1 rfl)
    have k12_2 := kept_after (v := .int .i64 yW) (b_g12.at_ 2 rfl)
    have k12_3 := kept_after (v := .slice A6 yr.length C6) (b_g12.at_ 3 rfl)
    have k24_0 := kept_after (v := .int .i64 U5) (b_g24.at_ 0 rfl)
    have k24_1 := kept_after (v := .int .i64 L5) (b_g24.at_ 1 rfl)
    have k24_2 := kept_after (v := .int .i64 W5) (b_g24.at_ 2 rfl)
    have k24_3 := kept_after (v := .slice A5d rs5.length C5d) (b_g24.at_ 3 rfl)
    have k25_0 := kept_after (v := .int .i64 U5) (b_g241.at_ 0 rfl)
    have k25_1 := kept_after (v := .int .i64 L5) (b_g241.at_ 1 rfl)
    have k25_2 := kept_after (v := .int .i64 W6) (b_g241.at_ 2 rfl)
    have k25_3 := kept_after (v := .slice A6d rs6.length C6d) (b_g241.at_ 3 rfl)
    refine wp_region_after (by kernel_rfl) (by kernel_rfl) ?_
    repeat (go_big_quiet_step (first | (go_at_call 47; with_reducible (first | exact calls_after (K1.out _) | exact calls_after (K2.out _) | exact calls_after (K5.out _))) | (go_at_call 48; with_reducible (first | exact calls_after (K3.out _))) | (go_at_call 49; with_reducible (first | exact calls_after (K4.out _))) | (go_at_call 50; with_reducible (first | exact calls_after (K6.out _))) | (go_at_call 51; with_reducible (first | exact calls_after (K7.out _))) | (go_at_call 52; with_reducible (first | exact calls_after (K8.out _))) | (go_at_call 53; with_reducible (first | exact calls_after (K9.out _)))))
    refine wpQuiet_nil ?_
    intro q
    clear k3_0 k3_1 k3_2 k3_3 k5_0 k5_1 k5_2 k5_3 k7_0 k7_1 k7_2 k7_3 k9_0 k9_1 k9_2 k9_3 k10_0 k10_1 k10_2 k10_3 k12_0 k12_1 k12_2 k12_3 k24_0 k24_1 k24_2 k24_3 k25_0 k25_1 k25_2 k25_3 K1 K2 K3 K4 K5 K6 K7 K8 K9
    clear r1 b_g3 b_g7 r3 b_g12 r6 t1 t2 r5d r6d b_g24 b_g241
    obtain ⟨w20, hw20⟩ : ∃ X, X = q.now := ⟨_, rfl⟩
    have hb : Below v13.heap.size v13 w20 := by rw [hw20]; exact q.ok
    rw [← hw20]
    clear hw20 q
    replace r2 := r2.below hb
    replace b_g5 := b_g5.below hb
    replace r2d := r2d.below hb
    replace b_g9 := b_g9.below hb
    replace r5 := r5.below hb
    replace b_g10 := b_g10.below hb
    replace hbel := hbel.trans (hb.mono hbel.size)
    clear hb
    go_upto_region 18 with fail
    by_cases hy : yc = 0
    · subst hy
      obtain ⟨j1, j2, j3⟩ := plnR_done HR2.out.symm
      obtain ⟨V, hV⟩ : ∃ V, V = abaV W2 rs2 := ⟨_, rfl⟩
      rw [← hV] at j1 j2
      have J1 := Lib.hid (fun u (h : RdF pairF u A2d rs2) => implAbacusValue U2 L2 W2 A2d C2d rs2 u h H2.out.u H2.out.l H2.out.w H2.out.all)
      have J2 := Lib.hid (fun u (h : RdF pairF u A5 yr) => implAbacusValue yU yL yW A5 C5 yr u h G2.out.1 G2.out.2.1 G2.out.2.2.1 G2.out.2.2.2)
      have J3 := Lib.hid (fun u (h : RdF pairF u A5 yr) => implIsPlain yU yL yW A5 C5 yr u h G2.out.1 G2.out.2.1 G2.out.2.2.1 G2.out.2.2.2)
      rw [j1] at J1
      rw [j2] at J2
      rw [j3] at J3
      clear j1 j2 j3 hV
      have c90 := b_g9.at_ 0 rfl
      have c91 := b_g9.at_ 1 rfl
      have c92 := b_g9.at_ 2 rfl
      have c93 := b_g9.at_ 3 rfl
      go_wp2_with fail
      refine (J1.out w20 r2d).mono ?_
      rintro e w21 ⟨rfl, hb⟩
      clear c90 c91 c92 c93
      replace r2 := r2.below hb
      replace b_g5 := b_g5.below hb
      replace r2d := r2d.below hb
      replace b_g9 := b_g9.below hb
      replace r5 := r5.below hb
      replace b_g10 := b_g10.below hb
      replace hbel := hbel.trans (hb.mono hbel.size)
      clear hb
      have c10 := b_g10.at_ 0 rfl
      have c11 := b_g10.at_ 1 rfl
      have c12 := b_g10.at_ 2 rfl
      have c13 := b_g10.at_ 3 rfl
      go_wp2_with fail
      refine (J2.out w21 r5).mono ?_
      rintro e w22 ⟨rfl, hb⟩
      clear c10 c11 c12 c13
      replace r2 := r2.below hb
      replace b_g5 := b_g5.below hb
      replace r2d := r2d.below hb
      replace b_g9 := b_g9.below hb
      replace r5 := r5.below hb
      replace b_g10 := b_g10.below hb
      replace hbel := hbel.trans (hb.mono hbel.size)
      clear hb
      have c10 := b_g10.at_ 0 rfl
      have c11 := b_g10.at_ 1 rfl
      have c12 := b_g10.at_ 2 rfl
      have c13 := b_g10.at_ 3 rfl
      go_wp2_with fail
      refine (J3.out w22 r5).mono ?_
      rintro e w23 ⟨rfl, hb⟩
      clear c10 c11 c12 c13
      replace r2 := r2.below hb
      replace b_g5 := b_g5.below hb
      replace r2d := r2d.below hb
      replace b_g9 := b_g9.below hb
      replace r5 := r5.below hb
      replace b_g10 := b_g10.below hb
      replace hbel := hbel.trans (hb.mono hbel.size)
      clear hb
      clear r2d r5 b_g9 b_g10 J1 J2 J3
      go_upto_region 23 with fail
      by_cases hc : xc = 0
      · subst hc
        obtain ⟨-, j2, j3⟩ := setR_done HR1.out.symm
        have J2 := Lib.hid (fun u (h : RdF pairF u A2 xr) => implAbacusValue xU xL xW A2 C2 xr u h G1.out.1 G1.out.2.1 G1.out.2.2.1 G1.out.2.2.2)
        have J3 := Lib.hid (fun u (h : RdF pairF u A2 xr) => implIsPlain xU xL xW A2 C2 xr u h G1.out.1 G1.out.2.1 G1.out.2.2.1 G1.out.2.2.2)
        rw [j2] at J2
        rw [j3] at J3
        clear j2 j3
        have c50 := b_g5.at_ 0 rfl
        have c51 := b_g5.at_ 1 rfl
        have c52 := b_g5.at_ 2 rfl
        have c53 := b_g5.at_ 3 rfl
        go_wp2_with fail
        refine (J2.out w23 r2).mono ?_
        rintro e w30 ⟨rfl, hb⟩
        clear c50 c51 c52 c53
        replace r2 := r2.below hb
        replace b_g5 := b_g5.below hb
        replace hbel := hbel.trans (hb.mono hbel.size)
        clear hb
        have c50 := b_g5.at_ 0 rfl
        have c51 := b_g5.at_ 1 rfl
        have c52 := b_g5.at_ 2 rfl
        have c53 := b_g5.at_ 3 rfl
        go_wp2_with fail
        refine (J3.out w30 r2).mono ?_
        rintro e w31 ⟨rfl, hb⟩
        clear c50 c51 c52 c53
        replace r2 := r2.below hb
        replace b_g5 := b_g5.below hb
        replace hbel := hbel.trans (hb.mono hbel.size)
        clear hb
        go_wp2
        go_ret
        exact ⟨rfl, hbel⟩
      · have hc' : (xc == 0) = false := beq_eq_false_iff_ne.2 hc
        go_wp2
        go_ret
        exact ⟨rfl, hbel⟩
    · have hy' : (yc == 0) = false := beq_eq_false_iff_ne.2 hy
      go_upto_region 23 with fail
      clear hy'
      by_cases hc : xc = 0
      · subst hc
        obtain ⟨-, j2, j3⟩ := setR_done HR1.out.symm
        have J2 := Lib.hid (fun u (h : RdF pairF u A2 xr) => implAbacusValue xU xL xW A2 C2 xr u h G1.out.1 G1.out.2.1 G1.out.2.2.1 G1.out.2.2.2)
        have J3 := Lib.hid (fun u (h : RdF pairF u A2 xr) => implIsPlain xU xL xW A2 C2 xr u h G1.out.1 G1.out.2.1 G1.out.2.2.1 G1.out.2.2.2)
        rw [j2] at J2
        rw [j3] at J3
        clear j2 j3
        have c50 := b_g5.at_ 0 rfl
        have c51 := b_g5.at_ 1 rfl
        have c52 := b_g5.at_ 2 rfl
        have c53 := b_g5.at_ 3 rfl
        go_wp2_with fail
        refine (J2.out w20 r2).mono ?_
        rintro e w30 ⟨rfl, hb⟩
        clear c50 c51 c52 c53
        replace r2 := r2.below hb
        replace b_g5 := b_g5.below hb
        replace r2d := r2d.below hb
        replace b_g9 := b_g9.below hb
        replace r5 := r5.below hb
        replace b_g10 := b_g10.below hb
        replace hbel := hbel.trans (hb.mono hbel.size)
        clear hb
        have c50 := b_g5.at_ 0 rfl
        have c51 := b_g5.at_ 1 rfl
        have c52 := b_g5.at_ 2 rfl
        have c53 := b_g5.at_ 3 rfl
        go_wp2_with fail
        refine (J3.out w30 r2).mono ?_
        rintro e w31 ⟨rfl, hb⟩
        clear c50 c51 c52 c53
        replace r2 := r2.below hb
        replace b_g5 := b_g5.below hb
        replace r2d := r2d.below hb
        replace b_g9 := b_g9.below hb
        replace r5 := r5.below hb
        replace b_g10 := b_g10.below hb
        replace hbel := hbel.trans (hb.mono hbel.size)
        clear hb
        go_wp2
        go_ret
        exact ⟨rfl, hbel⟩
      · have hc' : (xc == 0) = false := beq_eq_false_iff_ne.2 hc
        go_wp2
        go_ret
        exact ⟨rfl, hbel⟩
end Go.Proofs.Ytgfpjcckkbhdjaa
