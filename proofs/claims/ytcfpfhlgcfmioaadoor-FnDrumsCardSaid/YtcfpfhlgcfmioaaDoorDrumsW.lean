/-
  laws.FnDrums's walk.
-/
import Derived.Test.YtcfpfhlgcfmioaaDoorDrawX
import Derived.Test.YtcfpfhlgcfmioaaDoorDrumK
import Derived.Test.YtcfpfhlgcfmioaaDoorDrumT
import Derived.Test.YtcfpfhlgcfmioaaDoorDrumsM
import Derived.Test.YtcfpfhlgcfmioaaDoorDrumName
import Derived.Test.YtcfpfhlgcfmioaaDoorBytes
namespace Go.Proofs.YtcfpfhlgcfmioaaDoor
open Go.RowKit

set_option maxHeartbeats 400000 in
theorem f6ints_any (a b : Option Addr) (c d : Nat) (xs ys : List Int) (w : World) (ha : Rd w a xs) (hb : Rd w b ys) :
    Calls Tryd.prog 21 #[.slice a xs.length c, .slice b ys.length d] w fun e w' => e = .returned (.bool (decide (xs = ys))) ∧ ∃ n, w' = w.drewN n := by
  have hx1 := ha.len
  have hy1 := hb.len
  by_cases hl : xs.length = ys.length
  · have ht : ((xs.length : Int) != (ys.length : Int)) = false := by simp [hl]
    have HL := Lib.hid hl
    clear hl
    go_enter Tryd.func21, Tryd.ntmps21
    go_wp2
    go_loopw [5] (fun i wr => ∃ k n : Nat, k ≤ xs.length ∧ i = .int .i64 k ∧ wr = w.drewN n ∧ Hid (xs.take k = ys.take k)) (fun i _ => xs.length - (intOf i).toNat)
    case atStart => exact ⟨0, 0, Nat.zero_le _, rfl, rfl, Lib.hid (by simp)⟩
    case round =>
      obtain ⟨k, n, hk, rfl, rfl, HT⟩ := hrel
      by_cases hlt : k < xs.length
      · have hlt' : k < ys.length := by rw [← HL.out]; exact hlt
        obtain ⟨b1, o1, rfl, hc1⟩ := ha.at_ hlt
        obtain ⟨b2, o2, rfl, hc2⟩ := hb.at_ hlt'
        by_cases he : nth xs k = nth ys k
        · have hbe : (nth xs k != nth ys k) = false := by simp [he]
          have HE := Lib.hid he
          clear he
          go_wp2
          go_quiet (fail)
          go_wp2
          go_roundw
          case rel => exact ⟨k + 1, _, by omega, by go_num, rfl, Lib.hid (take_eq_snoc hlt HL.out HT.out HE.out)⟩
          case measure => simp [intOf]; omega
        · have hbe : (nth xs k != nth ys k) = true := by simp [he]
          have HE := Lib.hid he
          clear he
          go_wp2
          go_quiet (fail)
          go_wp2
          go_ret
          exact ⟨ret_bool (by simp [ne_of_at HE.out]), _, drewN_drewN _ _ _⟩
      · obtain rfl : k = xs.length := by omega
        go_wp2
        go_ret
        exact ⟨ret_bool (by simp [take_all_eq HL.out HT.out]), _, rfl⟩
  · have ht : ((xs.length : Int) != (ys.length : Int)) = true := by simp; omega
    have HL := Lib.hid hl
    clear hl
    go_enter Tryd.func21, Tryd.ntmps21
    go_wp2
    go_ret
    exact ⟨ret_bool (by rw [decide_eq_false]; rintro rfl; exact HL.out rfl), 0, rfl⟩

theorem btnR_done {K B T F d f t n : Int} (h : btnR K B T F d f t = (n, 0)) : Drm K B T F ∧ 0 ≤ d ∧ d < B ∧ 0 ≤ f ∧ f ≤ t ∧ t ≤ 100000 ∧ n = byR K B T F d t - byR K B T F d f ∧ sbyR K B T F d f = (byR K B T F d f, 0) ∧ sbyR K B T F d t = (byR K B T F d t, 0) := by
  unfold btnR at h
  by_cases hc : codeR K B T F d = 0
  · rw [if_pos hc] at h
    obtain ⟨h1, h2, h3⟩ := codeR_of hc
    by_cases hr : (0 ≤ f ∧ f ≤ 100000) ∧ f ≤ t ∧ t ≤ 100000
    · rw [if_pos hr] at h
      simp only [Prod.mk.injEq, and_true] at h
      refine ⟨h1, h2, h3, hr.1.1, hr.2.1, hr.2.2, h.symm, ?_, ?_⟩
      · rw [sbyR, if_pos hc, if_pos ⟨hr.1.1, hr.1.2⟩]
      · rw [sbyR, if_pos hc, if_pos ⟨by omega, hr.2.2⟩]
    · rw [if_neg hr] at h; simp at h
  · rw [if_neg hc] at h
    simp only [Prod.mk.injEq] at h
    exact absurd h.2 hc
theorem stR_done {K B T F d : Int} {ts : List Int} (h : stR K B T F d = (ts, 0)) : Drm K B T F ∧ 0 ≤ d ∧ d < B ∧ ts = tms K B T F d ∧ sbyR K B T F d T = (d, 0) ∧ dgR K B T F ts = (d, 0) := by
  unfold stR at h
  by_cases hc : codeR K B T F d = 0
  · rw [if_pos hc] at h
    obtain ⟨h1, h2, h3⟩ := codeR_of hc
    simp only [Prod.mk.injEq, and_true] at h
    subst h
    have hT1 := h1.t1
    have hT2 := h1.t2
    have hb1 := h1.b1
    refine ⟨h1, h2, h3, rfl, ?_, ?_⟩
    · rw [sbyR, if_pos hc, if_pos ⟨by omega, by omega⟩, by_turn h1 h3]
    · have hl : ((tms K B T F d).length : Int) = d := by rw [tms_len]; omega
      rw [dgR, if_pos (drm_to h1), hl, if_pos ⟨h3, rfl⟩]
  · rw [if_neg hc] at h
    simp only [Prod.mk.injEq] at h
    exact absurd h.2 hc

set_option maxRecDepth 100000 in
set_option maxHeartbeats 40000000 in
theorem drums_walk (xA : Option Addr) (xC : Nat) (xZ : List Int) (w : World) (hx : RawU w xA xZ) (hD : DrumNames w) :
    Calls Tryd.prog 3 #[.slice xA xZ.length xC] w fun e w' => e = .returned (.bool true) ∧ Below w.heap.size w w' := by
  have hbel : Below w.heap.size w w := Below.refl _ _
  go_enter Tryd.func3, Tryd.ntmps3
  go_wp2_with fail
  refine (f6big_any xA xZ.length xC w hx.len).mono ?_
  rintro e w1 ⟨rfl, hq⟩
  subst w1
  by_cases hl : 4096 < xZ.length
  · rw [decide_eq_true hl]
    clear hl
    go_wp2
    go_ret
    exact ⟨rfl, hbel⟩
  · rw [decide_eq_false hl]
    replace hx := hx.rd (by omega)
    clear hl
    go_wp2_with fail
    refine (drawStepsBetween_any xA xZ xC w hx).mono ?_
    rintro e w1 ⟨K1, B1, T1, F1, d1, f1, t1, rfl, hd, hd1, hf1, ht1, hb⟩
    have H1 := Lib.hid hd
    have I1 := Lib.hid (And.intro hd1 (And.intro hf1 ht1))
    clear hd hd1 hf1 ht1
    replace hx := hx.below hb
    replace hbel := hbel.trans (hb.mono hbel.size)
    clear hb
    obtain ⟨⟨n1, c1⟩, eR⟩ : ∃ R, R = btnR K1 B1 T1 F1 d1 f1 t1 := ⟨_, rfl⟩
    have HR1 := Lib.hid eR
    clear eR
    go_upto_region 4 with fail
    obtain ⟨g3, hg3⟩ : ∃ g, g = w1.heap.size := ⟨_, rfl⟩
    obtain ⟨v1, hv1⟩ : ∃ V, V = w1.alloc (.cells #[.int .i64 K1, .int .i64 B1, .int .i64 T1, .int .i64 F1] 25) := ⟨_, rfl⟩
    have b_g3 : Bx v1 g3 25 #[.int .i64 K1, .int .i64 B1, .int .i64 T1, .int .i64 F1] := by rw [hv1, hg3]; exact Bx.new _ _ _
    have hb : Below w1.heap.size w1 v1 := by rw [hv1]; exact (Below.refl _ _).alloc (Nat.le_refl _) _
    rw [← hg3, ← hv1]
    clear hv1 hg3
    replace hx := hx.below hb
    replace hbel := hbel.trans (hb.mono hbel.size)
    clear hb
    have c30 := b_g3.at_ 0 rfl
    have c31 := b_g3.at_ 1 rfl
    have c32 := b_g3.at_ 2 rfl
    have c33 := b_g3.at_ 3 rfl
    go_wp2_with fail
    refine (implStepsBetween K1 B1 T1 F1 d1 f1 t1 v1 H1.out I1.out.1 I1.out.2.1 I1.out.2.2).mono ?_
    rintro e w2 ⟨he, hb⟩
    rw [← HR1.out] at he
    replace he : e = .returned (.tuple #[.int .i64 n1, .int .i64 c1]) := he
    subst he
    clear c30 c31 c32 c33
    replace hx := hx.below hb
    replace b_g3 := b_g3.below hb
    replace hbel := hbel.trans (hb.mono hbel.size)
    clear hb
    go_upto_region 5 with fail
    have c30 := b_g3.at_ 0 rfl
    have c31 := b_g3.at_ 1 rfl
    have c32 := b_g3.at_ 2 rfl
    have c33 := b_g3.at_ 3 rfl
    go_wp2_with fail
    refine (specStepsBetween K1 B1 T1 F1 d1 f1 t1 w2 H1.out I1.out.1 I1.out.2.1 I1.out.2.2).mono ?_
    rintro e w3 ⟨he, hb⟩
    rw [← HR1.out] at he
    replace he : e = .returned (.tuple #[.int .i64 n1, .int .i64 c1]) := he
    subst he
    clear c30 c31 c32 c33
    replace hx := hx.below hb
    replace b_g3 := b_g3.below hb
    replace hbel := hbel.trans (hb.mono hbel.size)
    clear hb
    go_upto_region 6 with fail
    go_wp2_with fail
    refine (drawStepsBy_any xA xZ xC w3 hx).mono ?_
    rintro e w4 ⟨K2, B2, T2, F2, d2, t2, rfl, hd, hd1, ht1, hb⟩
    have H2 := Lib.hid hd
    have I2 := Lib.hid (And.intro hd1 ht1)
    clear hd hd1 ht1
    replace hx := hx.below hb
    replace b_g3 := b_g3.below hb
    replace hbel := hbel.trans (hb.mono hbel.size)
    clear hb
    obtain ⟨⟨n2, c2⟩, eR⟩ : ∃ R, R = sbyR K2 B2 T2 F2 d2 t2 := ⟨_, rfl⟩
    have HR2 := Lib.hid eR
    clear eR
    go_upto_region 7 with fail
    obtain ⟨g11, hg11⟩ : ∃ g, g = w4.heap.size := ⟨_, rfl⟩
    obtain ⟨v4, hv4⟩ : ∃ V, V = w4.alloc (.cells #[.int .i64 K2, .int .i64 B2, .int .i64 T2, .int .i64 F2] 25) := ⟨_, rfl⟩
    have b_g11 : Bx v4 g11 25 #[.int .i64 K2, .int .i64 B2, .int .i64 T2, .int .i64 F2] := by rw [hv4, hg11]; exact Bx.new _ _ _
    have hb : Below w4.heap.size w4 v4 := by rw [hv4]; exact (Below.refl _ _).alloc (Nat.le_refl _) _
    rw [← hg11, ← hv4]
    clear hv4 hg11
    replace hx := hx.below hb
    replace b_g3 := b_g3.below hb
    replace hbel := hbel.trans (hb.mono hbel.size)
    clear hb
    have c110 := b_g11.at_ 0 rfl
    have c111 := b_g11.at_ 1 rfl
    have c112 := b_g11.at_ 2 rfl
    have c113 := b_g11.at_ 3 rfl
    go_wp2_with fail
    refine (implStepsBy K2 B2 T2 F2 d2 t2 v4 H2.out I2.out.1 I2.out.2).mono ?_
    rintro e w5 ⟨he, hb⟩
    rw [← HR2.out] at he
    replace he : e = .returned (.tuple #[.int .i64 n2, .int .i64 c2]) := he
    subst he
    clear c110 c111 c112 c113
    replace hx := hx.below hb
    replace b_g3 := b_g3.below hb
    replace b_g11 := b_g11.below hb
    replace hbel := hbel.trans (hb.mono hbel.size)
    clear hb
    go_upto_region 8 with fail
    have c110 := b_g11.at_ 0 rfl
    have c111 := b_g11.at_ 1 rfl
    have c112 := b_g11.at_ 2 rfl
    have c113 := b_g11.at_ 3 rfl
    go_wp2_with fail
    refine (specStepsBy K2 B2 T2 F2 d2 t2 w5 H2.out I2.out.1 I2.out.2).mono ?_
    rintro e w6 ⟨he, hb⟩
    rw [← HR2.out] at he
    replace he : e = .returned (.tuple #[.int .i64 n2, .int .i64 c2]) := he
    subst he
    clear c110 c111 c112 c113
    replace hx := hx.below hb
    replace b_g3 := b_g3.below hb
    replace b_g11 := b_g11.below hb
    replace hbel := hbel.trans (hb.mono hbel.size)
    clear hb
    go_upto_region 9 with fail
    clear b_g11
    go_wp2_with fail
    refine (drawStepTimes_any xA xZ xC w6 hx).mono ?_
    rintro e w7 ⟨K3, B3, T3, F3, d3, rfl, hd, hd1, hb⟩
    have H3 := Lib.hid hd
    have I3 := Lib.hid hd1
    clear hd hd1
    replace hx := hx.below hb
    replace b_g3 := b_g3.below hb
    replace hbel := hbel.trans (hb.mono hbel.size)
    clear hb
    obtain ⟨⟨ts3, c3⟩, eR⟩ : ∃ R, R = stR K3 B3 T3 F3 d3 := ⟨_, rfl⟩
    have HR3 := Lib.hid eR
    clear eR
    go_upto_region 10 with fail
    obtain ⟨g18, hg18⟩ : ∃ g, g = w7.heap.size := ⟨_, rfl⟩
    obtain ⟨v7, hv7⟩ : ∃ V, V = w7.alloc (.cells #[.int .i64 K3, .int .i64 B3, .int .i64 T3, .int .i64 F3] 25) := ⟨_, rfl⟩
    have b_g18 : Bx v7 g18 25 #[.int .i64 K3, .int .i64 B3, .int .i64 T3, .int .i64 F3] := by rw [hv7, hg18]; exact Bx.new _ _ _
    have hb : Below w7.heap.size w7 v7 := by rw [hv7]; exact (Below.refl _ _).alloc (Nat.le_refl _) _
    rw [← hg18, ← hv7]
    clear hv7 hg18
    replace hx := hx.below hb
    replace b_g3 := b_g3.below hb
    replace hbel := hbel.trans (hb.mono hbel.size)
    clear hb
    have c180 := b_g18.at_ 0 rfl
    have c181 := b_g18.at_ 1 rfl
    have c182 := b_g18.at_ 2 rfl
    have c183 := b_g18.at_ 3 rfl
    go_wp2_with fail
    refine (implStepTimes K3 B3 T3 F3 d3 v7 H3.out I3.out).mono ?_
    rintro e w8 ⟨A3, C3, he, o_, hb⟩
    rw [← HR3.out] at o_ he
    replace he : e = .returned (.tuple #[.slice A3 ts3.length C3, .int .i64 c3]) := he
    subst he
    have r3 : Rd w8 A3 ts3 := o_.rd
    clear o_
    clear c180 c181 c182 c183
    replace hx := hx.below hb
    replace b_g3 := b_g3.below hb
    replace b_g18 := b_g18.below hb
    replace hbel := hbel.trans (hb.mono hbel.size)
    clear hb
    go_upto_region 11 with fail
    have c180 := b_g18.at_ 0 rfl
    have c181 := b_g18.at_ 1 rfl
    have c182 := b_g18.at_ 2 rfl
    have c183 := b_g18.at_ 3 rfl
    go_wp2_with fail
    refine (specStepTimes K3 B3 T3 F3 d3 w8 H3.out I3.out).mono ?_
    rintro e w9 ⟨A4, C4, he, o_, hb⟩
    rw [← HR3.out] at o_ he
    replace he : e = .returned (.tuple #[.slice A4 ts3.length C4, .int .i64 c3]) := he
    subst he
    have r4 : Rd w9 A4 ts3 := o_.rd
    clear o_
    clear c180 c181 c182 c183
    replace hx := hx.below hb
    replace b_g3 := b_g3.below hb
    replace b_g18 := b_g18.below hb
    replace r3 := r3.below hb
    replace hbel := hbel.trans (hb.mono hbel.size)
    clear hb
    go_upto_region 12 with fail
    go_wp2_with fail
    refine (drawDigitFor_any xA xZ xC w9 hx).mono ?_
    rintro e w10 ⟨K4, B4, T4, F4, zs4, A5, C5, rfl, hd, hz, r5, hb⟩
    have H4 := Lib.hid hd
    have I4 := Lib.hid hz
    clear hd hz
    replace hx := hx.below hb
    replace b_g3 := b_g3.below hb
    replace b_g18 := b_g18.below hb
    replace r3 := r3.below hb
    replace r4 := r4.below hb
    replace hbel := hbel.trans (hb.mono hbel.size)
    clear hb
    obtain ⟨⟨n4, c4⟩, eR⟩ : ∃ R, R = dgR K4 B4 T4 F4 zs4 := ⟨_, rfl⟩
    have HR4 := Lib.hid eR
    clear eR
    go_upto_region 13 with fail
    obtain ⟨g24, hg24⟩ : ∃ g, g = w10.heap.size := ⟨_, rfl⟩
    obtain ⟨v10, hv10⟩ : ∃ V, V = w10.alloc (.cells #[.int .i64 K4, .int .i64 B4, .int .i64 T4, .int .i64 F4] 25) := ⟨_, rfl⟩
    have b_g24 : Bx v10 g24 25 #[.int .i64 K4, .int .i64 B4, .int .i64 T4, .int .i64 F4] := by rw [hv10, hg24]; exact Bx.new _ _ _
    have hb : Below w10.heap.size w10 v10 := by rw [hv10]; exact (Below.refl _ _).alloc (Nat.le_refl _) _
    rw [← hg24, ← hv10]
    clear hv10 hg24
    replace hx := hx.below hb
    replace b_g3 := b_g3.below hb
    replace b_g18 := b_g18.below hb
    replace r3 := r3.below hb
    replace r4 := r4.below hb
    replace r5 := r5.below hb
    replace hbel := hbel.trans (hb.mono hbel.size)
    clear hb
    have c240 := b_g24.at_ 0 rfl
    have c241 := b_g24.at_ 1 rfl
    have c242 := b_g24.at_ 2 rfl
    have c243 := b_g24.at_ 3 rfl
    go_wp2_with fail
    refine (implDigitFor K4 B4 T4 F4 A5 C5 zs4 v10 H4.out r5 I4.out).mono ?_
    rintro e w11 ⟨he, hb⟩
    rw [← HR4.out] at he
    replace he : e = .returned (.tuple #[.int .i64 n4, .int .i64 c4]) := he
    subst he
    clear c240 c241 c242 c243
    replace hx := hx.below hb
    replace b_g3 := b_g3.below hb
    replace b_g18 := b_g18.below hb
    replace r3 := r3.below hb
    replace r4 := r4.below hb
    replace r5 := r5.below hb
    replace b_g24 := b_g24.below hb
    replace hbel := hbel.trans (hb.mono hbel.size)
    clear hb
    go_upto_region 14 with fail
    have c240 := b_g24.at_ 0 rfl
    have c241 := b_g24.at_ 1 rfl
    have c242 := b_g24.at_ 2 rfl
    have c243 := b_g24.at_ 3 rfl
    go_wp2_with fail
    refine (specDigitFor K4 B4 T4 F4 A5 C5 zs4 w11 H4.out r5 I4.out).mono ?_
    rintro e w12 ⟨he, hb⟩
    rw [← HR4.out] at he
    replace he : e = .returned (.tuple #[.int .i64 n4, .int .i64 c4]) := he
    subst he
    clear c240 c241 c242 c243
    replace hx := hx.below hb
    replace b_g3 := b_g3.below hb
    replace b_g18 := b_g18.below hb
    replace r3 := r3.below hb
    replace r4 := r4.below hb
    replace r5 := r5.below hb
    replace b_g24 := b_g24.below hb
    replace hbel := hbel.trans (hb.mono hbel.size)
    clear hb
    go_upto_region 15 with fail
    clear b_g24 r5
    go_wp2_with fail
    refine (drawDrumLines_any xA xZ xC w12 hx).mono ?_
    rintro e w13 ⟨K5, B5, T5, F5, rfl, hd, hb⟩
    have H5 := Lib.hid hd
    clear hd
    replace hx := hx.below hb
    replace b_g3 := b_g3.below hb
    replace b_g18 := b_g18.below hb
    replace r3 := r3.below hb
    replace r4 := r4.below hb
    replace hbel := hbel.trans (hb.mono hbel.size)
    clear hb
    obtain ⟨⟨ls, c5⟩, eR⟩ : ∃ R, R = linesR K5 B5 T5 F5 := ⟨_, rfl⟩
    have HR5 := Lib.hid eR
    clear eR
    go_upto_region 16 with fail
    obtain ⟨g30, hg30⟩ : ∃ g, g = w13.heap.size := ⟨_, rfl⟩
    obtain ⟨v13, hv13⟩ : ∃ V, V = w13.alloc (.cells #[.int .i64 K5, .int .i64 B5, .int .i64 T5, .int .i64 F5] 25) := ⟨_, rfl⟩
    have b_g30 : Bx v13 g30 25 #[.int .i64 K5, .int .i64 B5, .int .i64 T5, .int .i64 F5] := by rw [hv13, hg30]; exact Bx.new _ _ _
    have hb : Below w13.heap.size w13 v13 := by rw [hv13]; exact (Below.refl _ _).alloc (Nat.le_refl _) _
    rw [← hg30, ← hv13]
    clear hv13 hg30
    replace hx := hx.below hb
    replace b_g3 := b_g3.below hb
    replace b_g18 := b_g18.below hb
    replace r3 := r3.below hb
    replace r4 := r4.below hb
    replace hbel := hbel.trans (hb.mono hbel.size)
    clear hb
    have c300 := b_g30.at_ 0 rfl
    have c301 := b_g30.at_ 1 rfl
    have c302 := b_g30.at_ 2 rfl
    have c303 := b_g30.at_ 3 rfl
    go_wp2_with fail
    refine (implDrumLines K5 B5 T5 F5 v13 H5.out).mono ?_
    rintro e w14 ⟨L1, M1, he, o_, hb⟩
    rw [← HR5.out] at o_ he
    replace he : e = .returned (.tuple #[.slice L1 ls.length M1, .int .i64 c5]) := he
    subst he
    have q1 : RdF textF w14 L1 ls := o_.rd
    clear o_
    clear c300 c301 c302 c303
    replace hx := hx.below hb
    replace b_g3 := b_g3.below hb
    replace b_g18 := b_g18.below hb
    replace r3 := r3.below hb
    replace r4 := r4.below hb
    replace b_g30 := b_g30.below hb
    replace hbel := hbel.trans (hb.mono hbel.size)
    clear hb
    go_upto_region 17 with fail
    have c300 := b_g30.at_ 0 rfl
    have c301 := b_g30.at_ 1 rfl
    have c302 := b_g30.at_ 2 rfl
    have c303 := b_g30.at_ 3 rfl
    go_wp2_with fail
    refine (specDrumLines K5 B5 T5 F5 w14 H5.out).mono ?_
    rintro e w15 ⟨L2, M2, he, o_, hb⟩
    rw [← HR5.out] at o_ he
    replace he : e = .returned (.tuple #[.slice L2 ls.length M2, .int .i64 c5]) := he
    subst he
    have q2 : RdF textF w15 L2 ls := o_.rd
    clear o_
    clear c300 c301 c302 c303
    replace hx := hx.below hb
    replace b_g3 := b_g3.below hb
    replace b_g18 := b_g18.below hb
    replace r3 := r3.below hb
    replace r4 := r4.below hb
    replace b_g30 := b_g30.below hb
    replace q1 := q1.below hb
    replace hbel := hbel.trans (hb.mono hbel.size)
    clear hb
    go_upto_region 18 with fail
    clear b_g30
    go_wp2_with fail
    refine (drawDrumName_any xA xZ xC w15 hx).mono ?_
    rintro e w16 ⟨z6, rfl, hz6, hb⟩
    have I6 := Lib.hid hz6
    clear hz6
    replace hx := hx.below hb
    replace b_g3 := b_g3.below hb
    replace b_g18 := b_g18.below hb
    replace r3 := r3.below hb
    replace r4 := r4.below hb
    replace q1 := q1.below hb
    replace q2 := q2.below hb
    replace hbel := hbel.trans (hb.mono hbel.size)
    clear hb
    clear hx
    go_upto_region 19 with fail
    obtain ⟨sv, hsv⟩ : ∃ s, s = dnV z6 := ⟨_, rfl⟩
    obtain ⟨eb, heb⟩ : ∃ b : Bool, b = drumB K1 B1 T1 F1 := ⟨_, rfl⟩
    have K1' : Hid (∀ q : After w16, Calls Tryd.prog 21 #[.slice A3 ts3.length C3, .slice A4 ts3.length C4] q.now fun e w' => e = .returned (.bool true) ∧ Below q.now.heap.size q.now w') := Lib.hid fun q => by
      have h := f6ints_any A3 A4 C3 C4 ts3 ts3 q.now (r3.below q.ok) (r4.below q.ok)
      rw [decide_eq_true (rfl : ts3 = ts3)] at h
      exact h.mono fun e w' ⟨h1, n, h2⟩ => ⟨h1, by rw [h2]; exact bel_drewN (Below.refl _ _) n⟩
    have K2' : Hid (∀ q : After w16, Calls Tryd.prog 22 #[.slice L1 ls.length M1, .slice L2 ls.length M2] q.now fun e w' => e = .returned (.bool true) ∧ Below q.now.heap.size q.now w') := Lib.hid fun q => by
      have h := f6texts_any L1 L2 M1 M2 ls ls q.now (q1.below q.ok) (q2.below q.ok)
      rw [decide_eq_true (rfl : ls = ls)] at h
      exact h
    have K3' : Hid (∀ q : After w16, Calls Tryd.prog 23 #[.int .i64 z6] q.now fun e w' => e = .returned (.string sv) ∧ Below q.now.heap.size q.now w') := Lib.hid fun q => by
      have h := implDrumName z6 q.now I6.out (drumNames_below hD (hbel.trans (q.ok.mono hbel.size)))
      rw [← hsv] at h
      exact h
    have K4' : Hid (∀ q : After w16, Calls Tryd.prog 24 #[.int .i64 z6] q.now fun e w' => e = .returned (.string sv) ∧ Below q.now.heap.size q.now w') := Lib.hid fun q => by
      have h := specDrumName z6 q.now I6.out
      rw [← hsv] at h
      exact h
    have K5' : Hid (∀ q : After w16, Calls Tryd.prog 25 #[.agg #[.int .i64 K1, .int .i64 B1, .int .i64 T1, .int .i64 F1]] q.now fun e w' => e = .returned (.bool eb) ∧ Below q.now.heap.size q.now w') := Lib.hid fun q => by
      have h := implValidDrum K1 B1 T1 F1 q.now H1.out
      rw [← heb] at h
      exact h
    have K6' : Hid (∀ q : After w16, Calls Tryd.prog 26 #[.agg #[.int .i64 K1, .int .i64 B1, .int .i64 T1, .int .i64 F1]] q.now fun e w' => e = .returned (.bool eb) ∧ Below q.now.heap.size q.now w') := Lib.hid fun q => by
      have h := specValidDrum K1 B1 T1 F1 q.now H1.out
      rw [← heb] at h
      exact h
    clear hsv heb
    have m1 : (n1 != n1) = false := by simp
    have m2 : (n2 != n2) = false := by simp
    have m3 : (n4 != n4) = false := by simp
    have p1 : (c1 != c1) = false := by simp
    have p2 : (c2 != c2) = false := by simp
    have p3 : (c3 != c3) = false := by simp
    have p4 : (c4 != c4) = false := by simp
    have p5 : (c5 != c5) = false := by simp
    have p6 : (sv.toList == sv.toList) = true := by simp
    have p7 : (eb != eb) = false := by simp
    have k3_0 := kept_after (v := .int .i64 K1) (b_g3.at_ 0 rfl)
    have k3_1 := kept_after (v := .int .i64 B1) (b_g3.at_ 1 rfl)
    have k3_2 := kept_after (v := .int .i64 T1) (b_g3.at_ 2 rfl)
    have k3_3 := kept_after (v := .int .i64 F1) (b_g3.at_ 3 rfl)
    refine wp_region_after (by kernel_rfl) (by kernel_rfl) ?_
    repeat (go_big_quiet_step (first | (go_at_call 21; with_reducible exact calls_after (K1'.out _)) | (go_at_call 22; with_reducible exact calls_after (K2'.out _)) | (go_at_call 23; with_reducible exact calls_after (K3'.out _)) | (go_at_call 24; with_reducible exact calls_after (K4'.out _)) | (go_at_call 25; with_reducible exact calls_after (K5'.out _)) | (go_at_call 26; with_reducible exact calls_after (K6'.out _))))
    refine wpQuiet_nil ?_
    intro q
    clear k3_0 k3_1 k3_2 k3_3 K1' K2' K3' K4' K5' K6' m1 m2 m3 p1 p2 p3 p4 p5 p6 p7
    clear r4 q1 q2
    obtain ⟨w20, hw20⟩ : ∃ X, X = q.now := ⟨_, rfl⟩
    have hb : Below w16.heap.size w16 w20 := by rw [hw20]; exact q.ok
    rw [← hw20]
    clear hw20 q
    replace b_g3 := b_g3.below hb
    replace b_g18 := b_g18.below hb
    replace r3 := r3.below hb
    replace hbel := hbel.trans (hb.mono hbel.size)
    clear hb
    go_upto_region 21 with fail
    by_cases hy : c3 = 0
    · subst hy
      obtain ⟨j1, j2, j3, j4, j5, j6⟩ := stR_done HR3.out.symm
      have J5 := Lib.hid j5
      have J6 := Lib.hid j6
      have hup := tms_up j1 j3
      have hT2 := j1.t2
      have hT1 := j1.t1
      have hbd : ∀ i, i < ts3.length → 1 ≤ nth ts3 i ∧ nth ts3 i ≤ T3 := by
        intro i hi
        rw [j4] at hi ⊢
        exact tms_bd j1 j3 (by rwa [tms_len] at hi)
      have hinc : ∀ i, i + 1 < ts3.length → nth ts3 i < nth ts3 (i + 1) := by
        intro i hi
        rw [← j4] at hup
        rw [nth_get (by omega), nth_get hi]
        exact List.pairwise_iff_getElem.1 hup i (i + 1) (by omega) hi (by omega)
      have HBD := Lib.hid hbd
      have HIN := Lib.hid hinc
      have hall3 : All64 ts3 := fun x hx => by
        obtain ⟨i, hi, rfl⟩ := List.getElem_of_mem hx
        have := hbd i hi
        rw [nth_get hi] at this
        exact mid64 (by omega) (by omega)
      have hTI : I64 T3 := mid64 (by omega) (by omega)
      clear j1 j2 j3 j4 j5 j6 hup hbd hinc
      have c180 := b_g18.at_ 0 rfl
      have c181 := b_g18.at_ 1 rfl
      have c182 := b_g18.at_ 2 rfl
      have c183 := b_g18.at_ 3 rfl
      go_wp2_with fail
      have hs1 := implStepsBy K3 B3 T3 F3 d3 T3 w20 H3.out I3.out hTI
      rw [J5.out] at hs1
      refine hs1.mono ?_
      rintro e w21 ⟨rfl, hb⟩
      clear hs1
      clear c180 c181 c182 c183
      replace b_g3 := b_g3.below hb
      replace b_g18 := b_g18.below hb
      replace r3 := r3.below hb
      replace hbel := hbel.trans (hb.mono hbel.size)
      clear hb
      have c180 := b_g18.at_ 0 rfl
      have c181 := b_g18.at_ 1 rfl
      have c182 := b_g18.at_ 2 rfl
      have c183 := b_g18.at_ 3 rfl
      go_wp2_with fail
      have hs1 := implDigitFor K3 B3 T3 F3 A3 C3 ts3 w21 H3.out r3 hall3
      rw [J6.out] at hs1
      refine hs1.mono ?_
      rintro e w22 ⟨rfl, hb⟩
      clear hs1
      clear c180 c181 c182 c183
      replace b_g3 := b_g3.below hb
      replace b_g18 := b_g18.below hb
      replace r3 := r3.below hb
      replace hbel := hbel.trans (hb.mono hbel.size)
      clear hb
      have hdd : (d3 != d3) = false := by simp
      have hlen3 := r3.len
      go_wp2
      go_loopw [40] (fun i wr => ∃ k : Nat, k ≤ ts3.length ∧ i = .int .i64 (k : Nat) ∧ Below w22.heap.size w22 wr) (fun i _ => ts3.length - (intOf i).toNat)
      case atStart => exact ⟨0, Nat.zero_le _, rfl, Below.refl _ _⟩
      case round =>
        obtain ⟨k, hk, hi, hb⟩ := hrel
        subst hi
        by_cases hlt : k < ts3.length
        · obtain ⟨p, off, rfl, hc1⟩ := (r3.below hb).at_ hlt
          have q2 : wr.cell? ⟨g18, 2, none⟩ = some (.int .i64 T3) := (b_g18.below hb).at_ 2 rfl
          obtain ⟨y0, y1⟩ := HBD.out k hlt
          have z0 : decide (nth ts3 k < 1) = false := decide_eq_false (by omega)
          have z1 : decide (T3 < nth ts3 k) = false := decide_eq_false (by omega)
          have a2 := kept_after q2
          clear q2 y0 y1
          by_cases hk0 : k = 0
          · subst hk0
            rw [Nat.add_zero] at hc1
            have a1 := kept_after hc1
            clear hc1
            go_wp2
            refine wp_region_after (by kernel_rfl) (by kernel_rfl) ?_
            repeat (go_big_quiet_step (fail))
            refine wpQuiet_nil ?_
            intro u2
            go_wp2
            go_roundw
            case rel => exact ⟨1, by omega, by go_num, hb.trans (u2.ok.mono hb.size)⟩
            case measure => (simp [intOf]) <;> omega
          · obtain ⟨j, hj⟩ : ∃ j, k = j + 1 := ⟨k - 1, by omega⟩
            have z2 : 0 < k := by omega
            obtain ⟨p', off', he', hc2⟩ := (r3.below hb).at_ (show j < ts3.length by omega)
            injection he' with he'
            injection he' with e1 e2 _
            subst e1 e2
            have z3 : decide (nth ts3 k ≤ nth ts3 j) = false := decide_eq_false (by have := HIN.out j (by omega); rw [← hj] at this; omega)
            have hv1 : IntKind.i64.wrap ((k : Int) - 1) = (j : Nat) := by rw [show (k : Int) - 1 = (j : Nat) by omega]; exact fits_int _ (by omega) (by omega)
            have hjl : j < ts3.length := by omega
            replace hj := Lib.hid hj
            have a1 := kept_after hc1
            have a3 := kept_after hc2
            clear hk0 hc1 hc2
            go_wp2
            refine wp_region_after (by kernel_rfl) (by kernel_rfl) ?_
            repeat (go_big_quiet_step (fail))
            refine wpQuiet_nil ?_
            intro u2
            go_wp2
            go_roundw
            case rel => exact ⟨k + 1, by omega, by go_num, hb.trans (u2.ok.mono hb.size)⟩
            case measure => (simp [intOf]) <;> omega
        · obtain rfl : k = ts3.length := by omega
          go_upto_region 31 with fail
          clear hdd
          replace b_g3 := b_g3.below hb
          replace b_g18 := b_g18.below hb
          replace r3 := r3.below hb
          replace hbel := hbel.trans (hb.mono hbel.size)
          clear hb
          by_cases hc : c1 = 0
          · subst hc
            obtain ⟨j1, j2, j3, j4, j5, j6, j7, j8, j9⟩ := btnR_done HR1.out.symm
            have bf := by_bd j1 j2 j3 j4 (show f1 ≤ 100000 by omega)
            have bt := by_bd j1 j2 j3 (show 0 ≤ t1 by omega) j6
            have hmono := by_mono j1 j2 j5
            obtain ⟨yf, hyf⟩ : ∃ y, y = byR K1 B1 T1 F1 d1 f1 := ⟨_, rfl⟩
            obtain ⟨yt, hyt⟩ : ∃ y, y = byR K1 B1 T1 F1 d1 t1 := ⟨_, rfl⟩
            rw [← hyf] at bf hmono j7 j8
            rw [← hyt] at bt hmono j7 j9
            have J8 := Lib.hid j8
            have J9 := Lib.hid j9
            have hn0 : 0 ≤ n1 := by omega
            have hn1 : IntKind.i64.wrap (yt - yf) = n1 := by rw [← j7]; exact fits_int _ (by omega) (by omega)
            have he1 : (n1 == n1) = true := by simp
            have hd1 : decide (n1 ≥ 0) = true := decide_eq_true hn0
            clear hyf hyt j1 j2 j3 j4 j5 j6 j7 j8 j9
            have c30 := b_g3.at_ 0 rfl
            have c31 := b_g3.at_ 1 rfl
            have c32 := b_g3.at_ 2 rfl
            have c33 := b_g3.at_ 3 rfl
            go_wp2_with fail
            have hs1 := implStepsBy K1 B1 T1 F1 d1 f1 wr H1.out I1.out.1 I1.out.2.1
            rw [J8.out] at hs1
            refine hs1.mono ?_
            rintro e w30 ⟨rfl, hb⟩
            clear hs1
            clear c30 c31 c32 c33
            replace b_g3 := b_g3.below hb
            replace b_g18 := b_g18.below hb
            replace r3 := r3.below hb
            replace hbel := hbel.trans (hb.mono hbel.size)
            clear hb
            have c30 := b_g3.at_ 0 rfl
            have c31 := b_g3.at_ 1 rfl
            have c32 := b_g3.at_ 2 rfl
            have c33 := b_g3.at_ 3 rfl
            go_wp2_with fail
            have hs1 := implStepsBy K1 B1 T1 F1 d1 t1 w30 H1.out I1.out.1 I1.out.2.2
            rw [J9.out] at hs1
            refine hs1.mono ?_
            rintro e w31 ⟨rfl, hb⟩
            clear hs1
            clear c30 c31 c32 c33
            replace b_g3 := b_g3.below hb
            replace b_g18 := b_g18.below hb
            replace r3 := r3.below hb
            replace hbel := hbel.trans (hb.mono hbel.size)
            clear hb
            go_wp2
            go_ret
            exact ⟨rfl, hbel⟩
          · have hc' : (c1 != 0) = true := by simp [hc]
            go_wp2
            go_ret
            exact ⟨rfl, hbel⟩
    · have hy' : (c3 == 0) = false := beq_eq_false_iff_ne.2 hy
      go_upto_region 31 with fail
      clear hy'
      by_cases hc : c1 = 0
      · subst hc
        obtain ⟨j1, j2, j3, j4, j5, j6, j7, j8, j9⟩ := btnR_done HR1.out.symm
        have bf := by_bd j1 j2 j3 j4 (show f1 ≤ 100000 by omega)
        have bt := by_bd j1 j2 j3 (show 0 ≤ t1 by omega) j6
        have hmono := by_mono j1 j2 j5
        obtain ⟨yf, hyf⟩ : ∃ y, y = byR K1 B1 T1 F1 d1 f1 := ⟨_, rfl⟩
        obtain ⟨yt, hyt⟩ : ∃ y, y = byR K1 B1 T1 F1 d1 t1 := ⟨_, rfl⟩
        rw [← hyf] at bf hmono j7 j8
        rw [← hyt] at bt hmono j7 j9
        have J8 := Lib.hid j8
        have J9 := Lib.hid j9
        have hn0 : 0 ≤ n1 := by omega
        have hn1 : IntKind.i64.wrap (yt - yf) = n1 := by rw [← j7]; exact fits_int _ (by omega) (by omega)
        have he1 : (n1 == n1) = true := by simp
        have hd1 : decide (n1 ≥ 0) = true := decide_eq_true hn0
        clear hyf hyt j1 j2 j3 j4 j5 j6 j7 j8 j9
        have c30 := b_g3.at_ 0 rfl
        have c31 := b_g3.at_ 1 rfl
        have c32 := b_g3.at_ 2 rfl
        have c33 := b_g3.at_ 3 rfl
        go_wp2_with fail
        have hs1 := implStepsBy K1 B1 T1 F1 d1 f1 w20 H1.out I1.out.1 I1.out.2.1
        rw [J8.out] at hs1
        refine hs1.mono ?_
        rintro e w30 ⟨rfl, hb⟩
        clear hs1
        clear c30 c31 c32 c33
        replace b_g3 := b_g3.below hb
        replace b_g18 := b_g18.below hb
        replace r3 := r3.below hb
        replace hbel := hbel.trans (hb.mono hbel.size)
        clear hb
        have c30 := b_g3.at_ 0 rfl
        have c31 := b_g3.at_ 1 rfl
        have c32 := b_g3.at_ 2 rfl
        have c33 := b_g3.at_ 3 rfl
        go_wp2_with fail
        have hs1 := implStepsBy K1 B1 T1 F1 d1 t1 w30 H1.out I1.out.1 I1.out.2.2
        rw [J9.out] at hs1
        refine hs1.mono ?_
        rintro e w31 ⟨rfl, hb⟩
        clear hs1
        clear c30 c31 c32 c33
        replace b_g3 := b_g3.below hb
        replace b_g18 := b_g18.below hb
        replace r3 := r3.below hb
        replace hbel := hbel.trans (hb.mono hbel.size)
        clear hb
        go_wp2
        go_ret
        exact ⟨rfl, hbel⟩
      · have hc' : (c1 != 0) = true := by simp [hc]
        go_wp2
        go_ret
        exact ⟨rfl, hbel⟩
end Go.Proofs.YtcfpfhlgcfmioaaDoor
