/-
  Several texts in one: ShwS, ArJ, ShwI.
-/
import Derived.Test.YtmdngcoccekdgaaAwfAll
import Derived.Test.YtmdngcoccekdgaaSameReg
import Derived.Test.YtmdngcoccekdgaaArI

/- ShwS -/
namespace Go.Proofs.Ytmdngcoccekdgaa
open Go.RowKit

/-- Do two sums part? -/
def sh2 (X Y : List Int) (c d : Int) : Bool := !(decide (X = Y) && decide (c = d))
theorem sh2_ne {X Y : List Int} {c d : Int} (h : ¬ X = Y) : sh2 X Y c d = true := by simp [sh2, h]
theorem sh2_eq {X Y : List Int} {c d : Int} (h : X = Y) : sh2 X Y c d = (c != d) := by
  by_cases h2 : c = d <;> simp [sh2, h, h2]
theorem shw_code {b d : Int} {xs ys : List Int} {fs : List (Int × Int)} (h : ¬ twoE b xs d ys = 0) : shwB b xs d ys fs = false := by
  unfold shwB; rw [awf_bad h]; simp [h]
theorem shw_form {b d : Int} {xs ys : List Int} {fs : List (Int × Int)} (h : twoE b xs d ys = 0) (h2 : faultsB (xs.length : Int) fs = false) : shwB b xs d ys fs = false := by
  unfold shwB; rw [awf_form h h2]; simp
theorem shw_fin {b d : Int} {xs ys : List Int} {fs : List (Int × Int)} (h : twoE b xs d ys = 0) (h2 : faultsB (xs.length : Int) fs = true) :
    shwB b xs d ys fs = (sh2 (tab (levD b xs ys (kds fs)) xs.length) (tab (sumD b xs ys) xs.length) (lcK b xs ys (kds fs) xs.length) (cK b xs ys xs.length) && (okB b (tab (levD b xs ys (kds fs)) xs.length) && okB b (tab (sumD b xs ys) xs.length))) := by
  unfold shwB
  rw [awf_fin h h2]
  have hA : addR b xs d ys = finR4 b (tab (sumD b xs ys) xs.length) (cK b xs ys xs.length) := by simp [addR, h, finR4]
  rw [hA]
  cases h3 : okB b (tab (levD b xs ys (kds fs)) xs.length) <;> cases h4 : okB b (tab (sumD b xs ys) xs.length) <;> simp [finR4, h3, h4, sh2, Bool.and_comm]

set_option maxRecDepth 100000 in
set_option maxHeartbeats 4000000 in
theorem l08Shows_any (p q : Nat) (B D : Int) (a b f : Option Addr) (c d fc : Nat) (xs ys : List Int) (fs : List (Int × Int)) (w : World) (ha : Rd w a xs) (hb : Rd w b ys) (hf : RdF pairF w f fs) (hB1 : 2 ≤ B) (hB2 : B ≤ 16) (hlen : xs.length ≤ 16) (hl : xs.length = ys.length)
    (hx : ∀ k, k < xs.length → 0 ≤ nth xs k ∧ nth xs k < B) (hy : ∀ k, k < xs.length → 0 ≤ nth ys k ∧ nth ys k < B) (hv : faultsB (xs.length : Int) fs = true)
    (hp0 : w.cell? ⟨p, 0, none⟩ = some (.int .i64 B)) (hp1 : w.cell? ⟨p, 1, none⟩ = some (.slice a xs.length c)) (hq0 : w.cell? ⟨q, 0, none⟩ = some (.int .i64 D)) (hq1 : w.cell? ⟨q, 1, none⟩ = some (.slice b ys.length d)) :
    Calls Try.prog 82 #[.pointer (some ⟨p, 0, none⟩), .pointer (some ⟨q, 0, none⟩), .slice f fs.length fc] w fun e w' =>
      e = .returned (.tuple #[.bool (sh2 (tab (levD B xs ys (kds fs)) xs.length) (tab (sumD B xs ys) xs.length) (lcK B xs ys (kds fs) xs.length) (cK B xs ys xs.length)), .bool (okB B (tab (levD B xs ys (kds fs)) xs.length) && okB B (tab (sumD B xs ys) xs.length))]) ∧ Below w.heap.size w w' := by
  have HL := Lib.hid hl
  have HX := Lib.hid hx
  have HY := Lib.hid hy
  clear hl hx hy
  obtain ⟨X, hX⟩ : ∃ X, X = tab (levD B xs ys (kds fs)) xs.length := ⟨_, rfl⟩
  obtain ⟨Y, hY⟩ : ∃ Y, Y = tab (sumD B xs ys) xs.length := ⟨_, rfl⟩
  obtain ⟨cc, hcc⟩ : ∃ cc, cc = lcK B xs ys (kds fs) xs.length := ⟨_, rfl⟩
  obtain ⟨dd, hdd⟩ : ∃ dd, dd = cK B xs ys xs.length := ⟨_, rfl⟩
  rw [← hX, ← hY, ← hcc, ← hdd]
  have lX : X.length = xs.length := by rw [hX, tab_len]
  have lY : Y.length = xs.length := by rw [hY, tab_len]
  have HXX := Lib.hid hX
  have HYY := Lib.hid hY
  have Hcc := Lib.hid hcc
  have Hdd := Lib.hid hdd
  have LX := Lib.hid lX
  have LY := Lib.hid lY
  clear hX hY hcc hdd lX lY
  go_enter Try.func82, Try.ntmps82
  go_wp2_with fail
  refine (l08Add_any p q B a b f c d fc xs ys fs w ha hb hf hB1 hB2 hlen HL.out HX.out HY.out hv hp0 hp1 hq1).mono ?_
  rintro e w1 ⟨A1, C1, rfl, own1, hb1⟩
  rw [← HXX.out] at own1
  rw [← Hcc.out]
  replace ha := ha.below hb1
  replace hb := hb.below hb1
  replace hp0 := kept hb1 hp0
  replace hp1 := kept hb1 hp1
  replace hq0 := kept hb1 hq0
  replace hq1 := kept hb1 hq1
  have hbel := hb1
  have hs1 := hb1.size
  obtain ⟨u, hu⟩ : ∃ u, u = w1.alloc (.cells #[.int .i64 B, .slice A1 xs.length C1] 31) := ⟨_, rfl⟩
  obtain ⟨g1, hg1⟩ : ∃ g1, g1 = w1.heap.size := ⟨_, rfl⟩
  have hb2 : Below w1.heap.size w1 u := by rw [hu]; exact (Below.refl _ _).alloc (Nat.le_refl _) _
  have x1 : Bx u g1 31 #[.int .i64 B, .slice A1 xs.length C1] := by rw [hu, hg1]; exact Bx.new _ _ _
  replace own1 := own1.below hb2
  replace ha := ha.below hb2
  replace hb := hb.below hb2
  replace hp0 := kept hb2 hp0
  replace hp1 := kept hb2 hp1
  replace hq0 := kept hb2 hq0
  replace hq1 := kept hb2 hq1
  replace hbel := hbel.trans (hb2.mono hbel.size)
  go_wp2_with fail
  rw [← hu, ← hg1]
  clear hu hb2 hb1 hg1
  refine (l02Add_any p q B D a b c d xs ys u ha hb hB1 hB2 hlen HL.out HX.out HY.out hp0 hp1 hq0 hq1).mono ?_
  rintro e w2 ⟨A2, C2, rfl, own2, hb1⟩
  replace own1 := own1.below hb1
  replace x1 := x1.below hb1
  replace hbel := hbel.trans (hb1.mono hbel.size)
  clear hb1 ha hb hp0 hp1 hq0 hq1 hf hs1
  rw [← HYY.out] at own2
  rw [← Hdd.out]
  have hlt1 := x1.lt
  obtain ⟨v, hvv⟩ : ∃ v, v = w2.alloc (.cells #[.int .i64 B, .slice A2 xs.length C2] 31) := ⟨_, rfl⟩
  obtain ⟨g2, hg2⟩ : ∃ g2, g2 = w2.heap.size := ⟨_, rfl⟩
  have hb2 : Below w2.heap.size w2 v := by rw [hvv]; exact (Below.refl _ _).alloc (Nat.le_refl _) _
  have x2 : Bx v g2 31 #[.int .i64 B, .slice A2 xs.length C2] := by rw [hvv, hg2]; exact Bx.new _ _ _
  replace own1 := own1.below hb2
  replace own2 := own2.below hb2
  replace x1 := x1.below hb2
  replace hbel := hbel.trans (hb2.mono hbel.size)
  go_wp2_with fail
  rw [← hvv, ← hg2]
  clear hvv hb2 hg2 hlt1
  have p0 := x1.at_ 0 rfl
  have p1 := x1.at_ 1 rfl
  have q0 := x2.at_ 0 rfl
  have q1 := x2.at_ 1 rfl
  have rX := own1.rd
  have rY := own2.rd
  have P1 : v.cell? ⟨g1, 1, none⟩ = some (.slice A1 X.length C1) := by rw [LX.out]; exact p1
  have Q1 : v.cell? ⟨g2, 1, none⟩ = some (.slice A2 Y.length C2) := by rw [LY.out]; exact q1
  have HC1 := fun n => Lib.hid (l02Ok_any g1 B A1 C1 X (v.drewN n) (rX.drewN n) p0 P1)
  have HC2 := fun n => Lib.hid (l02Ok_any g2 B A2 C2 Y (v.drewN n) (rY.drewN n) q0 Q1)
  have HR := Lib.hid rX
  have HS := Lib.hid (l02Same_any g1 g2 B B A1 A2 C1 C2 X Y v rX rY p0 P1 q0 Q1)
  clear p0 p1 q0 q1 rX rY P1 Q1 x1 x2 own1 own2
  refine HS.out.mono ?_
  rintro e w3 ⟨rfl, n, hw3⟩
  subst hw3
  by_cases hXY : X = Y
  · have hs : regEqB B B X Y = true := by simp [regEqB, hXY]
    rw [hs]
    have HE := Lib.hid (sh2_eq (c := cc) (d := dd) hXY)
    clear hs hXY
    cases hk : okB B X with
    | true =>
      rw [hk] at HC1
      go_wp2_with fail
      refine (HC1 _).out.mono ?_
      rintro e w4 ⟨rfl, n2, hw4⟩
      rw [drewN_drewN] at hw4
      subst hw4
      go_wp2_with fail
      refine (HC2 _).out.mono ?_
      rintro e w5 ⟨rfl, n3, hw5⟩
      rw [drewN_drewN] at hw5
      subst hw5
      go_wp2
      exact bodyPost_ret (v := .tuple #[.bool (cc != dd), .bool (okB B Y)]) (by simp [results, Try.results82, go_sem]) rfl ⟨by rw [HE.out, hk]; rfl, bel_drewN hbel _⟩
    | false =>
      rw [hk] at HC1
      go_wp2_with fail
      refine (HC1 _).out.mono ?_
      rintro e w4 ⟨rfl, n2, hw4⟩
      rw [drewN_drewN] at hw4
      subst hw4
      go_wp2
      exact bodyPost_ret (v := .tuple #[.bool (cc != dd), .bool false]) (by simp [results, Try.results82, go_sem]) rfl ⟨by rw [HE.out, hk]; rfl, bel_drewN hbel _⟩
  · have hs : regEqB B B X Y = false := by simp [regEqB, hXY]
    rw [hs]
    have HE := Lib.hid (sh2_ne (c := cc) (d := dd) hXY)
    clear hs hXY
    cases hk : okB B X with
    | true =>
      rw [hk] at HC1
      go_wp2_with fail
      refine (HC1 _).out.mono ?_
      rintro e w4 ⟨rfl, n2, hw4⟩
      rw [drewN_drewN] at hw4
      subst hw4
      go_wp2_with fail
      refine (HC2 _).out.mono ?_
      rintro e w5 ⟨rfl, n3, hw5⟩
      rw [drewN_drewN] at hw5
      subst hw5
      go_wp2
      exact bodyPost_ret (v := .tuple #[.bool true, .bool (okB B Y)]) (by simp [results, Try.results82, go_sem]) rfl ⟨by rw [HE.out, hk]; rfl, bel_drewN hbel _⟩
    | false =>
      rw [hk] at HC1
      go_wp2_with fail
      refine (HC1 _).out.mono ?_
      rintro e w4 ⟨rfl, n2, hw4⟩
      rw [drewN_drewN] at hw4
      subst hw4
      go_wp2
      exact bodyPost_ret (v := .tuple #[.bool true, .bool false]) (by simp [results, Try.results82, go_sem]) rfl ⟨by rw [HE.out, hk]; rfl, bel_drewN hbel _⟩

set_option maxRecDepth 100000 in
set_option maxHeartbeats 4000000 in
theorem specShowsFaults (xB : Int) (xA : Option Addr) (xC : Nat) (xZ : List Int) (yB : Int) (yA : Option Addr) (yC : Nat) (yZ : List Int) (f : Option Addr) (fc : Nat) (fs : List (Int × Int)) (w : World) (ha : Rd w xA xZ) (_ : All64 xZ) (_ : I64 xB) (hb : Rd w yA yZ) (_ : All64 yZ) (_ : I64 yB) (hf : RdF pairF w f fs) (_ : All2 fs) :
    Calls Try.prog 35 #[.agg #[.int .i64 xB, .slice xA xZ.length xC], .agg #[.int .i64 yB, .slice yA yZ.length yC], .slice f fs.length fc] w fun e w' => e = .returned (.bool (shwB xB xZ yB yZ fs)) ∧ Below w.heap.size w w' := by
  have hx16 := fun h : twoE xB xZ yB yZ = 0 => okB_spec (twoE_zero h).1
  go_enter Try.func35, Try.ntmps35
  go_wp2_with fail
  obtain ⟨u, hu⟩ : ∃ u, u = (w.alloc (.cells #[.int .i64 xB, .slice xA xZ.length xC] 31)).alloc (.cells #[.int .i64 yB, .slice yA yZ.length yC] 31) := ⟨_, rfl⟩
  rw [← hu]
  have hbel : Below w.heap.size w u := by rw [hu]; exact (by repeat (first | exact Below.refl _ _ | refine Below.setCell ?_ (by first | omega | (simp <;> omega)) _ | refine Below.alloc ?_ (by first | omega | (simp <;> omega)) _ | refine Below.drew ?_))
  have ax : Bx u w.heap.size 31 #[.int .i64 xB, .slice xA xZ.length xC] := by rw [hu]; exact (Bx.new _ _ _).alloc _
  have ay : Bx u (w.heap.size + 1) 31 #[.int .i64 yB, .slice yA yZ.length yC] := by rw [hu]; simpa using Bx.new (w.alloc (.cells #[.int .i64 xB, .slice xA xZ.length xC] 31)) #[.int .i64 yB, .slice yA yZ.length yC] 31
  replace ha := ha.below hbel
  replace hb := hb.below hbel
  replace hf := hf.below hbel
  clear hu
  refine (l02Two_any w.heap.size (w.heap.size + 1) xB yB xA yA xC yC xZ yZ u ha hb (ax.at_ 0 rfl) (ax.at_ 1 rfl) (ay.at_ 0 rfl) (ay.at_ 1 rfl)).mono ?_
  rintro e w1 ⟨rfl, n, hw1⟩
  have hb1 : Below u.heap.size u w1 := by rw [hw1]; exact bel_drewN (Below.refl _ _) n
  replace ha := ha.below hb1
  replace hb := hb.below hb1
  replace hf := hf.below hb1
  replace ax := ax.below hb1
  replace ay := ay.below hb1
  replace hbel := hbel.trans (hb1.mono hbel.size)
  clear hw1 hb1 u
  by_cases h : twoE xB xZ yB yZ = 0
  · have HX := Lib.hid (hx16 h)
    have HW := Lib.hid (twoE_zero h)
    have ht2 : (twoE xB xZ yB yZ != 0) = false := by simp [h]
    have c1 := ax.at_ 1 rfl
    cases hv : faultsB (xZ.length : Int) fs with
    | false =>
      have HR := Lib.hid (shw_form h hv)
      have HC := Lib.hid (l08Ok_at (xZ.length : Int) f fc fs w1 hv hf)
      clear h hv hx16
      go_wp2_with fail
      refine HC.out.mono ?_
      rintro e w2 ⟨rfl, hb2⟩
      go_wp2
      go_ret
      exact ⟨ret_bool HR.out.symm, hbel.trans (hb2.mono hbel.size)⟩
    | true =>
      have HF := Lib.hid (shw_fin h hv)
      have HC := Lib.hid (l08Ok_at (xZ.length : Int) f fc fs w1 hv hf)
      have HV := Lib.hid hv
      clear h hv hx16
      go_wp2_with fail
      refine HC.out.mono ?_
      rintro e w2 ⟨rfl, hb2⟩
      replace ha := ha.below hb2
      replace hb := hb.below hb2
      replace hf := hf.below hb2
      replace ax := ax.below hb2
      replace ay := ay.below hb2
      replace hbel := hbel.trans (hb2.mono hbel.size)
      clear hb2 HC c1
      have HS := Lib.hid (l08Shows_any w.heap.size (w.heap.size + 1) xB yB xA yA f xC yC fc xZ yZ fs w2 ha hb hf HX.out.1 HX.out.2.1 HX.out.2.2.2.1 HW.out.2.2.2 (digit_of_ok HW.out.1) (by have h1 := HW.out.2.2; intro k hk; have h2 := digit_of_ok HW.out.2.1 k (by omega); omega) HV.out (ax.at_ 0 rfl) (ax.at_ 1 rfl) (ay.at_ 0 rfl) (ay.at_ 1 rfl))
      obtain ⟨s1, hs1⟩ : ∃ s1, s1 = sh2 (tab (levD xB xZ yZ (kds fs)) xZ.length) (tab (sumD xB xZ yZ) xZ.length) (lcK xB xZ yZ (kds fs) xZ.length) (cK xB xZ yZ xZ.length) := ⟨_, rfl⟩
      obtain ⟨s2, hs2⟩ : ∃ s2, s2 = (okB xB (tab (levD xB xZ yZ (kds fs)) xZ.length) && okB xB (tab (sumD xB xZ yZ) xZ.length)) := ⟨_, rfl⟩
      rw [← hs1, ← hs2] at HS HF
      clear hs1 hs2
      cases s1
      all_goals
        go_wp2_with fail
        refine HS.out.mono ?_
        rintro e w3 ⟨rfl, hb2⟩
        go_wp2
        go_ret
        exact ⟨ret_bool (by rw [HF.out]; rfl), hbel.trans (hb2.mono hbel.size)⟩
  · have ht2 : (twoE xB xZ yB yZ != 0) = true := by simp [h]
    have HR := Lib.hid (shw_code (fs := fs) h)
    clear h hx16
    go_wp2
    go_ret
    exact ⟨ret_bool HR.out.symm, hbel⟩
end Go.Proofs.Ytmdngcoccekdgaa

/- ArJ -/
namespace Go.Proofs.Ytmdngcoccekdgaa
open Go.RowKit

set_option maxRecDepth 100000 in
set_option maxHeartbeats 2000000 in
theorem implAddRegisters (xB : Int) (xA : Option Addr) (xC : Nat) (xZ : List Int) (yB : Int) (yA : Option Addr) (yC : Nat) (yZ : List Int) (w : World) (ha : Rd w xA xZ) (zx : All64 xZ) (bx : I64 xB) (hb : Rd w yA yZ) (zy : All64 yZ) (by_ : I64 yB) :
    Calls Try.prog 83 #[.agg #[.int .i64 xB, .slice xA xZ.length xC], .agg #[.int .i64 yB, .slice yA yZ.length yC]] w (addRPost xB xZ yB yZ w) := by
  go_enter Try.func83, Try.ntmps83
  go_wp2_with fail
  obtain ⟨u, hu⟩ : ∃ u, u = ((w.alloc (.cells #[.int .i64 xB, .slice xA xZ.length xC] 31)).alloc (.cells #[.int .i64 yB, .slice yA yZ.length yC] 31)).alloc (.cells #[.int .i64 0, .slice none 0 0] 31) := ⟨_, rfl⟩
  rw [← hu]
  have hbel : Below w.heap.size w u := by rw [hu]; exact (by repeat (first | exact Below.refl _ _ | refine Below.setCell ?_ (by first | omega | (simp <;> omega)) _ | refine Below.alloc ?_ (by first | omega | (simp <;> omega)) _ | refine Below.drew ?_))
  have ax : Bx u w.heap.size 31 #[.int .i64 xB, .slice xA xZ.length xC] := by rw [hu]; exact ((Bx.new _ _ _).alloc _).alloc _
  have ay : Bx u (w.heap.size + 1) 31 #[.int .i64 yB, .slice yA yZ.length yC] := by rw [hu]; exact Bx.alloc (by simpa using Bx.new (w.alloc (.cells #[.int .i64 xB, .slice xA xZ.length xC] 31)) #[.int .i64 yB, .slice yA yZ.length yC] 31) _
  have ar : Bx u (w.heap.size + 1 + 1) 31 #[.int .i64 0, .slice none 0 0] := by rw [hu]; simpa using Bx.new ((w.alloc (.cells #[.int .i64 xB, .slice xA xZ.length xC] 31)).alloc (.cells #[.int .i64 yB, .slice yA yZ.length yC] 31)) #[.int .i64 0, .slice none 0 0] 31
  replace ha := ha.below hbel
  replace hb := hb.below hbel
  clear hu
  refine (pairCode_any xB xA xC xZ yB yA yC yZ u ha zx bx hb zy by_).mono ?_
  rintro e v ⟨rfl, hb1⟩
  replace ha := ha.below hb1
  replace hb := hb.below hb1
  replace ax := ax.below hb1
  replace ay := ay.below hb1
  replace ar := ar.below hb1
  replace hbel := hbel.trans (hb1.mono hbel.size)
  clear hb1 u
  have c0 := ax.at_ 0 rfl
  have c1 := ax.at_ 1 rfl
  have d0 := ay.at_ 0 rfl
  have d1 := ay.at_ 1 rfl
  by_cases h : twoE xB xZ yB yZ = 0
  · have HX := Lib.hid (okB_spec (twoE_zero h).1)
    have HW := Lib.hid (twoE_zero h)
    have H := Lib.hid h
    have ht : (twoE xB xZ yB yZ != 0) = false := by simp [h]
    have HY := Lib.hid (show ∀ k, k < xZ.length → 0 ≤ nth yZ k ∧ nth yZ k < xB by have h1 := HW.out.2.2; intro k hk; have h2 := digit_of_ok HW.out.2.1 k (by omega); omega)
    clear h
    go_wp2_with fail
    refine (plus_any xB xA yA xC yC xZ yZ v ha hb HX.out.1 HX.out.2.1 HX.out.2.2.2.1 HW.out.2.2.2 (digit_of_ok HW.out.1) HY.out).mono ?_
    rintro e w2 ⟨A1, C1, A2, C2, rfl, own1, own2, hb2⟩
    have hA := all64_tab (HX.out.2.1) (sumD_bd HX.out.1 (digit_of_ok HW.out.1) HY.out)
    have c0 := kept hb2 c0
    have hvs := ar.lt
    replace ar := ar.below hb2
    replace hbel := hbel.trans (hb2.mono hbel.size)
    clear hb2
    cases hk : okB xB (tab (sumD xB xZ yZ) xZ.length) with
    | true =>
      have HR := Lib.hid (show addR xB xZ yB yZ = (xB, tab (sumD xB xZ yZ) xZ.length, cK xB xZ yZ xZ.length, 0) by simp [addR, H.out, hk])
      have hfin := finish_ok xB A1 C1 (tab (sumD xB xZ yZ) xZ.length) w2 own1.rd hA bx hk
      rw [tab_len] at hfin
      go_wp2_with fail
      refine hfin.mono ?_
      rintro e w3 ⟨rfl, hb2⟩
      replace ar := ar.below hb2
      replace own1 := own1.below hb2
      replace own2 := own2.below hb2
      replace hbel := hbel.trans (hb2.mono hbel.size)
      have hs2 := hb2.size
      have hws := ar.lt
      clear hb2 hk hfin
      go_wp2
      obtain ⟨w4, hw4⟩ : ∃ w4, w4 = w3.alloc (.cells #[.int .i64 xB, .slice A1 xZ.length C1] 31) := ⟨_, rfl⟩
      have hb4 : Below w3.heap.size w3 w4 := by rw [hw4]; exact (Below.refl _ _).alloc (Nat.le_refl _) _
      have at_ : Bx w4 w3.heap.size 31 #[.int .i64 xB, .slice A1 xZ.length C1] := by rw [hw4]; exact Bx.new _ _ _
      rw [← hw4]
      replace ar := ar.below hb4
      replace own1 := own1.below hb4
      replace own2 := own2.below hb4
      replace hbel := hbel.trans (hb4.mono hbel.size)
      have hs4 := hb4.size
      clear hb4 hw4
      have b0 := at_.at_ 0 rfl
      have b1 := at_.at_ 1 rfl
      have r0 := ar.at_ 0 rfl
      have r1 := ar.at_ 1 rfl
      have f0 := ar.thaw 0
      have f1 := ar.thaw 1
      obtain ⟨p3, o3, rfl, hc3⟩ := own2.rd.at_ (k := xZ.length) (by rw [tab_len]; omega)
      rw [tab_nth (by omega)] at hc3
      have hi3 : (xZ.length : Int) < (xZ.length : Int) + 1 := by omega
      have hne : w3.heap.size ≠ w.heap.size + 1 + 1 := by omega
      have hp3 : p3 ≠ w.heap.size + 1 + 1 := by
        have hrow := own2.row.lt p3 rfl
        omega
      refine wp_region_marked (fun w' => w'.cell? ⟨w3.heap.size, 0, none⟩ = some (.int .i64 xB) ∧ w'.cell? ⟨w3.heap.size, 1, none⟩ = some (.slice A1 xZ.length C1) ∧ w'.cell? ⟨p3, o3 + xZ.length, none⟩ = some (.int .i64 (cK xB xZ yZ xZ.length))) 7 (by kernel_rfl) ?_
      have hS := And.intro b0 (And.intro b1 hc3)
      refine wpAnyM_take (i := 0) (v := ?_) rfl (by kernel_rfl) (by kernel_rfl) (by kernel_rfl) (by kernel_rfl) (by kernel_rfl) (fun _ _ _ h => h) hS (.inl ⟨by rfl, ?_⟩) ?_
      rotate_left 1
      · intro w' hS'; go_simp; try with_reducible rfl
      simp only [Act.put, List.setIfInBounds_toArray]
      refine wpAnyM_take (i := 1) (v := ?_) rfl (by kernel_rfl) (by kernel_rfl) (by kernel_rfl) (by kernel_rfl) (by kernel_rfl) (fun _ _ _ h => h) hS (.inl ⟨by rfl, ?_⟩) ?_
      rotate_left 1
      · intro w' hS'; go_simp; try with_reducible rfl
      simp only [Act.put]
      refine wpAnyM_take (i := 2) (v := ?_) rfl (by kernel_rfl) (by kernel_rfl) (by kernel_rfl) (by kernel_rfl) (by kernel_rfl) (fun _ _ _ h => h) hS (.inl ⟨by rfl, ?_⟩) ?_
      rotate_left 1
      · intro w' hS'; go_simp; try with_reducible rfl
      simp only [Act.put]
      refine wpAnyM_take (i := 3) (v := ?_) rfl (by kernel_rfl) (by kernel_rfl) (by kernel_rfl) (by kernel_rfl) (by kernel_rfl) (fun _ _ _ h => h) hS (.inl ⟨by rfl, ?_⟩) ?_
      rotate_left 1
      · intro w' hS'; go_simp; try with_reducible rfl
      simp only [Act.put]
      refine wpAnyM_take (i := 4) (v := ?_) rfl (by kernel_rfl) (by kernel_rfl) (by kernel_rfl) (by kernel_rfl) (by kernel_rfl) (fun _ _ _ h => h) hS (.inl ⟨by rfl, ?_⟩) ?_
      rotate_left 1
      · intro w' hS'; go_simp; try with_reducible rfl
      simp only [Act.put]
      refine wpAnyM_take (i := 5) (v := ?_) rfl (by kernel_rfl) (by kernel_rfl) (by kernel_rfl) (by kernel_rfl) (by kernel_rfl) (fun _ _ _ h => h) hS (.inl ⟨by rfl, ?_⟩) ?_
      rotate_left 1
      · intro w' hS'; go_simp; try with_reducible rfl
      simp only [Act.put]
      refine wpAnyM_one (i := 6) (by kernel_rfl) rfl (by rfl) (fun K hK => ?_)
      go_simp
      refine hK _ _ (.inr ⟨cell_far (cell_far b0 hne _) hne _, cell_far (cell_far b1 hne _) hne _, cell_far (cell_far hc3 hp3 _) hp3 _⟩) ?_
      try simp only [Act.put, List.setIfInBounds_toArray]
      clear hK K
      refine wpAnyM_one (i := 7) (by kernel_rfl) rfl (by rfl) (fun K hK => ?_)
      go_simp
      refine hK _ _ (.inl rfl) ?_
      try simp only [Act.put, List.setIfInBounds_toArray]
      clear hK K
      refine wpAnyM_one (i := 8) (by kernel_rfl) rfl (by rfl) (fun K hK => ?_)
      go_simp
      refine hK _ _ (.inl rfl) ?_
      clear hK K
      refine wpAnyM_done (by kernel_rfl) ?_ _
      go_wp2
      exact bodyPost_ret (v := .tuple #[.agg #[.int .i64 xB, .slice A1 xZ.length C1], .int .i64 (cK xB xZ yZ xZ.length), .int .i64 0]) (by simp [results, Try.results83, go_sem, r0, r1]) rfl
        (addRPost_ok HR.out (tab_len _ _) rfl (lo := v.heap.size) (hi := w2.heap.size) ((own1.drew.setCell (p := ⟨w.heap.size + 1 + 1, 0, none⟩) (.inl (by simp; omega)) _).setCell (p := ⟨w.heap.size + 1 + 1, 1, none⟩) (.inl (by simp; omega)) _) (by omega) (by simp; omega) (by repeat (first | exact hbel | refine Below.setCell ?_ (by first | omega | (simp <;> omega)) _ | refine Below.alloc ?_ (by first | omega | (simp <;> omega)) _ | refine Below.drew ?_)))
    | false =>
      have HR := Lib.hid (show addR xB xZ yB yZ = (0, [], 0, 5) by simp [addR, H.out, hk])
      have hfin := finish_full xB A1 C1 (tab (sumD xB xZ yZ) xZ.length) w2 own1.rd hA bx hk
      rw [tab_len] at hfin
      go_wp2_with fail
      refine hfin.mono ?_
      rintro e w3 ⟨rfl, hb2⟩
      replace ar := ar.below hb2
      replace hbel := hbel.trans (hb2.mono hbel.size)
      clear hb2 hk hfin
      have r0 := ar.at_ 0 rfl
      have r1 := ar.at_ 1 rfl
      have f0 := ar.thaw 0
      have f1 := ar.thaw 1
      have hws := ar.lt
      have zz := ar.put2 (.int .i64 0) (.slice none 0 0) (.cells #[.int .i64 0, .slice none 0 0] 31)
      go_wp2
      exact bodyPost_ret (v := .tuple #[.agg #[.int .i64 0, .slice none 0 0], .int .i64 0, .int .i64 5]) (by simp [results, Try.results83, go_sem, zz.1, zz.2]) rfl
        (addRPost_err HR.out rfl (by repeat (first | exact hbel | refine Below.setCell ?_ (by first | omega | (simp <;> omega)) _ | refine Below.alloc ?_ (by first | omega | (simp <;> omega)) _ | refine Below.drew ?_)))
  · have ht : (twoE xB xZ yB yZ != 0) = true := by simp [h]
    have HR := Lib.hid (show addR xB xZ yB yZ = (0, [], 0, twoE xB xZ yB yZ) by simp [addR, h])
    have r0 := ar.at_ 0 rfl
    have r1 := ar.at_ 1 rfl
    have f0 := ar.thaw 0
    have f1 := ar.thaw 1
    clear h
    go_wp2
    exact bodyPost_ret (v := .tuple #[.agg #[.int .i64 0, .slice none 0 0], .int .i64 0, .int .i64 (twoE xB xZ yB yZ)]) (by simp [results, Try.results83, go_sem, r0, r1]) rfl
      (addRPost_err HR.out rfl (by repeat (first | exact hbel | refine Below.setCell ?_ (by first | omega | (simp <;> omega)) _ | refine Below.alloc ?_ (by first | omega | (simp <;> omega)) _ | refine Below.drew ?_)))
end Go.Proofs.Ytmdngcoccekdgaa

/- ShwI -/
namespace Go.Proofs.Ytmdngcoccekdgaa
open Go.RowKit

theorem shw_no1 {b d : Int} {xs ys : List Int} {fs : List (Int × Int)} (h : ¬ (awfR b xs d ys fs).2.2.2 = 0) : shwB b xs d ys fs = false := by simp [shwB, h]
theorem shw_no2 {b d : Int} {xs ys : List Int} {fs : List (Int × Int)} (h : ¬ (addR b xs d ys).2.2.2 = 0) : shwB b xs d ys fs = false := by simp [shwB, h]
theorem shw_yes {b d : Int} {xs ys : List Int} {fs : List (Int × Int)} (h1 : (awfR b xs d ys fs).2.2.2 = 0) (h2 : (addR b xs d ys).2.2.2 = 0) (h : ¬ (awfR b xs d ys fs).2.2.1 = (addR b xs d ys).2.2.1) : shwB b xs d ys fs = true := by simp [shwB, h, h1, h2]
theorem awf_base {b d : Int} {xs ys : List Int} {fs : List (Int × Int)} (h1 : (awfR b xs d ys fs).2.2.2 = 0) : (awfR b xs d ys fs).1 = b := by
  unfold awfR at h1 ⊢
  by_cases h : twoE b xs d ys = 0
  · rw [if_pos h] at h1 ⊢
    split at h1
    · split at h1
      · rename_i h2 h3; rw [if_pos h2, if_pos h3]
      · simp at h1
    · simp at h1
  · rw [if_neg h] at h1; exact absurd h1 h
theorem add_base {b d : Int} {xs ys : List Int} (h1 : (addR b xs d ys).2.2.2 = 0) : (addR b xs d ys).1 = b := by
  unfold addR at h1 ⊢
  by_cases h : twoE b xs d ys = 0
  · rw [if_pos h] at h1 ⊢
    split at h1
    · rename_i h3; rw [if_pos h3]
    · simp at h1
  · rw [if_neg h] at h1; exact absurd h1 h
theorem shw_rest {b d : Int} {xs ys : List Int} {fs : List (Int × Int)} (h1 : (awfR b xs d ys fs).2.2.2 = 0) (h2 : (addR b xs d ys).2.2.2 = 0) (h : (awfR b xs d ys fs).2.2.1 = (addR b xs d ys).2.2.1) :
    shwB b xs d ys fs = !(regEqB (awfR b xs d ys fs).1 (addR b xs d ys).1 (awfR b xs d ys fs).2.1 (addR b xs d ys).2.1) := by
  rw [awf_base h1, add_base h2]; simp [shwB, h, h1, h2, regEqB]

set_option maxRecDepth 100000 in
set_option maxHeartbeats 4000000 in
theorem implShowsFaults (xB : Int) (xA : Option Addr) (xC : Nat) (xZ : List Int) (yB : Int) (yA : Option Addr) (yC : Nat) (yZ : List Int) (f : Option Addr) (fc : Nat) (fs : List (Int × Int)) (w : World) (ha : Rd w xA xZ) (zx : All64 xZ) (bx : I64 xB) (hb : Rd w yA yZ) (zy : All64 yZ) (by_ : I64 yB) (hf : RdF pairF w f fs) (hz : All2 fs) :
    Calls Try.prog 36 #[.agg #[.int .i64 xB, .slice xA xZ.length xC], .agg #[.int .i64 yB, .slice yA yZ.length yC], .slice f fs.length fc] w fun e w' => e = .returned (.bool (shwB xB xZ yB yZ fs)) ∧ Below w.heap.size w w' := by
  have S1 := Lib.hid (@shw_no1 xB yB xZ yZ fs)
  have S2 := Lib.hid (@shw_no2 xB yB xZ yZ fs)
  have S3 := Lib.hid (@shw_yes xB yB xZ yZ fs)
  have S4 := Lib.hid (@shw_rest xB yB xZ yZ fs)
  have HI := Lib.hid fun v (k : Below w.heap.size w v) => implAddWithFaults xB xA xC xZ yB yA yC yZ f fc fs v (ha.below k) zx bx (hb.below k) zy by_ (hf.below k) hz
  have HJ := Lib.hid fun v (k : Below w.heap.size w v) => implAddRegisters xB xA xC xZ yB yA yC yZ v (ha.below k) zx bx (hb.below k) zy by_
  unfold reg4Post at HI
  unfold addRPost at HJ
  obtain ⟨R, hR⟩ : ∃ R, R = awfR xB xZ yB yZ fs := ⟨_, rfl⟩
  obtain ⟨T, hT⟩ : ∃ T, T = addR xB xZ yB yZ := ⟨_, rfl⟩
  rw [← hR, ← hT] at S3 S4
  rw [← hR] at S1 HI
  rw [← hT] at S2 HJ
  clear hR hT ha hb hf
  go_enter Try.func36, Try.ntmps36
  go_wp2_with fail
  obtain ⟨u, hu⟩ : ∃ u, u = (w.alloc (.cells #[.int .i64 xB, .slice xA xZ.length xC] 31)).alloc (.cells #[.int .i64 yB, .slice yA yZ.length yC] 31) := ⟨_, rfl⟩
  rw [← hu]
  have hbel : Below w.heap.size w u := by rw [hu]; exact (by repeat (first | exact Below.refl _ _ | refine Below.setCell ?_ (by first | omega | (simp <;> omega)) _ | refine Below.alloc ?_ (by first | omega | (simp <;> omega)) _ | refine Below.drew ?_))
  have ax : Bx u w.heap.size 31 #[.int .i64 xB, .slice xA xZ.length xC] := by rw [hu]; exact (Bx.new _ _ _).alloc _
  have ay : Bx u (w.heap.size + 1) 31 #[.int .i64 yB, .slice yA yZ.length yC] := by rw [hu]; simpa using Bx.new (w.alloc (.cells #[.int .i64 xB, .slice xA xZ.length xC] 31)) #[.int .i64 yB, .slice yA yZ.length yC] 31
  clear hu
  refine (HI.out u hbel).mono ?_
  rintro e w1 ⟨A1, C1, rfl, own0, hb1⟩
  have own1 := own0.rd
  clear own0
  replace ax := ax.below hb1
  replace ay := ay.below hb1
  replace hbel := hbel.trans (hb1.mono hbel.size)
  clear hb1 u
  have hl1 := ay.lt
  obtain ⟨v, hv⟩ : ∃ v, v = w1.alloc (.cells #[.int .i64 R.1, .slice A1 R.2.1.length C1] 31) := ⟨_, rfl⟩
  obtain ⟨g1, hg1⟩ : ∃ g1, g1 = w1.heap.size := ⟨_, rfl⟩
  have hb1 : Below w1.heap.size w1 v := by rw [hv]; exact (Below.refl _ _).alloc (Nat.le_refl _) _
  have x1 : Bx v g1 31 #[.int .i64 R.1, .slice A1 R.2.1.length C1] := by rw [hv, hg1]; exact Bx.new _ _ _
  replace ax := ax.below hb1
  replace ay := ay.below hb1
  replace own1 := own1.below hb1
  replace hbel := hbel.trans (hb1.mono hbel.size)
  by_cases h1 : R.2.2.2 = 0
  · have ht1 : (R.2.2.2 != 0) = false := by simp [h1]
    have H1 := Lib.hid h1
    clear h1
    have a0 := ax.at_ 0 rfl
    have a1 := ax.at_ 1 rfl
    have b0 := ay.at_ 0 rfl
    have b1 := ay.at_ 1 rfl
    go_upto_region 4 with fail
    rw [← hv, ← hg1]
    clear hv hb1 hg1 hl1 w1
    go_wp2_with fail
    refine (HJ.out v hbel).mono ?_
    rintro e w2 ⟨A2, C2, rfl, own0, hb1⟩
    have own2 := own0.rd
    clear own0
    replace x1 := x1.below hb1
    replace own1 := own1.below hb1
    replace hbel := hbel.trans (hb1.mono hbel.size)
    have hl1 := x1.lt
    clear hb1 ax ay a0 a1 b0 b1 v
    obtain ⟨v, hv⟩ : ∃ v, v = w2.alloc (.cells #[.int .i64 T.1, .slice A2 T.2.1.length C2] 31) := ⟨_, rfl⟩
    obtain ⟨g2, hg2⟩ : ∃ g2, g2 = w2.heap.size := ⟨_, rfl⟩
    have hb1 : Below w2.heap.size w2 v := by rw [hv]; exact (Below.refl _ _).alloc (Nat.le_refl _) _
    have x2 : Bx v g2 31 #[.int .i64 T.1, .slice A2 T.2.1.length C2] := by rw [hv, hg2]; exact Bx.new _ _ _
    replace x1 := x1.below hb1
    replace own1 := own1.below hb1
    replace own2 := own2.below hb1
    replace hbel := hbel.trans (hb1.mono hbel.size)
    by_cases h2 : T.2.2.2 = 0
    · have ht2 : (T.2.2.2 != 0) = false := by simp [h2]
      have H2 := Lib.hid h2
      clear h2
      have c0 := x1.at_ 0 rfl
      have c1 := x1.at_ 1 rfl
      have d0 := x2.at_ 0 rfl
      have d1 := x2.at_ 1 rfl
      by_cases h3 : R.2.2.1 = T.2.2.1
      · have ht3 : (R.2.2.1 != T.2.2.1) = false := by simp [h3]
        have HF := Lib.hid (S4.out H1.out H2.out h3)
        clear h3
        go_upto_region 7 with fail
        rw [← hv, ← hg2]
        clear hv hb1 hg2 hl1 w2
        go_wp2_with fail
        refine (implSameRegister_any R.1 T.1 A1 A2 C1 C2 R.2.1 T.2.1 v own1 own2).mono ?_
        rintro e w3 ⟨rfl, hb1⟩
        go_wp2
        go_ret
        exact ⟨ret_bool HF.out.symm, hbel.trans (hb1.mono hbel.size)⟩
      · have ht3 : (R.2.2.1 != T.2.2.1) = true := by simp [h3]
        have HF := Lib.hid (S3.out H1.out H2.out h3)
        clear h3
        go_upto_region 7 with fail
        rw [← hv, ← hg2]
        clear hv hb1 hg2 hl1 w2
        go_wp2
        go_ret
        exact ⟨ret_bool HF.out.symm, hbel⟩
    · have ht2 : (T.2.2.2 != 0) = true := by simp [h2]
      have HF := Lib.hid (S2.out h2)
      clear h2
      go_wp2
      go_ret
      exact ⟨ret_bool HF.out.symm, by rw [← hv]; exact hbel⟩
  · have ht1 : (R.2.2.2 != 0) = true := by simp [h1]
    have HF := Lib.hid (S1.out h1)
    clear h1
    go_wp2
    go_ret
    exact ⟨ret_bool HF.out.symm, by rw [← hv]; exact hbel⟩
end Go.Proofs.Ytmdngcoccekdgaa
