/-
  laws.FnShiftedDigits returns true at every input (no condition), and leaves its arguments as they were.
-/
import Derived.Test.YtaefgkhbgljkoabBytes
import Derived.Test.YtaefgkhbgljkoabShdM
import Derived.Test.YtaefgkhbgljkoabCplI
import Derived.Test.YtaefgkhbgljkoabCmpI
import Derived.Test.YtaefgkhbgljkoabOkI
import Derived.Test.YtaefgkhbgljkoabFacts
import Derived.Test.YtaefgkhbgljkoabRows
namespace Go.Proofs.Ytaefgkhbgljkoab.lawFnShiftedDigits
open Go.ChangeShapes Go.WideShapes Go.ChangeAt Go.WideElems Go.RowKit Go.Joins
open Go.ChangeMaps (open_string shut_string)
open Go.BigFrame

theorem rd_cell {w : World} {b o : Nat} {zs : List Int} {k : Nat} (h : Rd w (some ⟨b, o, none⟩) zs) (hk : k < zs.length) : w.cell? ⟨b, o + k, none⟩ = some (.int .i64 (nth zs k)) := by
  obtain ⟨b', o', e, hc⟩ := h.at_ hk
  injection e with e
  injection e with e1 e2
  subst e1 e2
  exact hc
theorem small_i64 {z : Int} (h0 : -1000000 ≤ z) (h1 : z ≤ 1000000) : I64 z := by
  unfold I64
  simp [Lit.wf, IntKind.min, IntKind.max, IntKind.signed, IntKind.bits]
  omega
theorem digs_i64 {b : Int} {zs : List Int} (b1 : b ≤ 12) (h : DigsOf b zs) : All64 zs := fun z hz => by
  have := h z hz
  exact small_i64 (by omega) (by omega)

set_option maxRecDepth 100000 in
set_option maxHeartbeats 8000000 in
theorem law_walk (xA : Option Addr) (xC : Nat) (xZ : List Int) (yA : Option Addr) (yC : Nat) (yZ : List Int) (w : World) (hx : RawU w xA xZ) (hy : RawU w yA yZ) :
    Calls Try.prog 7 #[.slice xA xZ.length xC, .slice yA yZ.length yC] w fun e w' => e = .returned (.bool true) ∧ Below w.heap.size w w' := by
  have hbel : Below w.heap.size w w := Below.refl _ _
  go_enter Try.func7, Try.ntmps7
  go_wp2_with fail
  refine (a2Long_any xA yA xZ.length yZ.length xC yC w).mono ?_
  rintro e w1 ⟨rfl, hq⟩
  subst w1
  by_cases hl : 3000 < xZ.length ∨ 3000 < yZ.length
  · rw [decide_eq_true hl]
    clear hl
    go_wp2
    go_ret
    exact ⟨rfl, hbel⟩
  · rw [decide_eq_false hl]
    replace hx := hx.rd (by omega)
    replace hy := hy.rd (by omega)
    clear hl
    go_wp2_with fail
    refine (a2Registers_any xA xZ xC w hx).mono ?_
    rintro e w1 ⟨b, xs, ys, A, C, D, E, rfl, dx, hly, dy, rx, ry, hb⟩
    clear hx
    replace hy := hy.below hb
    replace hbel := hbel.trans (hb.mono hbel.size)
    clear hb
    have b0 := dx.b0
    have b1 := dx.b1
    have n0 := dx.n0
    have n1 := dx.n1
    have ib : I64 b := small_i64 (by omega) (by omega)
    have x64 := digs_i64 b1 dx.digs
    have y64 := digs_i64 b1 dy
    obtain ⟨n, hn⟩ : ∃ n, n = xs.length := ⟨_, rfl⟩
    have HCR := Lib.hid (show carR b xs b ys = (tab (cK b xs ys) (n + 1), 0) by rw [carR, if_pos (twoE_drawn dx hly dy), hn])
    have hcb := cK_bd (b := b) (xs := xs) (ys := ys) b0 (fun k hk => digs_nth dx.digs hk) (fun k hk => digs_nth dy (by omega))
    have HXN := Lib.hid hn
    have HYN := Lib.hid (hly.trans hn.symm)
    have HDX := Lib.hid dx
    have HDY := Lib.hid dy
    have HCB := Lib.hid hcb
    rw [hly, ← hn]
    have hn1 : 1 ≤ n ∧ n ≤ 7 := by omega
    clear hn hly dx dy hcb n0 n1
    go_upto_region 4 with fail
    obtain ⟨ga, hga⟩ : ∃ g, g = w1.heap.size := ⟨_, rfl⟩
    obtain ⟨v1, hv1⟩ : ∃ V, V = (w1.alloc (.cells #[.int .i64 b, .slice A n C] 69)).alloc (.cells #[.int .i64 b, .slice D n E] 69) := ⟨_, rfl⟩
    have b_ga : Bx v1 ga 69 #[.int .i64 b, .slice A n C] := by rw [hv1, hga]; exact (Bx.new _ _ _).alloc _
    have b_ga1 : Bx v1 (ga + 1) 69 #[.int .i64 b, .slice D n E] := by rw [hv1, hga]; simpa using Bx.new (w1.alloc (.cells #[.int .i64 b, .slice A n C] 69)) #[.int .i64 b, .slice D n E] 69
    have hb : Below w1.heap.size w1 v1 := by rw [hv1]; exact ((Below.refl _ _).alloc (Nat.le_refl _) _).alloc (by simp) _
    rw [← hga, ← hv1]
    clear hv1 hga
    replace hy := hy.below hb
    replace rx := rx.below hb
    replace ry := ry.below hb
    replace hbel := hbel.trans (hb.mono hbel.size)
    clear hb
    have e1 : IntKind.i64.wrap ((n : Int) + 1) = (n : Int) + 1 := fits_int _ (by omega) (by omega)
    have ca1 := b_ga.at_ 1 rfl
    go_wp2_with fail
    refine (a2At_any yA yZ yC 0 ((n : Int) + 1) v1 hy (by omega) (by omega) (by omega)).mono ?_
    rintro e w2 ⟨t, rfl, t0, t1, hb⟩
    clear ca1 e1
    clear hy
    replace rx := rx.below hb
    replace ry := ry.below hb
    replace b_ga := b_ga.below hb
    replace b_ga1 := b_ga1.below hb
    replace hbel := hbel.trans (hb.mono hbel.size)
    clear hb
    have it : I64 t := small_i64 (by omega) (by omega)
    obtain ⟨us, hus⟩ : ∃ us, us = tab (shD xs t) n := ⟨_, rfl⟩
    have hun : us.length = n := by rw [hus, tab_len]
    have hu := shR_drawn b0 b1 (by rw [← HXN.out]; exact hn1.1) (by rw [← HXN.out]; exact hn1.2) HDX.out.digs (m := t) (by omega) (by omega)
    rw [← HXN.out, ← hus] at hu
    obtain ⟨ds, hds⟩ : ∃ ds, ds = tab (shD us (-t)) n := ⟨_, rfl⟩
    have hdn : ds.length = n := by rw [hds, tab_len]
    have hd := shR_drawn b0 b1 (by rw [hun]; exact hn1.1) (by rw [hun]; exact hn1.2) hu.1 (m := -t) (by omega) (by omega)
    rw [hun, ← hds] at hd
    have u64 := digs_i64 b1 hu.1
    have HU := Lib.hid hu.2.2
    have HUO := Lib.hid hu.2.1
    have HD := Lib.hid hd.2.2
    have HUN := Lib.hid hun
    have HDN := Lib.hid hdn
    have HDK : Hid (∀ k, k < n → nth ds k = if (n : Int) ≤ (k : Int) + t then 0 else nth xs k) := Lib.hid fun k hk => by
      rw [hds, tab_nth hk, hus]
      have := shD_back (xs := xs) (m := t) t0 (k := k) (by rw [← HXN.out]; exact hk)
      rw [← HXN.out] at this
      exact this
    have hdd := digs_i64 b1 hd.1
    have hdb : Hid (DigsOf b ds) := Lib.hid hd.1
    clear hus hun hu hds hdn hd
    have ca0 := b_ga.at_ 0 rfl
    have ca1 := b_ga.at_ 1 rfl
    go_wp2_with fail
    have hcon := implShiftRegister b A C xs t w2 rx x64 ib it
    rw [← HXN.out, HU.out] at hcon
    refine hcon.mono ?_
    clear hcon
    rintro e w3 ⟨A1, C1, rfl, ou, hb⟩
    have ru : Rd w3 A1 us := ou.rd
    clear ca0 ca1 ou
    replace rx := rx.below hb
    replace ry := ry.below hb
    replace b_ga := b_ga.below hb
    replace b_ga1 := b_ga1.below hb
    replace hbel := hbel.trans (hb.mono hbel.size)
    clear hb
    go_wp2_with fail
    obtain ⟨gu, hgu⟩ : ∃ g, g = w3.heap.size := ⟨_, rfl⟩
    obtain ⟨v3, hv3⟩ : ∃ V, V = w3.alloc (.cells #[.int .i64 b, .slice A1 us.length C1] 69) := ⟨_, rfl⟩
    have b_gu : Bx v3 gu 69 #[.int .i64 b, .slice A1 us.length C1] := by rw [hv3, hgu]; exact Bx.new _ _ _
    have hb : Below w3.heap.size w3 v3 := by rw [hv3]; exact (Below.refl _ _).alloc (Nat.le_refl _) _
    rw [← hgu, ← hv3]
    clear hv3 hgu
    replace rx := rx.below hb
    replace ry := ry.below hb
    replace b_ga := b_ga.below hb
    replace b_ga1 := b_ga1.below hb
    replace ru := ru.below hb
    replace hbel := hbel.trans (hb.mono hbel.size)
    clear hb
    refine (specValidRegister b A1 C1 us v3 ru u64 ib).mono ?_
    rw [HUO.out]
    rintro e w4 ⟨rfl, hb⟩
    rw [HUN.out] at b_gu
    replace rx := rx.below hb
    replace ry := ry.below hb
    replace b_ga := b_ga.below hb
    replace b_ga1 := b_ga1.below hb
    replace ru := ru.below hb
    replace b_gu := b_gu.below hb
    replace hbel := hbel.trans (hb.mono hbel.size)
    clear hb
    have cu0 := b_gu.at_ 0 rfl
    have cu1 := b_gu.at_ 1 rfl
    have e2 : IntKind.i64.wrap (-t) = -t := fits_int _ (by omega) (by omega)
    have itn : I64 (-t) := small_i64 (by omega) (by omega)
    go_wp2_with fail
    have hcon := implShiftRegister b A1 C1 us (-t) w4 ru u64 ib itn
    rw [HUN.out, HD.out] at hcon
    refine hcon.mono ?_
    clear hcon
    rintro e w5 ⟨A2, C2, rfl, od, hb⟩
    have rd : Rd w5 A2 ds := od.rd
    clear cu0 cu1 od e2
    clear ru b_gu
    replace rx := rx.below hb
    replace ry := ry.below hb
    replace b_ga := b_ga.below hb
    replace b_ga1 := b_ga1.below hb
    replace hbel := hbel.trans (hb.mono hbel.size)
    clear hb
    have ca0 := b_ga.at_ 0 rfl
    have ca1 := b_ga.at_ 1 rfl
    have cb0 := b_ga1.at_ 0 rfl
    have cb1 := b_ga1.at_ 1 rfl
    have za := b_ga.lt
    have zb := b_ga1.lt
    go_wp2_with fail
    clear ca0 ca1 cb0 cb1 za zb
    obtain ⟨gd, hgd⟩ : ∃ g, g = w5.heap.size := ⟨_, rfl⟩
    obtain ⟨v5, hv5⟩ : ∃ V, V = w5.alloc (.cells #[.int .i64 b, .slice A2 ds.length C2] 69) := ⟨_, rfl⟩
    have b_gd : Bx v5 gd 69 #[.int .i64 b, .slice A2 ds.length C2] := by rw [hv5, hgd]; exact Bx.new _ _ _
    have hb : Below w5.heap.size w5 v5 := by rw [hv5]; exact (Below.refl _ _).alloc (Nat.le_refl _) _
    rw [← hgd, ← hv5]
    clear hv5 hgd
    replace rx := rx.below hb
    replace ry := ry.below hb
    replace b_ga := b_ga.below hb
    replace b_ga1 := b_ga1.below hb
    replace rd := rd.below hb
    replace hbel := hbel.trans (hb.mono hbel.size)
    clear hb
    have hcon := implCarriesOf b A C xs b D E ys v5 rx x64 ib ry y64 ib
    rw [← HXN.out, HYN.out, HCR.out] at hcon
    refine hcon.mono ?_
    clear hcon
    rintro e w6 ⟨A3, C3, rfl, oc, hb⟩
    obtain ⟨cs, hcs⟩ : ∃ cs, cs = tab (cK b xs ys) (n + 1) := ⟨_, rfl⟩
    have hcl : cs.length = n + 1 := by rw [hcs, tab_len]
    have rc : Rd w6 A3 cs := by rw [hcs]; exact oc.rd
    have HCK : Hid (∀ k, k < n + 1 → nth cs k = cK b xs ys k) := Lib.hid fun k hk => by rw [hcs, tab_nth hk]
    have HCL := Lib.hid hcl
    have HCS := Lib.hid hcs
    rw [HDN.out] at b_gd
    clear oc hcl
    replace rx := rx.below hb
    replace ry := ry.below hb
    replace b_ga := b_ga.below hb
    replace b_ga1 := b_ga1.below hb
    replace rd := rd.below hb
    replace b_gd := b_gd.below hb
    replace hbel := hbel.trans (hb.mono hbel.size)
    clear hb
    have cd1 := b_gd.at_ 1 rfl
    obtain ⟨b1', o1, hA3, hc1⟩ := rc.at_ (k := 0) (by rw [HCL.out]; omega)
    rw [HCK.out 0 (by omega), Nat.add_zero] at hc1
    rw [show cK b xs ys 0 = 0 from rfl] at hc1
    subst hA3
    rw [← hcs, HCL.out]
    clear hcs
    have e3 : IntKind.i64.wrap ((n : Int) + 1) = (n : Int) + 1 := fits_int _ (by omega) (by omega)
    go_wp2_with fail
    clear hc1 cd1 e3
    obtain ⟨bx, ox, hA, _⟩ := rx.at_ (k := 0) (by rw [← HXN.out]; omega)
    subst hA
    obtain ⟨by_, oy, hD, _⟩ := ry.at_ (k := 0) (by rw [HYN.out]; omega)
    subst hD
    obtain ⟨bd, od, hA2, _⟩ := rd.at_ (k := 0) (by rw [HDN.out]; omega)
    subst hA2
    go_loopw [15, 16, 17] (fun i _ _ wr => ∃ k m : Nat, k ≤ n ∧ i = .int .i64 (k : Nat) ∧ wr = w6.drewN m) (fun i _ _ _ => n - (intOf i).toNat)
    case atStart => exact ⟨0, 0, Nat.zero_le _, rfl, rfl⟩
    case round =>
      obtain ⟨k, m, hk, rfl, rfl⟩ := hrel
      by_cases hlt : k < n
      · have ca1 := b_ga.at_ 1 rfl
        have ca0 := b_ga.at_ 0 rfl
        have cb1 := b_ga1.at_ 1 rfl
        have cd1 := b_gd.at_ 1 rfl
        have hcx := rd_cell rx (k := k) (by rw [← HXN.out]; exact hlt)
        have hcy := rd_cell ry (k := k) (by rw [HYN.out]; exact hlt)
        have hcd := rd_cell rd (k := k) (by rw [HDN.out]; exact hlt)
        have hck := rd_cell rc (k := k) (by rw [HCL.out]; omega)
        have hcn := rd_cell rc (k := k + 1) (by rw [HCL.out]; omega)
        rw [HCK.out k (by omega)] at hck
        rw [HCK.out (k + 1) (by omega)] at hcn
        have hX := digs_nth HDX.out.digs (k := k) (by rw [← HXN.out]; exact hlt)
        have hY := digs_nth HDY.out (k := k) (by rw [HYN.out]; exact hlt)
        have hC := HCB.out k (by rw [← HXN.out]; omega)
        have hDK := HDK.out k hlt
        have hN := cK_step b xs ys k
        obtain ⟨X, eX⟩ : ∃ X, X = nth xs k := ⟨_, rfl⟩
        obtain ⟨Y, eY⟩ : ∃ Y, Y = nth ys k := ⟨_, rfl⟩
        obtain ⟨V, eV⟩ : ∃ V, V = nth ds k := ⟨_, rfl⟩
        obtain ⟨c, ec⟩ : ∃ c, c = cK b xs ys k := ⟨_, rfl⟩
        obtain ⟨c', ec'⟩ : ∃ c', c' = cK b xs ys (k + 1) := ⟨_, rfl⟩
        rw [← eX] at hcx hX hDK hN
        rw [← eY] at hcy hY hN
        rw [← eV] at hcd hDK
        rw [← ec] at hck hC hN
        rw [← ec'] at hcn hN
        have HE := Lib.hid (And.intro (And.intro eX eY) (And.intro eV (And.intro ec ec')))
        clear eX eY eV ec ec'
        have hT := cK_test b0 (t := X + Y + c) (by omega) (by omega)
        rw [← hN] at hT
        have e1 : IntKind.i64.wrap ((k : Int) + t) = (k : Int) + t := fits_int _ (by omega) (by omega)
        have e2 : IntKind.i64.wrap (X + Y) = X + Y := fits_int _ (by omega) (by omega)
        have e3 : IntKind.i64.wrap (X + Y + c) = X + Y + c := fits_int _ (by omega) (by omega)
        have e4 : IntKind.i64.wrap ((k : Int) + 1) = (k : Int) + 1 := fits_int _ (by omega) (by omega)
        have g1 : (k : Int) < (n : Int) + 1 := by omega
        have g2 : (k : Int) + 1 < (n : Int) + 1 := by omega
        have g3 : (k : Int) < (n : Int) := by omega
        have g4 : 0 ≤ (k : Int) + 1 := by omega
        have g5 : ((k : Int) + 1).toNat = k + 1 := by omega
        clear hN
        by_cases hkt : (n : Int) ≤ (k : Int) + t
        · rw [if_pos hkt] at hDK
          subst hDK
          by_cases hbt : b ≤ X + Y + c
          · have hc' := hT.1 hbt
            subst hc'
            have d1 : decide (b ≤ X + Y + c) = true := decide_eq_true hbt
            clear hT
            go_wp2_with fail
            go_big_quiet (fail)
            go_wp2_with fail
            go_big_quiet (fail)
            go_wp2_with fail
            go_roundw
            case rel => exact ⟨k + 1, _, by omega, by go_num, rfl⟩
            case measure => (simp [intOf]) <;> omega
          · have hc' := hT.2 (by omega)
            subst hc'
            have d1 : decide (b ≤ X + Y + c) = false := decide_eq_false hbt
            clear hT
            go_wp2_with fail
            go_big_quiet (fail)
            go_wp2_with fail
            go_big_quiet (fail)
            go_wp2_with fail
            go_roundw
            case rel => exact ⟨k + 1, _, by omega, by go_num, rfl⟩
            case measure => (simp [intOf]) <;> omega
        · rw [if_neg hkt] at hDK
          subst hDK
          by_cases hbt : b ≤ V + Y + c
          · have hc' := hT.1 hbt
            subst hc'
            have d1 : decide (b ≤ V + Y + c) = true := decide_eq_true hbt
            clear hT
            go_wp2_with fail
            go_big_quiet (fail)
            go_wp2_with fail
            go_big_quiet (fail)
            go_wp2_with fail
            go_roundw
            case rel => exact ⟨k + 1, _, by omega, by go_num, rfl⟩
            case measure => (simp [intOf]) <;> omega
          · have hc' := hT.2 (by omega)
            subst hc'
            have d1 : decide (b ≤ V + Y + c) = false := decide_eq_false hbt
            clear hT
            go_wp2_with fail
            go_big_quiet (fail)
            go_wp2_with fail
            go_big_quiet (fail)
            go_wp2_with fail
            go_roundw
            case rel => exact ⟨k + 1, _, by omega, by go_num, rfl⟩
            case measure => (simp [intOf]) <;> omega
      · obtain rfl : k = n := by omega
        go_wp2_with fail
        go_ret
        exact ⟨rfl, bel_drewN hbel _⟩

set_option maxRecDepth 100000 in
theorem lifted (os : Os) (started : os.Started) (H : Type) (enc : TypeId × Value → H) :
    ReturnsInHanded {} Try.checked os 7 .any (Rows.fnShiftedDigitsSpec.pre6 enc Try.prog Try.f7 Rows.fnShiftedDigitsRow.domain false) (Rows.fnShiftedDigitsSpec.post enc Try.prog Try.f7 false true false false) := by
  refine returnsInHanded_of_change (C := Try.checked) own_knob started (by kernel_rfl) Try.func7
    (ChangeSpec.witness6 (enc := enc) (C := Try.checked) false ⟨#[], #[.slice none 0 0, .slice none 0 0], []⟩ 8 (by kernel_rfl) (by kernel_rfl) (by kernel_rfl) (by kernel_rfl)) ?_
  intro W base args ds gs before hval0 hW hcnd _
  have hval : ∀ (j : Nat) t v, Try.f7.params[j]? = some t → args[j]? = some v → Value.okWide Try.prog W .any base t v := hval0
  have hW' := hW
  obtain ⟨p, q, hA0, hV, rfl, hfz, hnd⟩ := hW
  have hA : DataW.TrodAll enc Try.prog W 0 (fun _ => true) true Try.f7.params.toList args.toList ds p := hA0
  rw [Try.params7] at hA hval
  obtain ⟨v0, vs0, d0, ds0, p0, q0, hargs, rfl, rfl, h0, r0⟩ := trodAll_cons hA
  obtain ⟨v1, vs1, d1, ds1, p1, q1, rfl, rfl, rfl, h1, r1⟩ := trodAll_cons r0
  obtain ⟨rfl, rfl, rfl⟩ := trodAll_nil r1
  obtain rfl : args = #[v0, v1] := by cases args; simp_all
  obtain ⟨rfl, rfl⟩ := trodVars_none hV
  have k0 := h0
  have lt0 : ∀ x ∈ p0, x.block < W.heap.size := by obtain ⟨m, hm⟩ := k0; exact DataW.trod_lt m _ _ _ hm
  obtain ⟨xA, xC, xZ, rfl, hx⟩ := open_Bytes (hval 0 44 v0 rfl rfl) h0
  have k1 := h1
  have lt1 : ∀ x ∈ p1, x.block < W.heap.size := by obtain ⟨m, hm⟩ := k1; exact DataW.trod_lt m _ _ _ hm
  obtain ⟨yA, yC, yZ, rfl, hy⟩ := open_Bytes (hval 1 44 v1 rfl rfl) h1
  clear hA0 hval0
  refine (law_walk xA xC xZ yA yC yZ W hx hy).mono fun e W' ⟨he, bel⟩ => ?_
  subst he
  exact ⟨_, rfl, _, _, _, [], _, [], hW', trodAll_mk1 (shut_bool Try.underlying4 _), (trodAll_cons_mk (Below.trod laid_out (by kernel_rfl) (of_decide_eq_true (by kernel_rfl)) k0 bel lt0) (trodAll_cons_mk (Below.trod laid_out (by kernel_rfl) (of_decide_eq_true (by kernel_rfl)) k1 bel lt1) trodAll_mk0)), rfl, bel.frame _, fun h => by cases h⟩

set_option maxHeartbeats 20000000 in
theorem closed : joinedFacts Try.prog 7 Try.f7 Rows.fnShiftedDigitsSpec Rows.fnShiftedDigitsRow = true := by
  simp only [joinedFacts, Bool.and_eq_true]
  refine ⟨⟨⟨⟨⟨⟨⟨⟨⟨⟨⟨⟨⟨⟨⟨⟨⟨⟨⟨⟨⟨⟨⟨⟨⟨⟨⟨⟨⟨⟨⟨?_, laid_out⟩, fact_maps⟩, ?_⟩, ?_⟩, ?_⟩, fact_stops⟩, ?_⟩, fact_knobs⟩, ?_⟩, ?_⟩, ?_⟩, ?_⟩, ?_⟩, ?_⟩, ?_⟩, ?_⟩, ?_⟩, ?_⟩, ?_⟩, ?_⟩, ?_⟩, fact_plain⟩, ?_⟩, fact_heard⟩, fact_enter⟩, fact_lift⟩, ?_⟩, ?_⟩, ?_⟩, ?_⟩, ?_⟩
  all_goals (as_aux_lemma => kernel_rfl)

theorem over : Rows.fnShiftedDigitsRow.holds Try.pinned (OpenSpec.ofChange Rows.fnShiftedDigitsSpec) :=
  OpenClaim.holds_of_wide 7 Try.f7 rfl rfl rfl rfl rfl rfl rfl ⟨rfl, rfl, rfl, rfl, rfl⟩ rfl rfl rfl rfl rfl (by as_aux_lemma => kernel_rfl) Try.func7 closed
    (of_decide_eq_true (by as_aux_lemma => kernel_rfl)) (by unfold Func.isWrapper; rw [if_neg (by decide +kernel)]; exact ⟨rfl, rfl⟩)
    (fun os started H enc _ => lifted os started H enc)

/-- The statement. -/
theorem proved : Rows.FnShiftedDigitsSaid := over
end Go.Proofs.Ytaefgkhbgljkoab.lawFnShiftedDigits
