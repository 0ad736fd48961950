/-
  spec.AddOnAbacus.
-/
import Derived.Test.YtcfpfhlgcfmioaaBdS
import Derived.Test.YtcfpfhlgcfmioaaAbaU
import Derived.Test.YtcfpfhlgcfmioaaCloneI
import Derived.Test.YtcfpfhlgcfmioaaArr
import Derived.RegionTactic
import Derived.ChangeAlike
namespace Go.Proofs.Ytcfpfhlgcfmioaa
open Go.RowKit

theorem pln_of {U L W : Int} {rs : List (Int × Int)} (h : abaB U L W rs = true) (hp : plainB U L W rs = true) : Pln U L W rs := by
  rw [plainB_of h] at hp
  exact ⟨aba_of h, by simpa using hp⟩
/-- As many digits as the value has. -/
def Digs (v : Int) (k : Nat) : Prop := ∀ j, k = j + 1 → 0 < leftR 10 j v
theorem digs_top {v : Int} {k j : Nat} (h : Digs v k) (h0 : leftR 10 k v = 0) (hk : k = j + 1) : ¬ leftR 10 j v % 10 = 0 := by
  have := h j hk
  subst hk
  rw [leftR_succ] at h0
  omega
/-- All digits behind the last one are noughts. -/
theorem addN_13 {U W v : Int} {n : Nat} (hn : n ≤ 13) (h0 : leftR 10 n v = 0) (rs : List (Int × Int)) : addN U W (fun i => leftR 10 i v % 10) 13 rs = addN U W (fun i => leftR 10 i v % 10) n rs := by
  obtain ⟨m, hm⟩ : ∃ m, n + m = 13 := ⟨13 - n, by omega⟩
  have := addN_zeros (U := U) (W := W) (ds := fun i => leftR 10 i v % 10) (m := n) m rs (fun i h1 h2 => by
    show leftR 10 i v % 10 = 0
    rw [show i = n + (i - n) by omega, leftR_add, h0, leftR_zero]; rfl)
  rwa [hm] at this
/-- The moves so far: none yet, as the literal laid them, or a row of its own. -/
def MvAt (w : World) (g0 lo2 : Nat) (n j : Nat) (A : Option Addr) (C : Nat) (ms : List (Int × Int × Int)) : Prop :=
  (j = n ∧ ms = [] ∧ C = 0 ∧ OwnF tripF 37 w g0 (g0 + 1) (.slice A ms.length C) ms) ∨ (ms ≠ [] ∧ OwnF tripF 37 w lo2 w.heap.size (.slice A ms.length C) ms)
theorem MvAt.lm {w : World} {g0 lo2 n j : Nat} {A : Option Addr} {C : Nat} {ms : List (Int × Int × Int)} (h : MvAt w g0 lo2 n j A C ms) : LM w lo2 w.heap.size A C ms := by
  rcases h with ⟨_, h1, h2, _⟩ | ⟨_, h⟩
  · exact .inl ⟨h1, h2⟩
  · exact .inr h
/-- What is owned at the end, with its bounds. -/
theorem MvAt.own {w : World} {g0 lo2 n j : Nat} {A : Option Addr} {C : Nat} {ms : List (Int × Int × Int)} (h : MvAt w g0 lo2 n j A C ms) (hg : g0 + 1 ≤ lo2) (hl : lo2 ≤ w.heap.size) : OwnF tripF 37 w g0 w.heap.size (.slice A ms.length C) ms := by
  rcases h with ⟨_, _, _, h⟩ | ⟨_, h⟩
  · exact h.wide (Nat.le_refl _) (by omega)
  · exact h.wide (by omega) (Nat.le_refl _)
theorem MvAt.step {w w' : World} {g0 lo2 n j : Nat} {A A' : Option Addr} {C C' : Nat} {ms mv : List (Int × Int × Int)} (h : MvAt w g0 lo2 n (j + 1) A C ms) (hm : n = j + 1 → mv ≠ []) (hl : LM w' lo2 w'.heap.size A' C' (ms ++ mv)) : MvAt w' g0 lo2 n j A' C' (ms ++ mv) := by
  have hne : ms ++ mv ≠ [] := by
    rcases h with ⟨h1, _, _, _⟩ | ⟨h1, _⟩
    · have := hm h1.symm
      simp [this]
    · simp [h1]
  rcases hl with ⟨h1, _⟩ | h1
  · exact absurd h1 hne
  · exact .inr ⟨hne, h1⟩
theorem Own.mid {t : TypeId} {w w' : World} {lo hi p q : Nat} {v : Value} {zs : List Int} (h : Own t w lo hi v zs) (hm : Mid p q w w') (hp : p < lo) (hq : hi ≤ q) : Own t w' lo hi v zs :=
  ⟨ownsRow_same h.row fun k hk => hm k (by have := h.lo_le hk; omega) (by have := h.lo_le hk; omega), h.top, h.len⟩

set_option maxRecDepth 100000 in
set_option maxHeartbeats 4000000 in
theorem specAddOnAbacus (U L W : Int) (a : Option Addr) (c : Nat) (rs : List (Int × Int)) (v : Int) (w : World) (ha : RdF pairF w a rs) (bU : I64 U) (bL : I64 L) (bW : I64 W) (z : All2 rs) (_ : I64 v) :
    Calls Try.prog 17 #[.agg #[.int .i64 U, .int .i64 L, .int .i64 W, .slice a rs.length c], .int .i64 v] w (AbaM2 (addAR U L W rs v) w) := by
  have hxl := ha.len
  obtain ⟨u, hu⟩ : ∃ u, u = (w.alloc (.cells #[.int .i64 U, .int .i64 L, .int .i64 W, .slice a rs.length c] 26)).alloc (.cells #[.int .i64 0, .int .i64 0, .int .i64 0, .slice none 0 0] 26) := ⟨_, rfl⟩
  have hbel : Below w.heap.size w u := by rw [hu]; exact (by repeat (first | exact Below.refl _ _ | refine Below.setCell ?_ (by first | omega | (simp <;> omega)) _ | refine Below.alloc ?_ (by first | omega | (simp <;> omega)) _ | refine Below.drew ?_))
  have at0 : AbaAt u w.heap.size U L W a rs.length c := by rw [hu]; exact .of_box ((Bx.new _ _ _).alloc _)
  have bx2 : Bx u (w.heap.size + 1) 26 #[.int .i64 0, .int .i64 0, .int .i64 0, .slice none 0 0] := by rw [hu]; simpa using Bx.new (w.alloc (.cells #[.int .i64 U, .int .i64 L, .int .i64 W, .slice a rs.length c] 26)) #[.int .i64 0, .int .i64 0, .int .i64 0, .slice none 0 0] 26
  have HU := Lib.hid hu
  clear hu
  replace ha := ha.below hbel
  cases h : abaB U L W rs with
  | false =>
    have HR := Lib.hid (addAR_bad (v := v) h)
    have HO := Lib.hid (l03Ok_at w.heap.size U L W a c rs u h at0 ha)
    clear h
    go_enter Try.func17, Try.ntmps17
    go_wp2_with fail
    rw [← HU.out]
    refine HO.out.mono ?_
    rintro e w1 ⟨rfl, hb1⟩
    replace bx2 := bx2.below hb1
    have r0 := bx2.at_ 0 rfl
    have r1 := bx2.at_ 1 rfl
    have r2 := bx2.at_ 2 rfl
    have r3 := bx2.at_ 3 rfl
    have f0 := bx2.thaw 0
    have f1 := bx2.thaw 1
    have f2 := bx2.thaw 2
    have f3 := bx2.thaw 3
    have hb := hbel.trans (hb1.mono hbel.size)
    go_wp2
    exact bodyPost_ret (v := .tuple #[.agg #[.int .i64 0, .int .i64 0, .int .i64 0, .slice none 0 0], .slice none 0 0, .int .i64 1]) (by simp [results, Try.results17, go_sem, r0, r1, r2, r3]) rfl
      (abaM2_err HR.out rfl (by repeat (first | exact hb | refine Below.setCell ?_ (by first | omega | (simp <;> omega)) _ | refine Below.alloc ?_ (by first | omega | (simp <;> omega)) _ | refine Below.drew ?_)))
  | true =>
    have HO := Lib.hid (l03Ok_at w.heap.size U L W a c rs u h at0 ha)
    cases hv : inB v 0 1000000000000 with
    | false =>
      have HR := Lib.hid (addAR_range h (show ¬ (0 ≤ v ∧ v ≤ 1000000000000) by have := inB_false hv; omega))
      have HIN := Lib.hid (fun (w : World) => l00In_false v 0 1000000000000 w (inB_false hv))
      clear h hv
      go_enter Try.func17, Try.ntmps17
      go_wp2_with fail
      rw [← HU.out]
      refine HO.out.mono ?_
      rintro e w1 ⟨rfl, hb1⟩
      replace bx2 := bx2.below hb1
      go_wp2_with fail
      refine (HIN.out w1).mono ?_
      rintro e w2 ⟨rfl, rfl⟩
      have r0 := bx2.at_ 0 rfl
      have r1 := bx2.at_ 1 rfl
      have r2 := bx2.at_ 2 rfl
      have r3 := bx2.at_ 3 rfl
      have f0 := bx2.thaw 0
      have f1 := bx2.thaw 1
      have f2 := bx2.thaw 2
      have f3 := bx2.thaw 3
      have hb := hbel.trans (hb1.mono hbel.size)
      go_wp2
      exact bodyPost_ret (v := .tuple #[.agg #[.int .i64 0, .int .i64 0, .int .i64 0, .slice none 0 0], .slice none 0 0, .int .i64 2]) (by simp [results, Try.results17, go_sem, r0, r1, r2, r3]) rfl
        (abaM2_err HR.out rfl (by repeat (first | exact hb | refine Below.setCell ?_ (by first | omega | (simp <;> omega)) _ | refine Below.alloc ?_ (by first | omega | (simp <;> omega)) _ | refine Below.drew ?_)))
    | true =>
      have hvb := inB_true hv
      have HIN := Lib.hid (fun (w : World) => l00In_true v 0 1000000000000 w hvb.1 hvb.2)
      have HP := Lib.hid (fun (w' : World) (hw : Below u.heap.size u w') => specIsPlain U L W a c rs w' (ha.below hw) bU bL bW z)
      cases hpl : plainB U L W rs with
      | false =>
        have HR := Lib.hid (addAR_state h hvb hpl)
        rw [hpl] at HP
        clear h hv hpl
        go_enter Try.func17, Try.ntmps17
        go_wp2_with fail
        rw [← HU.out]
        refine HO.out.mono ?_
        rintro e w1 ⟨rfl, hb1⟩
        replace bx2 := bx2.below hb1
        replace at0 := at0.below hb1
        go_wp2_with fail
        refine (HIN.out w1).mono ?_
        rintro e w2 ⟨rfl, rfl⟩
        obtain ⟨c0, c1, c2, c3⟩ := at0
        go_wp2_with fail
        refine (HP.out w2 hb1).mono ?_
        rintro e w3 ⟨rfl, hb3⟩
        replace bx2 := bx2.below hb3
        have r0 := bx2.at_ 0 rfl
        have r1 := bx2.at_ 1 rfl
        have r2 := bx2.at_ 2 rfl
        have r3 := bx2.at_ 3 rfl
        have f0 := bx2.thaw 0
        have f1 := bx2.thaw 1
        have f2 := bx2.thaw 2
        have f3 := bx2.thaw 3
        have hb := hbel.trans ((hb1.trans (hb3.mono hb1.size)).mono hbel.size)
        go_wp2
        exact bodyPost_ret (v := .tuple #[.agg #[.int .i64 0, .int .i64 0, .int .i64 0, .slice none 0 0], .slice none 0 0, .int .i64 6]) (by simp [results, Try.results17, go_sem, r0, r1, r2, r3]) rfl
          (abaM2_err HR.out rfl (by repeat (first | exact hb | refine Below.setCell ?_ (by first | omega | (simp <;> omega)) _ | refine Below.alloc ?_ (by first | omega | (simp <;> omega)) _ | refine Below.drew ?_)))
      | true =>
        rw [hpl] at HP
        have HPL := Lib.hid (pln_of h hpl)
        have HFU := Lib.hid (addAR_full h hvb hpl)
        have HOK := Lib.hid (fun (cur : List (Int × Int)) (acc : List (Int × Int × Int)) => addAR_ok (cur := cur) (acc := acc) h hvb hpl)
        have HVB := Lib.hid hvb
        clear h hv hpl hvb
        go_enter Try.func17, Try.ntmps17
        go_wp2_with fail
        rw [← HU.out]
        refine HO.out.mono ?_
        rintro e w1 ⟨rfl, hb1⟩
        go_wp2_with fail
        refine (HIN.out w1).mono ?_
        rintro e w2 ⟨rfl, rfl⟩
        obtain ⟨c0, c1, c2, c3⟩ := at0.below hb1
        go_wp2_with fail
        refine (HP.out w2 hb1).mono ?_
        rintro e w3 ⟨rfl, hb3⟩
        have hb13 := hb1.trans (hb3.mono hb1.size)
        replace at0 := at0.below hb13
        replace bx2 := bx2.below hb13
        replace ha := ha.below hb13
        replace hbel := hbel.trans (hb13.mono hbel.size)
        clear c0 c1 c2 c3 hb1 hb3 hb13 HP HO HIN HU
        have hz3 : w.heap.size + 1 < w3.heap.size := bx2.lt
        have hn0 : 0 < rs.length := by have := HPL.out.aba.n0; omega
        have hn1 : rs.length ≤ 10 := HPL.out.aba.n1
        go_wp2_with fail
        refine (l03Own_any w.heap.size U L W a c rs w3 at0 ha hn0).mono ?_
        rintro e w4 ⟨A, C, rfl, ow, hb4⟩
        replace bx2 := bx2.below hb4
        replace hbel := hbel.trans (hb4.mono hbel.size)
        have hz4 : w3.heap.size ≤ w4.heap.size := hb4.size
        clear hb4 ha at0
        go_upto_region 9 with fail
        obtain ⟨V, hV⟩ : ∃ V, V = ((w4.alloc (.cells #[] 37)).alloc (.cells #[.int .i64 U, .int .i64 L, .int .i64 W, .slice A rs.length C, .slice (some ⟨w4.heap.size, 0, none⟩) 0 0] 116)).alloc (.cells #[] 2) := ⟨_, rfl⟩
        have hbV : Below w4.heap.size w4 V := by rw [hV]; exact (by repeat (first | exact Below.refl _ _ | refine Below.setCell ?_ (by first | omega | (simp <;> omega)) _ | refine Below.alloc ?_ (by first | omega | (simp <;> omega)) _ | refine Below.drew ?_))
        have hsV : V.heap.size = w4.heap.size + 3 := by rw [hV]; simp
        have bo : Bx V (w4.heap.size + 1) 116 #[.int .i64 U, .int .i64 L, .int .i64 W, .slice A rs.length C, .slice (some ⟨w4.heap.size, 0, none⟩) 0 0] := by
          rw [hV]
          have := (Bx.new (w4.alloc (.cells #[] 37)) #[.int .i64 U, .int .i64 L, .int .i64 W, .slice A rs.length C, .slice (some ⟨w4.heap.size, 0, none⟩) 0 0] 116).alloc (.cells #[] 2)
          simpa using this
        have og0 : OwnF tripF 37 V w4.heap.size (w4.heap.size + 1) (.slice (some ⟨w4.heap.size, 0, none⟩) 0 0) [] := by
          rw [hV]
          exact ((ownF_row (n := 0) (row_new 37 3 w4 #[] 0 (by simp) (by omega)) rfl (by simp)).alloc _).alloc _
        have od : Own 2 V (w4.heap.size + 2) V.heap.size (.slice (some ⟨w4.heap.size + 2, 0, none⟩) 0 0) [] := by
          rw [hsV, hV]
          have := row_new 2 1 ((w4.alloc (.cells #[] 37)).alloc (.cells #[.int .i64 U, .int .i64 L, .int .i64 W, .slice A rs.length C, .slice (some ⟨w4.heap.size, 0, none⟩) 0 0] 116)) #[] 0 (by simp) (by omega)
          exact own_of_row (n := 0) (by simpa using this) rfl (by simp)
        try simp only [World.size_alloc]
        rw [← hV]
        clear hV
        replace bx2 := bx2.below hbV
        replace ow := ow.below hbV
        replace hbel := hbel.trans (hbV.mono hbel.size)
        clear hbV
        go_wp2
        go_loopw [8, 9] (fun o q wr => ∃ (k : Nat) (dA : Option Addr) (dC : Nat), k ≤ 13 ∧ o = .slice dA k dC ∧ q = .int .i64 (leftR 10 k v) ∧ Hid (Digs v k) ∧
          Own 2 wr (w4.heap.size + 2) wr.heap.size (.slice dA k dC) (digsR 10 k v) ∧ Below (w4.heap.size + 2) V wr) (fun _ q _ => (intOf q).toNat)
        case atStart => exact ⟨0, _, 0, Nat.zero_le _, rfl, rfl, Lib.hid (fun j h => by omega), od, Below.refl _ _⟩
        case round =>
          obtain ⟨k, dA, dC, hk, rfl, rfl, HDG, owd, hbr⟩ := hrel
          clear od
          obtain ⟨lb0, lb1⟩ := leftR_bd (by omega : (1 : Int) ≤ 10) k v HVB.out.1 HVB.out.2
          have hwz := hbr.size
          by_cases hlt : 0 < leftR 10 k v
          · have hk13 : k < 13 := by
              rcases Nat.lt_or_ge k 13 with h1 | h1
              · exact h1
              · obtain rfl : k = 13 := by omega
                rw [leftR_thirteen HVB.out.1 HVB.out.2] at hlt; omega
            have hrm : (leftR 10 k v).tmod 10 = leftR 10 k v % 10 := Int.tmod_eq_emod_of_nonneg (by omega)
            have hqt : (leftR 10 k v).tdiv 10 = leftR 10 (k + 1) v := by rw [leftR_succ]; exact Int.tdiv_eq_ediv_of_nonneg (by omega)
            have hsm : leftR 10 (k + 1) v < leftR 10 k v := by rw [leftR_succ]; omega
            have hnn : 0 ≤ leftR 10 (k + 1) v := by rw [leftR_succ]; omega
            have HDG' := Lib.hid (show Digs v (k + 1) from fun j h => by obtain rfl : j = k := by omega
                                                                         exact hlt)
            have hap := digsR_succ 10 k v
            have hw5 : IntKind.i64.wrap (leftR 10 (k + 1) v) = leftR 10 (k + 1) v := IntWalk.i64_in _ (by omega)
            go_wp2_with (at_builtin; go_must (refine wpList_appI rfl (.tmp 32) (.tmp 35) 57 2 rfl Try.underlying57 info_int64 rfl (owd.alloc _) (digsR_len _ _ _) ⟨wr.heap.size, 0, none⟩ 1 (leftR 10 k v % 10) rfl (cell_new1 wr _ _) (by omega) (by simp; omega) ?_); intro A' C' w5 own5 ht5)
            rw [← hap] at own5
            have hb5 : Below (w4.heap.size + 2) V w5 := (hbr.alloc (by omega) _).trans (ht5.below (Nat.le_refl _) (by simp; omega))
            go_roundw
            case rel => exact ⟨k + 1, A', C', by omega, rfl, rfl, HDG', own5, hb5⟩
            case measure => (simp [intOf]) <;> omega
          · have h0 : leftR 10 k v = 0 := by omega
            have H0 := Lib.hid h0
            rw [h0]
            clear lb0 lb1 hlt h0
            replace bo := bo.lo hbr (by omega)
            replace og0 := og0.low hbr (by omega)
            replace ow := ow.low hbr (by omega)
            replace bx2 := bx2.lo hbr (by omega)
            replace hbel : Below w.heap.size w wr := hbel.trans (hbr.mono (by omega))
            clear hbr
            obtain ⟨X, hX⟩ : ∃ X, X = wr := ⟨_, rfl⟩
            subst hX
            obtain ⟨R, hR⟩ : ∃ R, R = addN U W (fun i => leftR 10 i v % 10) k rs := ⟨_, rfl⟩
            have HAN := Lib.hid (show AnAt U W (fun i => leftR 10 i v % 10) R rs k [] by rw [hR]; exact anAt_zero _ _ _ _ _)
            have HR13 := Lib.hid (show addN U W (fun i => leftR 10 i v % 10) 13 rs = R by rw [hR]; exact addN_13 hk H0.out rs)
            clear hR
            obtain ⟨len, hlen⟩ : ∃ len, len = rs.length := ⟨_, rfl⟩
            rw [← hlen] at ow bo hn0 hn1
            have HLN := Lib.hid hlen.symm
            clear hlen
            go_wp2
            go_loopw [10] (fun i wx => ∃ (j : Nat) (cur : List (Int × Int)) (acc : List (Int × Int × Int)) (LA : Option Addr) (LC : Nat), j ≤ k ∧ i = .int .i64 ((j : Int) - 1) ∧ Hid (AnAt U W (fun i => leftR 10 i v % 10) R cur j acc) ∧ Hid (Pln U L W cur) ∧ Hid (cur.length = len) ∧ acc.length + 10 * j ≤ 130 ∧
              Bx wx (w4.heap.size + 1) 116 #[.int .i64 U, .int .i64 L, .int .i64 W, .slice A len C, .slice LA acc.length LC] ∧ OwnF pairF 102 wx w3.heap.size w4.heap.size (.slice A len C) cur ∧ MvAt wx w4.heap.size X.heap.size k j LA LC acc ∧
              Own 2 wx (w4.heap.size + 2) X.heap.size (.slice dA k dC) (digsR 10 k v) ∧ Bx wx (w.heap.size + 1) 26 #[.int .i64 0, .int .i64 0, .int .i64 0, .slice none 0 0] ∧ Below w.heap.size w wx ∧ X.heap.size ≤ wx.heap.size) (fun i _ => (intOf i + 1).toNat)
            case atStart => exact ⟨k, rs, [], _, 0, Nat.le_refl _, by go_num, HAN, HPL, HLN, by simp; omega, bo, ow, .inl ⟨rfl, rfl, rfl, og0⟩, owd, bx2, hbel, Nat.le_refl _⟩
            case round =>
              obtain ⟨j, cur, acc, LA, LC, hj, rfl, HA, HC, HL, hal, bxr, owr, mvr, owx, bzr, hbx, hzr⟩ := hrel
              clear bo og0 ow bx2 hbel owd HAN HPL HLN
              have hcl := HL.out
              clear HL
              subst hcl
              cases j with
              | zero =>
                have HE := Lib.hid (anAt_end HA.out)
                have HR := Lib.hid (HOK.out cur acc (by rw [HR13.out, HE.out]))
                have omv := mvr.own (by omega) hzr
                have f0 := bzr.thaw 0
                have f1 := bzr.thaw 1
                have f2 := bzr.thaw 2
                have f3 := bzr.thaw 3
                have z0 := bzr.at_ 0 rfl
                have z1 := bzr.at_ 1 rfl
                have z2 := bzr.at_ 2 rfl
                have z3 := bzr.at_ 3 rfl
                have c0 := bxr.at_ 0 rfl
                have c1 := bxr.at_ 1 rfl
                have c2 := bxr.at_ 2 rfl
                have c3 := bxr.at_ 3 rfl
                have c4 := bxr.at_ 4 rfl
                have hbz : w.heap.size ≤ w.heap.size + 1 := by omega
                have hd : w.heap.size + 1 < w3.heap.size ∨ w4.heap.size ≤ w.heap.size + 1 := .inl hz3
                have hd2 : w.heap.size + 1 < w4.heap.size ∨ wr.heap.size ≤ w.heap.size + 1 := .inl (by omega)
                have OW := Lib.hid ((((owr.setCell (p := ⟨w.heap.size + 1, 0, none⟩) hd (.int .i64 U)).setCell (p := ⟨w.heap.size + 1, 1, none⟩) hd (.int .i64 L)).setCell (p := ⟨w.heap.size + 1, 2, none⟩) hd (.int .i64 W)).setCell (p := ⟨w.heap.size + 1, 3, none⟩) hd (.slice A cur.length C))
                have OM := Lib.hid ((((omv.setCell (p := ⟨w.heap.size + 1, 0, none⟩) hd2 (.int .i64 U)).setCell (p := ⟨w.heap.size + 1, 1, none⟩) hd2 (.int .i64 L)).setCell (p := ⟨w.heap.size + 1, 2, none⟩) hd2 (.int .i64 W)).setCell (p := ⟨w.heap.size + 1, 3, none⟩) hd2 (.slice A cur.length C))
                have HB := Lib.hid ((((hbx.setCell (p := ⟨w.heap.size + 1, 0, none⟩) hbz (.int .i64 U)).setCell (p := ⟨w.heap.size + 1, 1, none⟩) hbz (.int .i64 L)).setCell (p := ⟨w.heap.size + 1, 2, none⟩) hbz (.int .i64 W)).setCell (p := ⟨w.heap.size + 1, 3, none⟩) hbz (.slice A cur.length C))
                have hlw : w.heap.size ≤ w3.heap.size := by omega
                have hpn : ¬ w4.heap.size + 1 = w.heap.size + 1 := by omega
                have hpn' : ¬ w.heap.size + 1 = w4.heap.size + 1 := by omega
                have hpm : ¬ w4.heap.size = w.heap.size := by omega
                have hpm' : ¬ w.heap.size = w4.heap.size := by omega
                clear owr omv mvr hbx HFU HOK HA HC H0 HR13 owx hd hd2
                go_wp2
                go_region
                all_goals go_wp2
                exact bodyPost_ret (v := .tuple #[.agg #[.int .i64 U, .int .i64 L, .int .i64 W, .slice A cur.length C], .slice LA acc.length LC, .int .i64 0]) (by simp [results, Try.results17, go_sem, z0, z1, z2, z3]) rfl
                  (abaM2_ok HR.out rfl rfl rfl (lo := w3.heap.size) (hi := w4.heap.size) (lo2 := w4.heap.size) (hi2 := wr.heap.size) OW.out.drew OM.out.drew hlw hz4 (Nat.le_refl _) (by simp) (by simp; omega) HB.out.drew)
              | succ j =>
                rw [show ((j + 1 : Nat) : Int) - 1 = (j : Int) from by omega]
                obtain ⟨q, off, rfl, hc⟩ := owx.rd.at_ (k := j) (by rw [digsR_len]; omega)
                rw [digs_at 10 (by omega : j < k)] at hc
                obtain ⟨d, hd⟩ : ∃ d, d = leftR 10 j v % 10 := ⟨_, rfl⟩
                have hd0 : 0 ≤ d ∧ d ≤ 9 := by omega
                have HTOP := Lib.hid (show k = j + 1 → ¬ d = 0 by rw [hd]; exact fun h => digs_top HDG.out H0.out h)
                have HAD := Lib.hid (l03Add_any U L W A C w3.heap.size w4.heap.size X.heap.size (w4.heap.size + 1) (by omega) (by omega) cur.length cur j d acc LA LC wr.heap.size wr (by omega) HC.out hd0.1 hd0.2 (by omega) (by omega) bxr owr mvr.lm hzr (Nat.le_refl _))
                have HPN := Lib.hid (HC.out.add cur.length (k := j) (d := d) (by omega) hd0.1 hd0.2)
                have HLE := Lib.hid (addD_len U W cur.length cur j d (by omega))
                have HML := Lib.hid (addD_moves U W cur.length cur j d (by omega))
                have HST := Lib.hid (show (addD U W cur j d).2.2 = true → AnAt U W (fun i => leftR 10 i v % 10) R (addD U W cur j d).1 j (acc ++ (addD U W cur j d).2.1) by rw [hd]; exact anAt_step HA.out)
                have HNO := Lib.hid (show (addD U W cur j d).2.2 = false → R.2.2 = false by rw [hd]; exact anAt_full HA.out)
                have HSO := Lib.hid (fun h0 => addD_some (U := U) (W := W) (d := d) (rs := cur) (k := j) h0)
                rw [← hd] at hc
                have hbz : w.heap.size + 1 < w3.heap.size := hz3
                have hjj : (j : Int) < k := by omega
                clear hd bxr owr HC HA
                unfold AddP at HAD
                obtain ⟨D, hD⟩ : ∃ D, D = addD U W cur j d := ⟨_, rfl⟩
                rw [← hD] at HAD HPN HLE HML HST HNO HSO
                clear hD
                go_wp2_with fail
                refine HAD.out.mono ?_
                rintro e w5 ⟨rfl, LA', LC', bx5, ow5, lm5, hb5, hm5⟩
                replace bzr := bzr.lo hb5 hbz
                replace owx := owx.mid hm5 (by omega) (Nat.le_refl _)
                replace hbx : Below w.heap.size w w5 := hbx.trans (hb5.mono (by omega))
                have hz5 : X.heap.size ≤ w5.heap.size := Nat.le_trans hzr hb5.size
                clear hb5 hm5 HAD hc
                cases hbb : D.2.2 with
                | true =>
                  have mv5 := mvr.step (j := j) (mv := D.2.1) (fun h => HSO.out (HTOP.out h) hbb) lm5
                  have HST' := Lib.hid (HST.out hbb)
                  clear mvr lm5 HST HNO HSO HTOP
                  go_wp2
                  go_roundw
                  case rel => exact ⟨j, D.1, acc ++ D.2.1, LA', LC', by omega, by go_num, HST', HPN, HLE, by have := HML.out; simp; omega, bx5, ow5, mv5, owx, bzr, hbx, hz5⟩
                  case measure => (simp [intOf]) <;> omega
                | false =>
                  have HR := Lib.hid (HFU.out (by rw [HR13.out]; exact HNO.out hbb))
                  have f0 := bzr.thaw 0
                  have f1 := bzr.thaw 1
                  have f2 := bzr.thaw 2
                  have f3 := bzr.thaw 3
                  have r0 := bzr.at_ 0 rfl
                  have r1 := bzr.at_ 1 rfl
                  have r2 := bzr.at_ 2 rfl
                  have r3 := bzr.at_ 3 rfl
                  clear mvr lm5 HST HNO HSO HTOP bx5 ow5 owx
                  go_wp2
                  exact bodyPost_ret (v := .tuple #[.agg #[.int .i64 0, .int .i64 0, .int .i64 0, .slice none 0 0], .slice none 0 0, .int .i64 5]) (by simp [results, Try.results17, go_sem, r0, r1, r2, r3]) rfl
                    (abaM2_err HR.out rfl (by repeat (first | exact hbx | refine Below.setCell ?_ (by first | omega | (simp <;> omega)) _ | refine Below.alloc ?_ (by first | omega | (simp <;> omega)) _ | refine Below.drew ?_)))
end Go.Proofs.Ytcfpfhlgcfmioaa
