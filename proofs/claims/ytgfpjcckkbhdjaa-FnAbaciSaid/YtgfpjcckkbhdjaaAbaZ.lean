/-
  impl.digitsOf, SetAbacus, PlainAbacus.
-/
import Derived.Test.YtgfpjcckkbhdjaaArr
import Derived.Test.YtgfpjcckkbhdjaaAbaY
import Derived.Test.YtgfpjcckkbhdjaaAbaW
namespace Go.Proofs.Ytgfpjcckkbhdjaa
open Go.RowKit

theorem info_i64 : (Try.prog.info? 2).map (fun i => (i.zero, i.size, i.bytes)) = some (some (.int .i64 0), 1, 8) := by kernel_rfl

set_option maxRecDepth 100000 in
set_option maxHeartbeats 4000000 in
theorem digitsOf_any (v : Int) (w : World) (v0 : 0 ≤ v) (v1 : v ≤ 1000000000000) :
    Calls Try.prog 128 #[.int .i64 v] w fun e w' => e = .returned (.agg ((digsR 10 13 v).map (Value.int .i64)).toArray) ∧ Below w.heap.size w w' := by
  go_enter Try.func128, Try.ntmps128
  go_wp2
  go_loopw [0, 4, 5] (fun q _ i wr => ∃ k : Nat, k ≤ 13 ∧ i = .int .i64 k ∧ q = .int .i64 (leftR 10 k v) ∧ Bx wr w.heap.size 149 ((pad 13 []).map (Value.int .i64)).toArray ∧ Bx wr (w.heap.size + 1) 149 ((pad 13 (digsR 10 k v)).map (Value.int .i64)).toArray ∧ Below w.heap.size w wr) (fun _ _ i _ => 13 - (intOf i).toNat)
  case atStart =>
    have e : ((pad 13 (digsR 10 0 v)).map (Value.int .i64)).toArray = #[.int .i64 0, .int .i64 0, .int .i64 0, .int .i64 0, .int .i64 0, .int .i64 0, .int .i64 0, .int .i64 0, .int .i64 0, .int .i64 0, .int .i64 0, .int .i64 0, .int .i64 0] := rfl
    refine ⟨0, Nat.zero_le _, rfl, rfl, (Bx.new _ _ _).alloc _, ?_, (by repeat (first | exact Below.refl _ _ | refine Below.setCell ?_ (by first | omega | (simp <;> omega)) _ | refine Below.alloc ?_ (by first | omega | (simp <;> omega)) _ | refine Below.drew ?_))⟩
    rw [e]
    simpa using Bx.new (w.alloc (.cells #[.int .i64 0, .int .i64 0, .int .i64 0, .int .i64 0, .int .i64 0, .int .i64 0, .int .i64 0, .int .i64 0, .int .i64 0, .int .i64 0, .int .i64 0, .int .i64 0, .int .i64 0] 149)) #[.int .i64 0, .int .i64 0, .int .i64 0, .int .i64 0, .int .i64 0, .int .i64 0, .int .i64 0, .int .i64 0, .int .i64 0, .int .i64 0, .int .i64 0, .int .i64 0, .int .i64 0] 149
  case round =>
    obtain ⟨k, hk, rfl, rfl, bx0, bx1, hb⟩ := hrel
    have hlb := leftR_bd (by omega : (1 : Int) ≤ 10) k v v0 v1
    have hzs := bx1.lt
    by_cases hlt : k < 13
    · have hlen := digsR_len 10 k v
      have HL := Lib.hid hlen
      have c1 : wr.cell? ⟨w.heap.size + 1, k, none⟩ = some (.int .i64 (nth (pad 13 (digsR 10 k v)) k)) := by
        rw [bx1.cell k, List.getElem?_toArray, List.getElem?_map, List.getElem?_eq_getElem (by rw [pad_len (by omega)]; exact hlt), nth_get (by rw [pad_len (by omega)]; exact hlt)]; rfl
      have f1 := bx1.thaw k
      have HS := Lib.hid (bx1.set_ k (.int .i64 (leftR 10 k v % 10)))
      have hr : (leftR 10 k v).tmod 10 = leftR 10 k v % 10 := Int.tmod_eq_emod_of_nonneg hlb.1
      clear hlen
      go_wp2
      go_roundw
      case rel =>
        refine ⟨k + 1, by omega, by go_num, by rw [leftR_succ], bx0.far (by simp) _, ?_, (by repeat (first | exact hb | refine Below.setCell ?_ (by first | omega | (simp <;> omega)) _ | refine Below.alloc ?_ (by first | omega | (simp <;> omega)) _ | refine Below.drew ?_))⟩
        have := HS.out
        rwa [arr_put HL.out hlt, ← digsR_succ] at this
      case measure => (simp [intOf]) <;> omega
    · obtain rfl : k = 13 := by omega
      obtain ⟨D, hD⟩ : ∃ D, D = digsR 10 13 v := ⟨_, rfl⟩
      have hlen : D.length = 13 := by rw [hD, digsR_len]
      rw [pad_all (digsR_len _ _ _), ← hD] at bx1
      have HD := Lib.hid hD
      have hsz : (D.map (Value.int .i64)).toArray.size = 13 := by simp [hlen]
      have hone : (D.map (Value.int .i64)).toArray.all (·.oneCell') = true := by
        simp
        intro x _
        rfl
      have hi13 : (Try.prog.info? 149).map (·.size) = some 13 := by kernel_rfl
      clear hD hlen
      go_wp2_with (first | (refine wpList_load_row rfl 149 (.tmp 3) rfl (w.heap.size + 1) rfl 149 (D.map (Value.int .i64)).toArray (0, 0) _ bx1 Try.underlying149 rfl (by rw [hsz]; exact hi13) ?_) | (refine wpList_store_row rfl 149 (.tmp 2) (.tmp 15) rfl w.heap.size (D.map (Value.int .i64)).toArray rfl rfl 149 _ bx0 (by rw [hsz]; exact hi13) (by rw [hsz]; rfl) hone ?_))
      refine bodyPost_ret (v := .agg (D.map (Value.int .i64)).toArray) ?_ rfl ⟨by rw [HD.out], below_setRow hb (Nat.le_refl _) _⟩
      exact results_cell_row (p := 2) (ty := 149) rfl _ _ w.heap.size 149 _ (0, 0) _ rfl (setRow_heap _ _ _ _ _ _ bx0) Try.underlying149 rfl (by rw [hsz]; exact hi13)

theorem vcC_bad {U L W : Int} {rs : List (Int × Int)} {v : Int} (h : abaB U L W rs = false) : vcC U L W rs v = 1 := by simp [vcC, h]
theorem vcC_range {U L W : Int} {rs : List (Int × Int)} {v : Int} (h : abaB U L W rs = true) (hv : ¬ (0 ≤ v ∧ v ≤ 1000000000000)) : vcC U L W rs v = 2 := by rw [vcC, if_pos h, if_neg hv]
theorem vcC_ok {U L W : Int} {rs : List (Int × Int)} {v : Int} (h : abaB U L W rs = true) (hv : 0 ≤ v ∧ v ≤ 1000000000000) : vcC U L W rs v = 0 := by rw [vcC, if_pos h, if_pos hv]

set_option maxRecDepth 100000 in
set_option maxHeartbeats 4000000 in
theorem implSetAbacus (U L W : Int) (a : Option Addr) (c : Nat) (rs : List (Int × Int)) (v : Int) (w : World) (ha : RdF pairF w a rs) (bU : I64 U) (bL : I64 L) (bW : I64 W) (z : All2 rs) (_ : I64 v) :
    Calls Try.prog 35 #[.agg #[.int .i64 U, .int .i64 L, .int .i64 W, .slice a rs.length c], .int .i64 v] w (AbaC (setR U L W rs v) w) := by
  have hxl := ha.len
  obtain ⟨u, hu⟩ : ∃ u, u = (w.alloc (.cells #[.int .i64 U, .int .i64 L, .int .i64 W, .slice a rs.length c] 56)).alloc (.cells #[.int .i64 0, .int .i64 0, .int .i64 0, .slice none 0 0] 56) := ⟨_, rfl⟩
  have hbel : Below w.heap.size w u := by rw [hu]; exact (by repeat (first | exact Below.refl _ _ | refine Below.setCell ?_ (by first | omega | (simp <;> omega)) _ | refine Below.alloc ?_ (by first | omega | (simp <;> omega)) _ | refine Below.drew ?_))
  have at0 : AbaAt u w.heap.size U L W a rs.length c := by rw [hu]; exact .of_box ((Bx.new _ _ _).alloc _)
  have bx : Bx u (w.heap.size + 1) 56 #[.int .i64 0, .int .i64 0, .int .i64 0, .slice none 0 0] := by rw [hu]; simpa using Bx.new (w.alloc (.cells #[.int .i64 U, .int .i64 L, .int .i64 W, .slice a rs.length c] 56)) #[.int .i64 0, .int .i64 0, .int .i64 0, .slice none 0 0] 56
  have HU := Lib.hid hu
  have HV := Lib.hid (valueCode_any U L W a c rs v u (ha.below hbel) bU bL bW z)
  clear hu
  have hcase : (vcC U L W rs v = 1 ∧ setR U L W rs v = (0, 0, 0, [], 1)) ∨ (vcC U L W rs v = 2 ∧ setR U L W rs v = (0, 0, 0, [], 2)) ∨ (vcC U L W rs v = 0 ∧ abaB U L W rs = true ∧ 0 ≤ v ∧ v ≤ 1000000000000) := by
    cases h : abaB U L W rs with
    | false => exact .inl ⟨vcC_bad h, setR_bad h⟩
    | true =>
      by_cases hv : 0 ≤ v ∧ v ≤ 1000000000000
      · exact .inr (.inr ⟨vcC_ok h hv, rfl, hv⟩)
      · exact .inr (.inl ⟨vcC_range h hv, setR_range h hv⟩)
  rcases hcase with ⟨hc, hs⟩ | ⟨hc, hs⟩ | ⟨hc, h, v0, v1⟩
  · have HR := Lib.hid hs
    rw [hc] at HV
    clear hc hs
    go_enter Try.func35, Try.ntmps35
    go_wp2_with fail
    rw [← HU.out]
    refine HV.out.mono ?_
    rintro e w1 ⟨rfl, hb1⟩
    replace bx := bx.below hb1
    have r0 := bx.at_ 0 rfl
    have r1 := bx.at_ 1 rfl
    have r2 := bx.at_ 2 rfl
    have r3 := bx.at_ 3 rfl
    have f0 := bx.thaw 0
    have f1 := bx.thaw 1
    have f2 := bx.thaw 2
    have f3 := bx.thaw 3
    have hb := hbel.trans (hb1.mono hbel.size)
    go_wp2
    exact bodyPost_ret (v := .tuple #[.agg #[.int .i64 0, .int .i64 0, .int .i64 0, .slice none 0 0], .int .i64 1]) (by simp [results, Try.results35, go_sem, r0, r1, r2, r3]) rfl
      (abaC_err HR.out rfl (by repeat (first | exact hb | refine Below.setCell ?_ (by first | omega | (simp <;> omega)) _ | refine Below.alloc ?_ (by first | omega | (simp <;> omega)) _ | refine Below.drew ?_)))
  · have HR := Lib.hid hs
    rw [hc] at HV
    clear hc hs
    go_enter Try.func35, Try.ntmps35
    go_wp2_with fail
    rw [← HU.out]
    refine HV.out.mono ?_
    rintro e w1 ⟨rfl, hb1⟩
    replace bx := bx.below hb1
    have r0 := bx.at_ 0 rfl
    have r1 := bx.at_ 1 rfl
    have r2 := bx.at_ 2 rfl
    have r3 := bx.at_ 3 rfl
    have f0 := bx.thaw 0
    have f1 := bx.thaw 1
    have f2 := bx.thaw 2
    have f3 := bx.thaw 3
    have hb := hbel.trans (hb1.mono hbel.size)
    go_wp2
    exact bodyPost_ret (v := .tuple #[.agg #[.int .i64 0, .int .i64 0, .int .i64 0, .slice none 0 0], .int .i64 2]) (by simp [results, Try.results35, go_sem, r0, r1, r2, r3]) rfl
      (abaC_err HR.out rfl (by repeat (first | exact hb | refine Below.setCell ?_ (by first | omega | (simp <;> omega)) _ | refine Below.alloc ?_ (by first | omega | (simp <;> omega)) _ | refine Below.drew ?_)))
  · have HH := Lib.hid h
    have HA := Lib.hid (aba_of h)
    have n0 := HA.out.n0
    have n1 := HA.out.n1
    rw [hc] at HV
    clear hc h
    go_enter Try.func35, Try.ntmps35
    go_wp2_with fail
    rw [← HU.out]
    refine HV.out.mono ?_
    rintro e w1 ⟨rfl, hb1⟩
    replace bx := bx.below hb1
    replace at0 := at0.below hb1
    replace hbel := hbel.trans (hb1.mono hbel.size)
    have hz1 := bx.lt
    clear hb1
    have e3 := at0.c3
    go_wp2_with (at_make; refine wpList_makeF pairF rfl _ _ _ 152 rfl Try.underlying54 _ 16 info_Rod rfl (by omega) rs.length rfl rfl (by omega) ?_; intro w2 own hb2)
    clear e3
    replace bx := bx.below hb2
    replace at0 := at0.below hb2
    replace hbel := hbel.trans (hb2.mono hbel.size)
    have own2 := ownF_first own
    have hz2 : w1.heap.size < w2.heap.size := own.blk.2.2
    clear own hb2
    refine (digitsOf_any v w2 v0 v1).mono ?_
    rintro e w3 ⟨rfl, hb3⟩
    replace bx := bx.below hb3
    replace at0 := at0.below hb3
    replace hbel := hbel.trans (hb3.mono hbel.size)
    replace own2 := own2.below hb3
    have hz3 : w1.heap.size < w3.heap.size := Nat.lt_of_lt_of_le hz2 hb3.size
    clear hb3 hz2 w2
    obtain ⟨D, hD⟩ : ∃ D, D = digsR 10 13 v := ⟨_, rfl⟩
    have hlen : D.length = 13 := by rw [hD, digsR_len]
    rw [← hD]
    have HD := Lib.hid hD
    have HL := Lib.hid hlen
    clear hD hlen
    go_wp2
    go_loopw [23] (fun i wr => ∃ k : Nat, k ≤ 13 ∧ i = .int .i64 k ∧ Bx wr (w.heap.size + 1) 56 #[.int .i64 0, .int .i64 0, .int .i64 0, .slice none 0 0] ∧ AbaAt wr w.heap.size U L W a rs.length c ∧
      OwnF pairF 152 wr w1.heap.size (w1.heap.size + 1) (.slice (some ⟨w1.heap.size, 0, none⟩) rs.length rs.length) (padF pairF rs.length (setP U W (min k rs.length) v)) ∧ Hid (∀ j, rs.length ≤ j → j < k → nth D j = 0) ∧ Below w.heap.size w wr) (fun i _ => 13 - (intOf i).toNat)
    case atStart => exact ⟨0, Nat.zero_le _, rfl, bx, at0, by simpa [setP, digsR] using own2, Lib.hid (by omega), hbel⟩
    case round =>
      obtain ⟨k, hk, rfl, dx, at1, own, HT, hb⟩ := hrel
      have hzs := dx.lt
      by_cases hlt : k < 13
      · have hix : ∀ w', (Instr.index 149 (.agg (D.map (Value.int .i64)).toArray) (.int .i64 (k : Int))).run Try.prog w' = .ok (.int .i64 (nth D k)) w' := fun w' =>
          run_index_arr Try.underlying149 Try.underlying2 info_i64 hlt (by rw [List.getElem?_toArray, List.getElem?_map, List.getElem?_eq_getElem (by rw [HL.out]; exact hlt), nth_get (by rw [HL.out]; exact hlt)]; rfl) w'
        have hdk : nth D k = leftR 10 k v % 10 := by rw [HD.out, digs_at 10 hlt]
        have hd0 : 0 ≤ nth D k ∧ nth D k ≤ 9 := by omega
        have HK := Lib.hid hdk
        clear hdk
        by_cases hkn : k < rs.length
        · have hmn : min k rs.length = k := by omega
          have hmn' : min (k + 1) rs.length = k + 1 := by omega
          rw [hmn] at own
          have hpl : (padF pairF rs.length (setP U W k v)).length = rs.length := padF_len (by rw [setP_len]; omega)
          have HPL := Lib.hid hpl
          have HMN := Lib.hid hmn'
          obtain ⟨e0, e1, e2, e3⟩ := at1
          clear hpl hmn hmn'
          go_wp2_with fail
          refine (plainRod_any U L W a rs.length c (nth D k) wr HA.out.u0 HA.out.u1 HA.out.w0 HA.out.w1 hd0.1 hd0.2).mono ?_
          rintro e w4 ⟨rfl, hb4⟩
          have own4 := own.below hb4
          have dx4 := dx.below hb4
          have at4 : AbaAt w4 w.heap.size U L W a rs.length c := (AbaAt.mk e0 e1 e2 e3).below hb4
          have hb5 := hb.trans (hb4.mono hb.size)
          clear e0 e1 e2 e3
          obtain ⟨g0, g1⟩ := own4.get2 (k := k) (by rw [HPL.out]; exact hkn)
          have f0 := own4.thaw (k * 2)
          have f1 := own4.thaw (k * 2 + 1)
          have HP := Lib.hid (own4.put2 (k := k) (by rw [HPL.out]; exact hkn) (digP U W (nth D k)))
          go_wp2
          go_roundw
          case rel =>
            refine ⟨k + 1, by omega, by go_num, (dx4.far (by simp; omega) _).far (by simp; omega) _, (at4.far (by simp; omega) _).far (by simp; omega) _, ?_, Lib.hid (by omega), (by repeat (first | exact hb5 | refine Below.setCell ?_ (by first | omega | (simp <;> omega)) _ | refine Below.alloc ?_ (by first | omega | (simp <;> omega)) _ | refine Below.drew ?_))⟩
            rw [HMN.out]
            have h6 := HP.out
            have h7 := padF_set (F := pairF) (n := rs.length) (xs := setP U W k v) (by rw [setP_len]; exact hkn) (digP U W (nth D k))
            rw [setP_len, HK.out, ← setP_succ] at h7
            rw [HK.out, h7] at h6
            rw [HK.out]
            exact h6
          case measure => (simp [intOf]) <;> omega
        · by_cases hpos : 0 < nth D k
          · have HR := Lib.hid (setR_full HH.out ⟨v0, v1⟩ (show ¬ leftR 10 rs.length v = 0 from fun h0 => by
              have := digit_of_left h0 (by omega : rs.length ≤ k) hlt
              rw [← HD.out] at this
              omega))
            have r0 := dx.at_ 0 rfl
            have r1 := dx.at_ 1 rfl
            have r2 := dx.at_ 2 rfl
            have r3 := dx.at_ 3 rfl
            have f0 := dx.thaw 0
            have f1 := dx.thaw 1
            have f2 := dx.thaw 2
            have f3 := dx.thaw 3
            go_wp2
            exact bodyPost_ret (v := .tuple #[.agg #[.int .i64 0, .int .i64 0, .int .i64 0, .slice none 0 0], .int .i64 5]) (by simp [results, Try.results35, go_sem, r0, r1, r2, r3]) rfl
              (abaC_err HR.out rfl (by repeat (first | exact hb | refine Below.setCell ?_ (by first | omega | (simp <;> omega)) _ | refine Below.alloc ?_ (by first | omega | (simp <;> omega)) _ | refine Below.drew ?_)))
          · have hmn : min (k + 1) rs.length = min k rs.length := by omega
            have HT' := Lib.hid (show ∀ j, rs.length ≤ j → j < k + 1 → nth D j = 0 from fun j h1 h2 => by
              by_cases hj : j = k
              · subst hj; omega
              · exact HT.out j h1 (by omega))
            have HMN := Lib.hid hmn
            clear hmn
            go_wp2
            go_roundw
            case rel => exact ⟨k + 1, by omega, by go_num, dx, at1, by rw [HMN.out]; exact own, HT', hb⟩
            case measure => (simp [intOf]) <;> omega
      · obtain rfl : k = 13 := by omega
        have HR := Lib.hid (setR_ok HH.out ⟨v0, v1⟩ (leftR_of_digits v0 v1 (by omega) (by have := HT.out; rwa [HD.out] at this)))
        rw [show min 13 rs.length = rs.length by omega, padF_all (setP_len _ _ _ _)] at own
        obtain ⟨e0, e1, e2, e3⟩ := at1
        go_wp2_with fail
        refine (withRods_any U L W a rs.length c (some ⟨w1.heap.size, 0, none⟩) rs.length rs.length wr).mono ?_
        rintro e w4 ⟨rfl, hb4⟩
        replace dx := dx.below hb4
        replace own := own.below hb4
        replace hb := hb.trans (hb4.mono hb.size)
        have hzl := dx.lt
        have r0 := dx.at_ 0 rfl
        have r1 := dx.at_ 1 rfl
        have r2 := dx.at_ 2 rfl
        have r3 := dx.at_ 3 rfl
        have f0 := dx.thaw 0
        have f1 := dx.thaw 1
        have f2 := dx.thaw 2
        have f3 := dx.thaw 3
        go_wp2
        exact bodyPost_ret (v := .tuple #[.agg #[.int .i64 U, .int .i64 L, .int .i64 W, .slice (some ⟨w1.heap.size, 0, none⟩) rs.length rs.length], .int .i64 0]) (by simp [results, Try.results35, go_sem, r0, r1, r2, r3]) rfl
          (abaC_ok HR.out (setP_len _ _ _ _) rfl (lo := w1.heap.size) (hi := w1.heap.size + 1) (by repeat (first | exact own | refine OwnF.alloc ?_ _ | refine OwnF.setCell ?_ (.inl (by simp <;> omega)) _ | refine OwnF.drew ?_)) (by omega) (by simp; have := own.blk.2.2; omega) (by repeat (first | exact hb | refine Below.setCell ?_ (by first | omega | (simp <;> omega)) _ | refine Below.alloc ?_ (by first | omega | (simp <;> omega)) _ | refine Below.drew ?_)))
end Go.Proofs.Ytgfpjcckkbhdjaa
