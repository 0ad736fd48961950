/-
  spec.AbacusPicture.
-/
import Derived.Test.YtgfpjcckkbhdjaaPicM
import Derived.Test.YtgfpjcckkbhdjaaAbaS
import Derived.Test.YtgfpjcckkbhdjaaStrS
import Derived.Test.YtgfpjcckkbhdjaaSplitS
namespace Go.Proofs.Ytgfpjcckkbhdjaa
open Go.RowKit

theorem l03Sign_any (b : Bool) (w : World) : Calls Try.prog 139 #[.bool b] w fun e w' => e = .returned (.int .u8 ((sgB b).toNat : Int)) ∧ w' = w := by
  cases b with
  | true =>
    go_enter Try.func139, Try.ntmps139
    go_wp2
    go_ret
    exact ⟨rfl, rfl⟩
  | false =>
    go_enter Try.func139, Try.ntmps139
    go_wp2
    go_ret
    exact ⟨rfl, rfl⟩

/-- The characters from the highest rod down to rod j. -/
def lnTo (U y : Int) (rs : List (Int × Int)) (j : Nat) : List UInt8 := ((rs.drop j).map (sgY U y)).reverse
theorem lnTo_len (U y : Int) (rs : List (Int × Int)) (j : Nat) : (lnTo U y rs j).length = rs.length - j := by simp [lnTo]
theorem lnTo_all (U y : Int) (rs : List (Int × Int)) : lnTo U y rs rs.length = [] := by simp [lnTo]
theorem lnTo_zero (U y : Int) (rs : List (Int × Int)) : lnTo U y rs 0 = lnY U rs y := rfl
theorem lnTo_step {U y : Int} {rs : List (Int × Int)} {j : Nat} (h : j < rs.length) : lnTo U y rs j = lnTo U y rs (j + 1) ++ [sgY U y (elt pairF rs j)] := by
  unfold lnTo
  rw [List.drop_eq_getElem_cons h, List.map_cons, List.reverse_cons, elt_get h]
theorem news_byte (w : World) (x : UInt8) (e : TypeId) : ∀ i u, (flat byteF [x])[i]? = some u → (w.alloc (.cells #[.int .u8 (x.toNat : Int)] e)).cell? ((⟨w.heap.size, 0, none⟩ : Addr).add i) = some u := by
  intro i u hu
  match i, hu with
  | 0, hu => simp [flat, byteF] at hu; subst hu; exact cell_new1 w _ _
theorem picL_len {U L : Int} {rs : List (Int × Int)} : (picL U L rs).length = (U + L + 3).toNat := by simp [picL]
theorem picL_step {U L : Int} {rs : List (Int × Int)} {k : Nat} (h : k < (U + L + 3).toNat) : (picL U L rs).take (k + 1) = (picL U L rs).take k ++ [⟨(lnY U rs (k : Int)).toArray⟩] := by
  rw [takeE_succ (F := textF) (by rw [picL_len]; exact h)]
  congr 2
  exact elt_range h

set_option maxRecDepth 100000 in
set_option maxHeartbeats 4000000 in
theorem specAbacusPicture (U L W : Int) (a : Option Addr) (c : Nat) (rs : List (Int × Int)) (w : World) (ha : RdF pairF w a rs) (_ : I64 U) (_ : I64 L) (_ : I64 W) (_ : All2 rs) :
    Calls Try.prog 45 #[.agg #[.int .i64 U, .int .i64 L, .int .i64 W, .slice a rs.length c]] w fun e w' => ∃ B D, e = .returned (.tuple #[.slice B (picR U L W rs).1.length D, .int .i64 (picR U L W rs).2]) ∧
      OwnF textF 9 w' w.heap.size w'.heap.size (.slice B (picR U L W rs).1.length D) (picR U L W rs).1 ∧ Below w.heap.size w w' := by
  have hxl := ha.len
  have ha0 := ha
  have hbel : Below w.heap.size w (w.alloc (.cells #[.int .i64 U, .int .i64 L, .int .i64 W, .slice a rs.length c] 56)) := (by repeat (first | exact Below.refl _ _ | refine Below.setCell ?_ (by first | omega | (simp <;> omega)) _ | refine Below.alloc ?_ (by first | omega | (simp <;> omega)) _ | refine Below.drew ?_))
  have at0 : AbaAt (w.alloc (.cells #[.int .i64 U, .int .i64 L, .int .i64 W, .slice a rs.length c] 56)) w.heap.size U L W a rs.length c := .of_box (Bx.new _ _ _)
  replace ha := ha.below hbel
  cases h : abaB U L W rs with
  | false =>
    have HR := Lib.hid (picR_bad h)
    have HO := Lib.hid (l03Ok_at w.heap.size U L W a c rs _ h at0 ha)
    clear h
    go_enter Try.func45, Try.ntmps45
    go_wp2_with fail
    refine HO.out.mono ?_
    rintro e w1 ⟨rfl, hb1⟩
    go_wp2
    go_ret2
    rw [HR.out]
    exact ⟨none, 0, rfl, ownF_nil _ _ _ _ _, hbel.trans (hb1.mono hbel.size)⟩
  | true =>
    have HR := Lib.hid (picR_ok h)
    have HO := Lib.hid (l03Ok_at w.heap.size U L W a c rs _ h at0 ha)
    have HA := Lib.hid (aba_of h)
    clear h
    go_enter Try.func45, Try.ntmps45
    go_wp2_with fail
    refine HO.out.mono ?_
    rintro e w1 ⟨rfl, hb1⟩
    replace at0 := at0.below hb1
    replace ha := ha.below hb1
    replace hbel := hbel.trans (hb1.mono hbel.size)
    have hz1 : w.heap.size + 1 ≤ w1.heap.size := by have := hb1.size; simpa using this
    have hu0 := HA.out.u0
    have hu1 := HA.out.u1
    have hl0 := HA.out.l0
    have hl1 := HA.out.l1
    have hn0 := HA.out.n0
    have hn1 := HA.out.n1
    clear hb1
    obtain ⟨c0, c1, c2, c3⟩ := at0
    have hw1 : IntKind.i64.wrap (U + L) = U + L := IntWalk.i64_in _ (by omega)
    have hw2 : IntKind.i64.wrap (U + L + 3) = U + L + 3 := IntWalk.i64_in _ (by omega)
    obtain ⟨N, hN⟩ : ∃ N : Nat, U + L + 3 = (N : Int) := ⟨(U + L + 3).toNat, by omega⟩
    have HN := Lib.hid hN
    have hNb : N ≤ 19 := by omega
    go_upto_region 5 with fail
    obtain ⟨V, hV⟩ : ∃ V, V = w1.alloc (.cells #[] 9) := ⟨_, rfl⟩
    rw [← hV]
    have hbV : Below w1.heap.size w1 V := by rw [hV]; exact (by repeat (first | exact Below.refl _ _ | refine Below.setCell ?_ (by first | omega | (simp <;> omega)) _ | refine Below.alloc ?_ (by first | omega | (simp <;> omega)) _ | refine Below.drew ?_))
    have hsV : V.heap.size = w1.heap.size + 1 := by rw [hV]; simp
    have ow0 : OwnF textF 9 V w1.heap.size V.heap.size (.slice (some ⟨w1.heap.size, 0, none⟩) 0 0) [] := by
      rw [hsV, hV]
      exact ownF_row (n := 0) (row_new 9 1 w1 #[] 0 (by simp) (by omega)) rfl (by simp)
    have at1 := (AbaAt.mk c0 c1 c2 c3).below hbV
    replace ha := ha.below hbV
    replace hbel := hbel.trans (hbV.mono (by omega))
    clear hV c0 c1 c2 c3 hw1 hw2 hN hbV
    go_wp2
    go_loopw [5, 6] (fun o y wr => ∃ (k : Nat) (B : Option Addr) (D : Nat), k ≤ N ∧ y = .int .i64 (k : Nat) ∧ o = .slice B k D ∧ OwnF textF 9 wr w1.heap.size wr.heap.size (.slice B k D) ((picL U L rs).take k) ∧ Below w1.heap.size V wr) (fun _ y _ => N - (intOf y).toNat)
    case atStart => exact ⟨0, _, 0, Nat.zero_le _, rfl, rfl, by simpa using ow0, Below.refl _ _⟩
    case round =>
      obtain ⟨k, B, D, hk, rfl, rfl, own, hbr⟩ := hrel
      have hzr := hbr.size
      have hbw : Below w.heap.size w wr := hbel.trans (hbr.mono (by omega))
      have hlw : w.heap.size < w1.heap.size := by omega
      obtain ⟨c0, c1, c2, c3⟩ := at1
      replace c0 := (hbr.cell (p := ⟨w.heap.size, 0, none⟩) hlw).trans c0
      replace c1 := (hbr.cell (p := ⟨w.heap.size, 1, none⟩) hlw).trans c1
      replace c2 := (hbr.cell (p := ⟨w.heap.size, 2, none⟩) hlw).trans c2
      replace c3 := (hbr.cell (p := ⟨w.heap.size, 3, none⟩) hlw).trans c3
      clear ow0 ha
      by_cases hlt : k < N
      · have hst := picL_step (U := U) (L := L) (rs := rs) (k := k) (by have := HN.out; omega)
        have HST := Lib.hid hst
        clear hst
        go_upto_region 9 with fail
        obtain ⟨X, hX⟩ : ∃ X, X = wr.alloc (.cells #[] 5) := ⟨_, rfl⟩
        rw [← hX]
        have hbX : Below wr.heap.size wr X := by rw [hX]; exact (by repeat (first | exact Below.refl _ _ | refine Below.setCell ?_ (by first | omega | (simp <;> omega)) _ | refine Below.alloc ?_ (by first | omega | (simp <;> omega)) _ | refine Below.drew ?_))
        have hsX : X.heap.size = wr.heap.size + 1 := by rw [hX]; simp
        have ol0 : OwnF byteF 5 X wr.heap.size X.heap.size (.slice (some ⟨wr.heap.size, 0, none⟩) 0 0) [] := by
          rw [hsX, hX]
          exact ownF_row (n := 0) (row_new 5 1 wr #[] 0 (by simp) (by omega)) rfl (by simp)
        clear hX
        have atX := (AbaAt.mk c0 c1 c2 c3).below hbX
        have hzr' : w1.heap.size ≤ wr.heap.size := by omega
        have hbwX : Below w.heap.size w X := hbw.trans (hbX.mono hbw.size)
        obtain ⟨wo, hwo⟩ : ∃ wo, wo = wr := ⟨_, rfl⟩
        subst hwo
        clear c0 c1 c2 c3
        obtain ⟨c0, c1, c2, c3⟩ := atX
        go_wp2
        go_loopw [7, 8] (fun l i wx => ∃ (j : Nat) (lA : Option Addr) (lC : Nat), j ≤ rs.length ∧ i = .int .i64 ((j : Int) - 1) ∧ l = .slice lA (lnTo U (k : Int) rs j).length lC ∧ OwnF byteF 5 wx wo.heap.size wx.heap.size (.slice lA (lnTo U (k : Int) rs j).length lC) (lnTo U (k : Int) rs j) ∧ Below wo.heap.size X wx) (fun _ i _ => (intOf i + 1).toNat)
        case atStart => exact ⟨rs.length, _, 0, Nat.le_refl _, by go_num, by rw [lnTo_all]; rfl, by rw [lnTo_all]; exact ol0, Below.refl _ _⟩
        case round =>
          obtain ⟨j, lA, lC, hj, rfl, rfl, owl, hbx⟩ := hrel
          clear ol0
          have hlw2 : w.heap.size < wo.heap.size := by omega
          replace c0 := (hbx.cell (p := ⟨w.heap.size, 0, none⟩) hlw2).trans c0
          replace c1 := (hbx.cell (p := ⟨w.heap.size, 1, none⟩) hlw2).trans c1
          replace c2 := (hbx.cell (p := ⟨w.heap.size, 2, none⟩) hlw2).trans c2
          replace c3 := (hbx.cell (p := ⟨w.heap.size, 3, none⟩) hlw2).trans c3
          have hzx := hbx.size
          have hbww : Below w.heap.size w wr := hbwX.trans (hbx.mono (by omega))
          cases j with
          | zero =>
            rw [lnTo_zero] at owl ⊢
            have hll : (lnY U rs (k : Int)).length = rs.length := by simp [lnY]
            have hcv := owl.text (P := Try.prog) (by rw [hll]; omega) 22 9 5 Try.underlying22 Try.underlying5 Try.underlying9
            obtain ⟨T, hT⟩ : ∃ T : ByteArray, T = ⟨(lnY U rs (k : Int)).toArray⟩ := ⟨_, rfl⟩
            rw [← hT] at hcv
            have HST' := HST
            rw [← hT] at HST'
            have own2 : OwnF textF 9 (wr.alloc (.cells #[.string T] 9)) w1.heap.size wo.heap.size (.slice B k D) ((picL U L rs).take k) := ((own.below hbX).low hbx (Nat.le_refl _)).alloc _
            have r2 := own2.row
            have hpl : ((picL U L rs).take k).length = k := by rw [List.length_take, picL_len]; have := HN.out; omega
            rw [hpl] at r2
            have HPL := Lib.hid hpl
            clear hT owl hll hpl HST
            go_wp2_with (at_builtin; go_must (refine wpList_appR rfl (.tmp 75) (.tmp 78) 63 9 rfl (.string ByteArray.empty) 1 16 Try.underlying63 info_string rfl (by omega) (by omega) rfl r2 ⟨wr.heap.size, 0, none⟩ 1 1 (flat textF [T]) rfl rfl (news_text wr _ _) flat_mem (by omega) (by simp; omega) ?_); intro A' C' w5 row5 ht5)
            have ow5 : OwnF textF 9 w5 w1.heap.size w5.heap.size (.slice A' (k + 1) C') ((picL U L rs).take (k + 1)) := by
              rw [HST'.out]
              exact ownF_row (n := k + 1) (by rw [flat_append]; exact row5) (by rw [List.length_append, HPL.out]; rfl) (by rw [List.length_append, HPL.out]; simp; omega)
            have hb5 : Below w1.heap.size V w5 := ((hbr.trans (hbX.mono hzr')).trans (hbx.mono hzr')).alloc (by omega) _ |>.trans (ht5.below (Nat.le_refl _) (by simp; omega))
            clear row5 ht5 r2 own2 hcv
            go_roundw
            case rel => exact ⟨k + 1, A', C', by omega, by go_num, rfl, ow5, hb5⟩
            case measure => (simp [intOf]) <;> omega
          | succ j =>
            rw [show ((j + 1 : Nat) : Int) - 1 = (j : Int) from by omega]
            have hjl : j < rs.length := by omega
            obtain ⟨b, off, rfl, p0, p1⟩ := (ha0.below hbww).at2 hjl
            have hrb := rodB_true (rodsB_at HA.out.rods hjl)
            obtain ⟨r, hr0⟩ : ∃ r, r = elt pairF rs j := ⟨_, rfl⟩
            rw [← hr0] at p0 p1 hrb
            have hr := Lib.hid hr0
            have hw3 : IntKind.i64.wrap (U - r.1) = U - r.1 := IntWalk.i64_in _ (by omega)
            have hw4 : IntKind.i64.wrap (U + 1) = U + 1 := IntWalk.i64_in _ (by omega)
            have hw5 : IntKind.i64.wrap ((k : Int) - U) = (k : Int) - U := IntWalk.i64_in _ (by omega)
            have hw6 : IntKind.i64.wrap ((k : Int) - U - 2) = (k : Int) - U - 2 := IntWalk.i64_in _ (by omega)
            have hll : (lnTo U (k : Int) rs (j + 1)).length ≤ 10 := by rw [lnTo_len]; omega
            clear hr0
            go_upto_region 14 with fail
            obtain ⟨Y, hY⟩ : ∃ Y, Y = wr.alloc (.cells #[.int .i64 r.1, .int .i64 r.2] 152) := ⟨_, rfl⟩
            rw [← hY]
            have hbY : Below wr.heap.size wr Y := by rw [hY]; exact (by repeat (first | exact Below.refl _ _ | refine Below.setCell ?_ (by first | omega | (simp <;> omega)) _ | refine Below.alloc ?_ (by first | omega | (simp <;> omega)) _ | refine Below.drew ?_))
            have bR : Bx Y wr.heap.size 152 #[.int .i64 r.1, .int .i64 r.2] := by rw [hY]; exact Bx.new _ _ _
            clear hY p0 p1
            replace owl := owl.below hbY
            replace hbx := hbx.trans (hbY.mono (by omega))
            replace c0 := kept hbY c0
            replace c1 := kept hbY c1
            replace c2 := kept hbY c2
            replace c3 := kept hbY c3
            have s0 := bR.at_ 0 rfl
            have s1 := bR.at_ 1 rfl
            have hzY : wo.heap.size ≤ Y.heap.size := by have := hbY.size; omega
            clear hbY
            by_cases h1 : (k : Int) ≤ U
            · have HC := Lib.hid (show sgY U (k : Int) r = sgB ((k : Int) != U - r.1) by rw [sgY, if_pos h1])
              go_wp2_with fail
              refine (l03Sign_any _ _).mono ?_
              rintro e w4 ⟨rfl, hwq⟩
              subst w4
              obtain ⟨ch, hch⟩ : ∃ ch, ch = sgB ((k : Int) != U - r.1) := ⟨_, rfl⟩
              rw [← hch]
              have HLC := Lib.hid (show lnTo U (k : Int) rs j = lnTo U (k : Int) rs (j + 1) ++ [ch] by rw [lnTo_step hjl, ← hr.out, hch, HC.out])
              clear hch HC
              go_wp2_with (at_builtin; go_must (refine wpList_appR rfl (.tmp 55) (.tmp 64) 22 5 rfl (.int .u8 0) 1 1 Try.underlying22 info_byte rfl (by omega) (by omega) rfl (owl.alloc _).row ⟨Y.heap.size, 0, none⟩ 1 1 (flat byteF [ch]) rfl rfl (news_byte Y _ _) flat_mem (by omega) (by simp; omega) ?_); intro A' C' w5 row5 ht5)
              have ow5 : OwnF byteF 5 w5 wo.heap.size w5.heap.size (.slice A' (lnTo U (k : Int) rs j).length C') (lnTo U (k : Int) rs j) := by
                rw [HLC.out]
                exact ownF_row (n := (lnTo U (k : Int) rs (j + 1)).length + 1) (by rw [flat_append, List.length_append]; exact row5) (by simp) (by simp; omega)
              have hlen : (lnTo U (k : Int) rs (j + 1)).length + 1 = (lnTo U (k : Int) rs j).length := by rw [HLC.out]; simp
              have hb5 : Below wo.heap.size X w5 := (hbx.alloc (by omega) _).trans (ht5.below (Nat.le_refl _) (by simp; omega))
              clear row5 ht5
              go_roundw
              case rel => exact ⟨j, A', C', by omega, by go_num, by rw [hlen], ow5, hb5⟩
              case measure => (simp [intOf]) <;> omega
            · by_cases h2 : (k : Int) = U + 1
              · have HC := Lib.hid (show sgY U (k : Int) r = 61 by rw [sgY, if_neg h1, if_pos h2])
                have hbq : ((k : Int) == U + 1) = true := by simp [h2]
                have hbd : decide ((k : Int) = U + 1) = true := by simp [h2]
                clear h2
                obtain ⟨ch, hch⟩ : ∃ ch : UInt8, ch = 61 := ⟨_, rfl⟩
                have hci : (.int .u8 61 : Value) = .int .u8 (ch.toNat : Int) := by rw [hch]; rfl
                have HLC := Lib.hid (show lnTo U (k : Int) rs j = lnTo U (k : Int) rs (j + 1) ++ [ch] by rw [lnTo_step hjl, ← hr.out, hch, HC.out])
                clear hch HC
                go_wp2_with (at_builtin; go_must (refine wpList_appR rfl (.tmp 72) (.tmp 73) 22 5 rfl (.int .u8 0) 1 1 Try.underlying22 info_byte rfl (by omega) (by omega) rfl (owl.alloc _).row ⟨Y.heap.size, 0, none⟩ 1 1 (flat byteF [ch]) rfl rfl (news_byte Y _ _) flat_mem (by omega) (by simp; omega) ?_); intro A' C' w5 row5 ht5)
                have ow5 : OwnF byteF 5 w5 wo.heap.size w5.heap.size (.slice A' (lnTo U (k : Int) rs j).length C') (lnTo U (k : Int) rs j) := by
                  rw [HLC.out]
                  exact ownF_row (n := (lnTo U (k : Int) rs (j + 1)).length + 1) (by rw [flat_append, List.length_append]; exact row5) (by simp) (by simp; omega)
                have hlen : (lnTo U (k : Int) rs (j + 1)).length + 1 = (lnTo U (k : Int) rs j).length := by rw [HLC.out]; simp
                have hb5 : Below wo.heap.size X w5 := (hbx.alloc (by omega) _).trans (ht5.below (Nat.le_refl _) (by simp; omega))
                clear row5 ht5
                go_roundw
                case rel => exact ⟨j, A', C', by omega, by go_num, by rw [hlen], ow5, hb5⟩
                case measure => (simp [intOf]) <;> omega
              · have HC := Lib.hid (show sgY U (k : Int) r = sgB ((k : Int) - U - 2 != r.2) by rw [sgY, if_neg h1, if_neg h2])
                go_wp2_with fail
                refine (l03Sign_any _ _).mono ?_
                rintro e w4 ⟨rfl, hwq⟩
                subst w4
                obtain ⟨ch, hch⟩ : ∃ ch, ch = sgB ((k : Int) - U - 2 != r.2) := ⟨_, rfl⟩
                rw [← hch]
                have HLC := Lib.hid (show lnTo U (k : Int) rs j = lnTo U (k : Int) rs (j + 1) ++ [ch] by rw [lnTo_step hjl, ← hr.out, hch, HC.out])
                clear hch HC
                go_wp2_with (at_builtin; go_must (refine wpList_appR rfl (.tmp 38) (.tmp 48) 22 5 rfl (.int .u8 0) 1 1 Try.underlying22 info_byte rfl (by omega) (by omega) rfl (owl.alloc _).row ⟨Y.heap.size, 0, none⟩ 1 1 (flat byteF [ch]) rfl rfl (news_byte Y _ _) flat_mem (by omega) (by simp; omega) ?_); intro A' C' w5 row5 ht5)
                have ow5 : OwnF byteF 5 w5 wo.heap.size w5.heap.size (.slice A' (lnTo U (k : Int) rs j).length C') (lnTo U (k : Int) rs j) := by
                  rw [HLC.out]
                  exact ownF_row (n := (lnTo U (k : Int) rs (j + 1)).length + 1) (by rw [flat_append, List.length_append]; exact row5) (by simp) (by simp; omega)
                have hlen : (lnTo U (k : Int) rs (j + 1)).length + 1 = (lnTo U (k : Int) rs j).length := by rw [HLC.out]; simp
                have hb5 : Below wo.heap.size X w5 := (hbx.alloc (by omega) _).trans (ht5.below (Nat.le_refl _) (by simp; omega))
                clear row5 ht5
                go_roundw
                case rel => exact ⟨j, A', C', by omega, by go_num, by rw [hlen], ow5, hb5⟩
                case measure => (simp [intOf]) <;> omega
      · obtain rfl : k = N := by omega
        have hall : (picL U L rs).take k = picL U L rs := List.take_of_length_le (by rw [picL_len]; have := HN.out; omega)
        rw [hall] at own
        have hpl : (picL U L rs).length = k := by rw [picL_len]; have := HN.out; omega
        have HPL := Lib.hid hpl
        clear hall hpl
        go_wp2
        go_ret2
        rw [HR.out]
        exact ⟨B, D, by rw [HPL.out]; rfl, by rw [HPL.out]; exact own.wide (by omega) (Nat.le_refl _), hbw⟩
end Go.Proofs.Ytgfpjcckkbhdjaa
