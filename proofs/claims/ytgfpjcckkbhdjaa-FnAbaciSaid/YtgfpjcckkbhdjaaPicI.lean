/-
  impl.beadLines, AbacusPicture.
-/
import Derived.Test.YtgfpjcckkbhdjaaPicM
import Derived.Test.YtgfpjcckkbhdjaaAbaI
import Derived.Test.YtgfpjcckkbhdjaaStrS
import Derived.Test.YtgfpjcckkbhdjaaAppAt
import Derived.Test.YtgfpjcckkbhdjaaToI
import Derived.Test.YtgfpjcckkbhdjaaShRep
namespace Go.Proofs.Ytgfpjcckkbhdjaa
open Go.RowKit

set_option maxRecDepth 100000 in
set_option maxHeartbeats 4000000 in
theorem beadLines_any (a : Option Addr) (c : Nat) (fs : List Int) (n : Nat) (w : World) (ha : Rd w a fs) (hn : n ≤ 100) (h0 : 0 < fs.length) (h1 : fs.length ≤ 10) :
    Calls Try.prog 137 #[.slice a fs.length c, .int .i64 (n : Nat)] w fun e w' => ∃ B D, e = .returned (.slice B n D) ∧ OwnF textF 9 w' w.heap.size w'.heap.size (.slice B n D) (blL fs n) ∧ Below w.heap.size w w' := by
  go_enter Try.func137, Try.ntmps137
  go_wp2_with (at_make; refine wpList_makeF textF rfl _ _ _ 9 rfl Try.underlying63 (.string ByteArray.empty) 16 info_string rfl (by omega) n rfl rfl (by omega) ?_; intro w1 own1 hb1)
  have og := ownF_first own1
  have hz1 : w.heap.size < w1.heap.size := own1.blk.2.2
  clear own1
  go_wp2
  go_loopw [14] (fun i wr => ∃ p : Nat, p ≤ n ∧ i = .int .i64 (p : Nat) ∧ OwnF textF 9 wr w.heap.size (w.heap.size + 1) (.slice (some ⟨w.heap.size, 0, none⟩) n n) (padF textF n ((blL fs n).take p)) ∧ Below w.heap.size w wr ∧ w.heap.size < wr.heap.size) (fun i _ => n - (intOf i).toNat)
  case atStart => exact ⟨0, Nat.zero_le _, rfl, by simpa using og, hb1, hz1⟩
  case round =>
    obtain ⟨p, hp, rfl, own, hb, hz⟩ := hrel
    clear og hb1 hz1
    by_cases hlt : p < n
    · have hpl : (padF textF n ((blL fs n).take p)).length = n := padF_len (by rw [List.length_take]; omega)
      have HPL := Lib.hid hpl
      have hpc := padF_copy (F := textF) (xs := blL fs n) (k := p) (by rw [blL_len]; exact hlt)
      rw [blL_len, elt_blL hlt] at hpc
      have HPC := Lib.hid hpc
      clear hpl hpc
      go_wp2_with (at_make; refine wpList_makeF byteF rfl _ _ _ 5 rfl Try.underlying22 (.int .u8 0) 1 info_byte rfl (by omega) fs.length rfl rfl (by omega) ?_; intro w2 own2 hb2)
      have ol := ownF_first own2
      have hz2 : wr.heap.size < w2.heap.size := own2.blk.2.2
      clear own2
      obtain ⟨X, hX⟩ : ∃ X, X = wr := ⟨_, rfl⟩
      subst hX
      go_wp2
      go_loopw [22] (fun i wx => ∃ k : Nat, k ≤ fs.length ∧ i = .int .i64 (k : Nat) ∧ OwnF byteF 5 wx X.heap.size (X.heap.size + 1) (.slice (some ⟨X.heap.size, 0, none⟩) fs.length fs.length) (padF byteF fs.length ((blC fs p).take k)) ∧ Below X.heap.size X wx ∧ X.heap.size < wx.heap.size) (fun i _ => fs.length - (intOf i).toNat)
      case atStart => exact ⟨0, Nat.zero_le _, rfl, by simpa using ol, hb2, hz2⟩
      case round =>
        obtain ⟨k, hk, rfl, ol2, hb3, hz3⟩ := hrel
        clear ol hb2 hz2
        have hbw : Below w.heap.size w wr := hb.trans (hb3.mono hb.size)
        have hll : (padF byteF fs.length ((blC fs p).take k)).length = fs.length := padF_len (by rw [List.length_take, blC_len]; omega)
        by_cases hlt2 : k < fs.length
        · obtain ⟨b, off, rfl, hc⟩ := (ha.below hbw).at_ hlt2
          have hkl : k < (padF byteF fs.length ((blC fs p).take k)).length := by rw [hll]; exact hlt2
          have g0 := ol2.getB (k := k) hkl
          have f0 := ol2.thaw k
          have hcp := padF_copy (F := byteF) (xs := blC fs p) (k := k) (by rw [blC_len]; exact hlt2)
          rw [blC_len, elt_blC hlt2] at hcp
          have o1 := ol2.putB (k := k) hkl 111
          rw [show ((111 : UInt8).toNat : Int) = 111 from rfl] at o1
          by_cases he : nth fs k = (p : Int)
          · rw [if_pos he] at hcp
            have o2 := o1.putB (k := k) (by simpa using hkl) 124
            rw [show ((124 : UInt8).toNat : Int) = 124 from rfl, List.set_set, hcp] at o2
            have HO := Lib.hid o2
            rw [he] at hc
            clear o1 o2 hcp ol2 hll hkl he
            go_wp2
            go_roundw
            case rel => exact ⟨k + 1, by omega, by go_num, HO.out, (hb3.setCell (p := ⟨X.heap.size, k, none⟩) (Nat.le_refl _) _).setCell (p := ⟨X.heap.size, k, none⟩) (Nat.le_refl _) _, by simpa using hz3⟩
            case measure => (simp [intOf]) <;> omega
          · rw [if_neg he] at hcp
            rw [hcp] at o1
            have HO := Lib.hid o1
            obtain ⟨f, hf⟩ : ∃ f, f = nth fs k := ⟨_, rfl⟩
            rw [← hf] at hc he
            have hbe : ¬ f = (p : Int) := he
            clear o1 hcp ol2 hll hkl hf
            go_wp2
            go_roundw
            case rel => exact ⟨k + 1, by omega, by go_num, HO.out, hb3.setCell (p := ⟨X.heap.size, k, none⟩) (Nat.le_refl _) _, by simpa using hz3⟩
            case measure => (simp [intOf]) <;> omega
        · obtain rfl : k = fs.length := by omega
          have hdone : padF byteF fs.length ((blC fs p).take fs.length) = blC fs p := by rw [List.take_of_length_le (by rw [blC_len]; exact Nat.le_refl _)]; exact padF_all (blC_len _ _)
          rw [hdone] at ol2
          clear hll hdone
          go_wp2_with fail
          refine (reverseB_any _ _ _ _ _ _ wr ol2).mono ?_
          rintro e w4 ⟨rfl, ol4, ht4⟩
          have hcv := ol4.text (P := Try.prog) (by rw [List.length_reverse, blC_len]; exact h0) 22 9 5 Try.underlying22 Try.underlying5 Try.underlying9
          have own4 := (own.below hb3).touch ht4 (.inl (by omega))
          have hkp : p < (padF textF n ((blL fs n).take p)).length := by rw [HPL.out]; exact hlt
          have g0 := own4.getT (k := p) hkp
          have f0 := own4.thaw p
          have op := own4.putT (k := p) hkp ⟨(blC fs p).reverse.toArray⟩
          rw [HPC.out] at op
          have HO := Lib.hid op
          have hb4 : Below w.heap.size w w4 := hbw.trans (ht4.below (by omega) hbw.size)
          have hz4 := ht4.size
          clear own own4 op ol2 ol4 hkp ht4 hb3
          go_wp2
          go_roundw
          case rel => exact ⟨p + 1, by omega, by go_num, HO.out, hb4.setCell (p := ⟨w.heap.size, p, none⟩) (Nat.le_refl _) _, by simp; omega⟩
          case measure => (simp [intOf]) <;> omega
    · obtain rfl : p = n := by omega
      have hdone : padF textF p ((blL fs p).take p) = blL fs p := by rw [List.take_of_length_le (by rw [blL_len]; exact Nat.le_refl _)]; exact padF_all (blL_len _ _)
      rw [hdone] at own
      go_wp2
      go_ret
      exact ⟨_, _, rfl, own.wide (Nat.le_refl _) hz, hb⟩

theorem take_map_step {f : Int × Int → Int} {rs : List (Int × Int)} {k : Nat} (h : k < rs.length) : (rs.map f).take (k + 1) = (rs.map f).take k ++ [f (elt pairF rs k)] := by
  rw [List.take_succ_eq_append_getElem (by simpa using h), List.getElem_map, elt_get h]
theorem newsT {w : World} {B : Option Addr} {lo hi n D : Nat} {xs : List ByteArray} (h : OwnF textF 9 w lo hi (.slice B n D) xs) (hne : 0 < xs.length) : ∃ g, B = some ⟨g, 0, none⟩ ∧ ∀ j u, (flat textF xs)[j]? = some u → w.cell? ((⟨g, 0, none⟩ : Addr).add j) = some u := by
  obtain ⟨g, rfl, _⟩ := h.head hne
  exact ⟨g, rfl, h.rd.news⟩
theorem newsO (w : World) (x : ByteArray) (e : TypeId) : ∀ i u, (flat textF [x])[i]? = some u → (w.alloc (.cells #[.string x] e)).cell? ((⟨w.heap.size, 0, none⟩ : Addr).add i) = some u := by
  intro i u hu
  match i, hu with
  | 0, hu => simp [flat, textF] at hu; subst hu; exact cell_new1 w _ _

set_option maxRecDepth 100000 in
set_option maxHeartbeats 4000000 in
theorem implAbacusPicture (U L W : Int) (a : Option Addr) (c : Nat) (rs : List (Int × Int)) (w : World) (ha : RdF pairF w a rs) (bU : I64 U) (bL : I64 L) (bW : I64 W) (z : All2 rs) :
    Calls Try.prog 44 #[.agg #[.int .i64 U, .int .i64 L, .int .i64 W, .slice a rs.length c]] w fun e w' => ∃ B D, e = .returned (.tuple #[.slice B (picR U L W rs).1.length D, .int .i64 (picR U L W rs).2]) ∧
      OwnF textF 9 w' w.heap.size w'.heap.size (.slice B (picR U L W rs).1.length D) (picR U L W rs).1 ∧ Below w.heap.size w w' := by
  have hxl := ha.len
  have ha0 := ha
  have hbel : Below w.heap.size w (w.alloc (.cells #[.int .i64 U, .int .i64 L, .int .i64 W, .slice a rs.length c] 56)) := (by repeat (first | exact Below.refl _ _ | refine Below.setCell ?_ (by first | omega | (simp <;> omega)) _ | refine Below.alloc ?_ (by first | omega | (simp <;> omega)) _ | refine Below.drew ?_))
  have bx := Bx.new w #[.int .i64 U, .int .i64 L, .int .i64 W, .slice a rs.length c] 56
  have HV := Lib.hid (implValidAbacus U L W a c rs _ (ha.below hbel) bU bL bW z)
  cases h : abaB U L W rs with
  | false =>
    rw [h] at HV
    have HR := Lib.hid (picR_bad h)
    clear h
    go_enter Try.func44, Try.ntmps44
    go_wp2_with fail
    refine HV.out.mono ?_
    rintro e w1 ⟨rfl, hb1⟩
    go_wp2
    go_ret2
    rw [HR.out]
    exact ⟨none, 0, rfl, ownF_nil _ _ _ _ _, hbel.trans (hb1.mono hbel.size)⟩
  | true =>
    rw [h] at HV
    have HR := Lib.hid (picR_ok h)
    have HA := Lib.hid (aba_of h)
    clear h
    go_enter Try.func44, Try.ntmps44
    go_wp2_with fail
    refine HV.out.mono ?_
    rintro e w1 ⟨rfl, hb1⟩
    replace bx := bx.below hb1
    replace hbel := hbel.trans (hb1.mono hbel.size)
    have hz1 : w.heap.size < w1.heap.size := bx.lt
    have hu0 := HA.out.u0
    have hu1 := HA.out.u1
    have hl0 := HA.out.l0
    have hl1 := HA.out.l1
    have hn0 := HA.out.n0
    have hn1 := HA.out.n1
    clear hb1 ha HV
    have c3 := bx.at_ 3 rfl
    go_wp2
    go_loopw [4, 5, 15] (fun uv lv i wr => ∃ (k : Nat) (uA : Option Addr) (uC : Nat) (lA : Option Addr) (lC : Nat), k ≤ rs.length ∧ i = .int .i64 (k : Nat) ∧ uv = .slice uA k uC ∧ lv = .slice lA k lC ∧
      ((k = 0 ∧ uA = none ∧ uC = 0 ∧ lA = none ∧ lC = 0) ∨ ∃ gU gL, w1.heap.size ≤ gU ∧ w1.heap.size ≤ gL ∧ gU ≠ gL ∧ gU < wr.heap.size ∧ gL < wr.heap.size ∧ Own 2 wr gU (gU + 1) (.slice uA k uC) ((rs.map fun r => U - r.1).take k) ∧ Own 2 wr gL (gL + 1) (.slice lA k lC) ((rs.map fun r => r.2).take k)) ∧
      Below w1.heap.size w1 wr) (fun _ _ i _ => rs.length - (intOf i).toNat)
    case atStart => exact ⟨0, none, 0, none, 0, Nat.zero_le _, rfl, rfl, rfl, .inl ⟨rfl, rfl, rfl, rfl, rfl⟩, Below.refl _ _⟩
    case round =>
      obtain ⟨k, uA, uC, lA, lC, hk, rfl, rfl, rfl, hP, hbr⟩ := hrel
      have hzr := hbr.size
      have hbw : Below w.heap.size w wr := hbel.trans (hbr.mono (by omega))
      replace bx := bx.lo hbr hz1
      have hbu : ((rs.map fun r => U - r.1).take k).length = k := by rw [List.length_take, List.length_map]; omega
      have hbl : ((rs.map fun r => r.2).take k).length = k := by rw [List.length_take, List.length_map]; omega
      clear c3
      by_cases hlt : k < rs.length
      · obtain ⟨gU, gL, q1, q2, q3, q4, oU, oL⟩ : ∃ gU gL, w1.heap.size ≤ gU ∧ w1.heap.size ≤ gL ∧ gU ≠ gL ∧ ((gU < wr.heap.size ∧ gL < wr.heap.size) ∨ (gU = wr.heap.size + 2 ∧ gL = wr.heap.size + 3)) ∧ Own 2 wr gU (gU + 1) (.slice uA k uC) ((rs.map fun r => U - r.1).take k) ∧ Own 2 wr gL (gL + 1) (.slice lA k lC) ((rs.map fun r => r.2).take k) := by
          rcases hP with ⟨rfl, rfl, rfl, rfl, rfl⟩ | ⟨gU, gL, q1, q2, q3, q4, q5, oU, oL⟩
          · exact ⟨wr.heap.size + 2, wr.heap.size + 3, by omega, by omega, by omega, .inr ⟨rfl, rfl⟩, by simpa using own_nil _ _ _ _, by simpa using own_nil _ _ _ _⟩
          · exact ⟨gU, gL, q1, q2, q3, .inl ⟨q4, q5⟩, oU, oL⟩
        obtain ⟨b, off, rfl, p0, p1⟩ := (ha0.below hbw).at2 hlt
        have hrb := rodB_true (rodsB_at HA.out.rods hlt)
        have hsU := take_map_step (f := fun r => U - r.1) hlt
        have hsL := take_map_step (f := fun r => r.2) hlt
        obtain ⟨r, hr⟩ : ∃ r, r = elt pairF rs k := ⟨_, rfl⟩
        rw [← hr] at p0 p1 hrb hsU hsL
        have HSU := Lib.hid hsU
        have HSL := Lib.hid hsL
        have hw3 : IntKind.i64.wrap (U - r.1) = U - r.1 := IntWalk.i64_in _ (by omega)
        have e0 := bx.at_ 0 rfl
        clear hP hr hsU hsL
        go_upto_region 7 with fail
        obtain ⟨X, hX⟩ : ∃ X, X = wr.alloc (.cells #[.int .i64 r.1, .int .i64 r.2] 152) := ⟨_, rfl⟩
        rw [← hX]
        have hbX : Below wr.heap.size wr X := by rw [hX]; exact (by repeat (first | exact Below.refl _ _ | refine Below.setCell ?_ (by first | omega | (simp <;> omega)) _ | refine Below.alloc ?_ (by first | omega | (simp <;> omega)) _ | refine Below.drew ?_))
        have bR : Bx X wr.heap.size 152 #[.int .i64 r.1, .int .i64 r.2] := by rw [hX]; exact Bx.new _ _ _
        have hsX : X.heap.size = wr.heap.size + 1 := by rw [hX]; simp
        replace oU := oU.below hbX
        replace oL := oL.below hbX
        replace e0 := kept hbX e0
        replace hbr := hbr.trans (hbX.mono hzr)
        have s0 := bR.at_ 0 rfl
        have s1 := bR.at_ 1 rfl
        clear hX hbX p0 p1 bx
        have hnew : (X.alloc (.cells #[.int .i64 (U - r.1)] 2)).cell? ((⟨wr.heap.size + 1, 0, none⟩ : Addr).add 0) = some (.int .i64 (U - r.1)) := by rw [← hsX]; exact cell_new1 X _ _
        go_upto_region 8 with (at_builtin; go_must (refine wpList_appAt rfl (.tmp 19) (.tmp 25) 24 2 rfl Try.underlying24 info_int64 rfl (oU.alloc _) hbu ⟨wr.heap.size + 1, 0, none⟩ 1 (U - r.1) rfl hnew (by omega) (by simp; omega) ?_); intro gU' C' w5 hg5 oU5 ht5)
        have oL5 := (oL.alloc (.cells #[.int .i64 (U - r.1)] 2)).touch ht5 (by omega)
        have bR5 := (bR.alloc (.cells #[.int .i64 (U - r.1)] 2)).touch ht5 (by omega)
        have s1' := bR5.at_ 1 rfl
        have hzz : wr.heap.size + 2 ≤ w5.heap.size := by have := ht5.size; simp at this; omega
        have hg5b : gU' = gU ∨ gU' = wr.heap.size + 2 := by
          rcases hg5 with h | h
          · exact .inl h
          · right; rw [h]; simp; omega
        have hgu := oU5.block
        have HB5 := Lib.hid ((hbr.alloc (by omega) (.cells #[.int .i64 (U - r.1)] 2)).trans (ht5.below q1 (by simp; omega)))
        clear hg5 s0 s1 e0
        go_wp2_with (at_builtin; go_must (refine wpList_appAt rfl (.tmp 27) (.tmp 30) 24 2 rfl Try.underlying24 info_int64 rfl (oL5.alloc _) hbl ⟨w5.heap.size, 0, none⟩ 1 r.2 rfl (cell_new1 w5 _ _) (by omega) (by simp; omega) ?_); intro gL' D' w6 hg6 oL6 ht6)
        have oU6 := (oU5.alloc (.cells #[.int .i64 r.2] 2)).touch ht6 (by omega)
        have hzz6 : w5.heap.size + 1 ≤ w6.heap.size := by have := ht6.size; simp at this; omega
        have hg6b : gL' = gL ∨ gL' = w5.heap.size + 1 := by
          rcases hg6 with h | h
          · exact .inl h
          · right; rw [h]; simp
        have hgl := oL6.block
        have HB6 := Lib.hid ((HB5.out.alloc (by have := HB5.out.size; omega) (.cells #[.int .i64 r.2] 2)).trans (ht6.below q2 (by have := HB5.out.size; simp; omega)))
        have hgu2 : gU' < w6.heap.size := by omega
        rw [← HSU.out] at oU6
        rw [← HSL.out] at oL6
        have hne : gU' ≠ gL' := by omega
        have z1 : w1.heap.size ≤ gU' := by omega
        have z2 : w1.heap.size ≤ gL' := by omega
        have z3 : gL' < w6.heap.size := hgl.2.2
        clear q3 q4 hg5b hg6 hg6b hgu hgl oU oL oU5 oL5
        go_roundw
        case rel => exact ⟨k + 1, _, C', _, D', by omega, by go_num, rfl, rfl, .inr ⟨gU', gL', z1, z2, hne, hgu2, z3, oU6, oL6⟩, HB6.out⟩
        case measure => (simp [intOf]) <;> omega
      · obtain rfl : k = rs.length := by omega
        obtain ⟨gU, gL, q1, q2, q3, q4, q5, oU, oL⟩ := hP.resolve_left (by omega)
        obtain ⟨us, hus⟩ : ∃ us, us = rs.map fun r => U - r.1 := ⟨_, rfl⟩
        obtain ⟨ls, hls⟩ : ∃ ls, ls = rs.map fun r => r.2 := ⟨_, rfl⟩
        have hul : us.length = rs.length := by rw [hus, List.length_map]
        have hll : ls.length = rs.length := by rw [hls, List.length_map]
        rw [← hus, List.take_of_length_le (by omega)] at oU
        rw [← hls, List.take_of_length_le (by omega)] at oL
        obtain ⟨N1, hN1⟩ : ∃ N1 : Nat, U + 1 = (N1 : Int) := ⟨(U + 1).toNat, by omega⟩
        obtain ⟨N2, hN2⟩ : ∃ N2 : Nat, L + 1 = (N2 : Int) := ⟨(L + 1).toNat, by omega⟩
        obtain ⟨T, hT⟩ : ∃ T : ByteArray, T = ⟨(Lib.repeatL [61] rs.length).toArray⟩ := ⟨_, rfl⟩
        have hpic : picL U L rs = (blL us N1 ++ [T]) ++ blL ls N2 := by
          rw [picL_parts hu0 (by omega), hT, hus, hls, show (U + 1).toNat = N1 by omega, show (L + 1).toNat = N2 by omega]
        have hplen : (picL U L rs).length = N1 + 1 + N2 := by rw [hpic]; simp [blL_len]; omega
        have HPIC := Lib.hid hpic
        have HLEN := Lib.hid hplen
        have HC1 := beadLines_any uA uC us N1 wr oU.rd (by omega) (by omega) (by omega)
        have HC2 := Lib.hid (fun (v : World) (hv : Below wr.heap.size wr v) => beadLines_any lA lC ls N2 v (oL.rd.below hv) (by omega) (by omega) (by omega))
        rw [hul, ← hN1] at HC1
        simp only [hll, ← hN2] at HC2
        have hRE := Lib.hid (fun (v : World) => Try.strings_Repeat ⟨#[61]⟩ rs.length v (by omega) (by show 1 * rs.length ≤ _; omega))
        have hTE : (⟨(Lib.repeatL (⟨#[61]⟩ : ByteArray).data.toList rs.length).toArray⟩ : ByteArray) = T := by rw [hT]
        rw [hTE] at hRE
        have hwU : IntKind.i64.wrap (U + 1) = U + 1 := IntWalk.i64_in _ (by omega)
        have hwL : IntKind.i64.wrap (L + 1) = L + 1 := IntWalk.i64_in _ (by omega)
        have hN1b : N1 ≤ 5 := by omega
        have hN2b : N2 ≤ 13 := by omega
        have hN2p : 0 < N2 := by omega
        have HC1' := Lib.hid HC1
        have e0 := bx.at_ 0 rfl
        clear hus hls hT hpic hplen hTE HC1 hN1 hN2 hbu hbl hP oU oL
        go_wp2_with fail
        refine HC1'.out.mono ?_
        rintro e w5 ⟨B1, D1, rfl, ol1, hb5⟩
        replace bx := bx.below hb5
        have e3 := bx.at_ 3 rfl
        clear e0 HC1'
        go_wp2_with fail
        refine (hRE.out w5).mono ?_
        rintro e w6 ⟨rfl, hb6⟩
        replace bx := bx.below hb6
        have ol6 := (ol1.below hb6).alloc (.cells #[.string T] 9)
        have r6 := ol6.row
        rw [blL_len] at r6
        have hz5 := hb5.size
        have hz6 := hb6.size
        clear e3 hRE
        go_upto_region 12 with (at_builtin; go_must (refine wpList_appR rfl (.tmp 38) (.tmp 43) 63 9 rfl (.string ByteArray.empty) 1 16 Try.underlying63 info_string rfl (by omega) (by omega) rfl r6 ⟨w6.heap.size, 0, none⟩ 1 1 (flat textF [T]) rfl rfl (newsO w6 _ _) flat_mem (by omega) (by simp; omega) ?_); intro A7 C7 w7 row7 ht7)
        have ol7 : OwnF textF 9 w7 wr.heap.size w7.heap.size (.slice A7 (N1 + 1) C7) (blL us N1 ++ [T]) := ownF_row (n := N1 + 1) (by rw [flat_append]; exact row7) (by simp [blL_len]) (by simp [blL_len]; omega)
        have bx7 := (bx.alloc (.cells #[.string T] 9)).touch ht7 (.inl (by omega))
        have hb7 : Below wr.heap.size wr w7 := ((hb5.trans (hb6.mono hz5)).alloc (by omega) _).trans (ht7.below (Nat.le_refl _) (by simp; omega))
        have hz7 := hb7.size
        have e1 := bx7.at_ 1 rfl
        clear ol6 ol1 row7 ht7 bx
        go_wp2_with fail
        refine (HC2.out w7 hb7).mono ?_
        rintro e w8 ⟨B2, D2, rfl, ol2, hb8⟩
        obtain ⟨g2, rfl, hn2⟩ := newsT ol2 (by rw [blL_len]; exact hN2p)
        have ol8 := ol7.below hb8
        have r8 := ol8.row
        rw [List.length_append, blL_len] at r8
        have hz8 := hb8.size
        clear HC2 e1 bx7 ol7
        go_wp2_with (at_builtin; go_must (refine wpList_appR rfl (.tmp 45) (.tmp 50) 63 9 rfl (.string ByteArray.empty) 1 16 Try.underlying63 info_string rfl (by omega) (by omega) rfl r8 ⟨g2, 0, none⟩ N2 D2 (flat textF (blL ls N2)) rfl (by rw [flat_len, blL_len]; rfl) hn2 flat_mem (by omega) (by omega) ?_); intro A9 C9 w9 row9 ht9)
        have ol9 : OwnF textF 9 w9 wr.heap.size w9.heap.size (.slice A9 (N1 + 1 + N2) C9) ((blL us N1 ++ [T]) ++ blL ls N2) := ownF_row (n := N1 + 1 + N2) (by rw [flat_append]; exact row9) (by simp [blL_len]; omega) (by simp [blL_len]; omega)
        have hb9 : Below wr.heap.size wr w9 := (hb7.trans (hb8.mono hz7)).trans (ht9.below (Nat.le_refl _) (by omega))
        clear row9 ht9 ol8 ol2 hn2
        go_ret2
        rw [HR.out]
        rw [← HPIC.out] at ol9
        exact ⟨A9, C9, by rw [HLEN.out]; rfl, by rw [HLEN.out]; exact ol9.wide hbw.size (Nat.le_refl _), hbw.trans (hb9.mono hbw.size)⟩
end Go.Proofs.Ytgfpjcckkbhdjaa
