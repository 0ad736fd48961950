/-
  ReadFault, in the program.
-/
import Derived.Test.YtgfopieojpjddaaDoorRfM
import Derived.Test.YtgfopieojpjddaaDoorReadI
import Derived.Test.YtgfopieojpjddaaDoorShCut
namespace Go.Proofs.YtgfopieojpjddaaDoor
open Go.RowKit

/-- The variables that reading a fault meets. -/
structure RfDoor (w : World) : Prop where
  rd : RdDoor w
  words : FaultWords w
  max : ∃ m, w.cell? ⟨5, 0, none⟩ = some (.int .i64 m)
theorem rfDoor_below {w w' : World} (h : RfDoor w) (hb : Below w.heap.size w w') : RfDoor w' := by
  obtain ⟨h1, h3, m, h2⟩ := h
  exact ⟨rdDoor_below h1 hb, faultWords_below h3 hb, m, kept hb h2⟩

set_option maxRecDepth 100000 in
set_option maxHeartbeats 4000000 in
theorem implReadFault (s : ByteArray) (w : World) (hs : s.size ≤ 1048576) (hD : RfDoor w) :
    Calls Tryd.prog 38 #[.string s] w fun e w' => e = .returned (.tuple #[.agg #[.int .i64 (rfR s).1.1, .int .i64 (rfR s).1.2], .bool (rfR s).2]) ∧ Below w.heap.size w w' := by
  obtain ⟨V, hV⟩ : ∃ V, V = w.alloc (.cells #[.int .i64 0, .int .i64 0] 53) := ⟨_, rfl⟩
  have bx : Bx V w.heap.size 53 #[.int .i64 0, .int .i64 0] := by rw [hV]; exact Bx.new _ _ _
  have hbV : Below w.heap.size w V := by rw [hV]; exact (Below.refl _ _).alloc (Nat.le_refl _) _
  have hDV := rfDoor_below hD hbV
  obtain ⟨hR, hWd, m, hM⟩ := hDV
  have c1 := Tryd.strings_Cut s ⟨#[32]⟩ m V (by omega) hM
  rw [show (⟨#[32]⟩ : ByteArray).data.toList = [32] from rfl] at c1
  have ht := cutf_tells s
  obtain ⟨H, hH⟩ : ∃ H : ByteArray, H = ⟨(Lib.cut s.data.toList [32]).1.toArray⟩ := ⟨_, rfl⟩
  obtain ⟨T, hT⟩ : ∃ T : ByteArray, T = ⟨(Lib.cut s.data.toList [32]).2.1.toArray⟩ := ⟨_, rfl⟩
  obtain ⟨F, hF⟩ : ∃ F : Bool, F = (Lib.cut s.data.toList [32]).2.2 := ⟨_, rfl⟩
  rw [← hH, ← hT, ← hF] at c1
  rw [← hH, ← hT] at ht
  clear hH hT hF hD
  have HV := Lib.hid hV
  obtain ⟨hHs, hTs, hr⟩ := ht
  have c2 := fun n => implReadDecimal T (V.drewN n) (by omega) (rdDoor_below hR (bel_drewN (Below.refl _ _) n))
  generalize rdR T = R at c2 hr
  obtain ⟨b, ok⟩ := R
  have HR := Lib.hid hr
  clear hr hR hM hV
  go_enter Tryd.func38, Tryd.ntmps38
  go_wp2_with fail
  rw [← HV.out]
  refine c1.mono ?_
  rintro e w1 ⟨rfl, n, rfl⟩
  go_wp2_with fail
  refine (c2 n).mono ?_
  rintro e w2 ⟨rfl, hb2⟩
  have hbx := (bel_drewN (Below.refl V.heap.size V) n).trans hb2
  replace bx := bx.below hbx
  replace hWd := faultWords_below hWd hbx
  replace hb2 := hbV.trans (hbx.mono hbV.size)
  clear hbx c1 c2 HV hbV
  cases ok with
  | false =>
    have HN := Lib.hid (HR.out.trans (rfT_bad (fun h => by cases h.1)))
    have c0 := bx.at_ 0 rfl
    have c1 := bx.at_ 1 rfl
    have f0 := bx.thaw 0
    have f1 := bx.thaw 1
    clear HR hWd
    go_wp2
    exact bodyPost_ret (v := .tuple #[.agg #[.int .i64 0, .int .i64 0], .bool false]) (by simp [results, Tryd.results38, go_sem, c0, c1]) rfl ⟨by rw [HN.out], (by repeat (first | exact hb2 | refine Below.setCell ?_ (by first | omega | (simp <;> omega)) _ | refine Below.alloc ?_ (by first | omega | (simp <;> omega)) _ | refine Below.drew ?_))⟩
  | true =>
    obtain ⟨u, hu⟩ : ∃ u, u = w2.alloc (.cells #[.int .i64 b] 2) := ⟨_, rfl⟩
    have hbu : Below w2.heap.size w2 u := by rw [hu]; exact (Below.refl _ _).alloc (Nat.le_refl _) _
    have HW := Lib.hid (within1_at 0 15 b u w2.heap.size 1 (by rw [hu]; exact (Bx.new _ _ _).at_ 0 rfl))
    have HU := Lib.hid hu
    replace bx := bx.below hbu
    replace hWd := faultWords_below hWd hbu
    have hbU := hb2.trans (hbu.mono hb2.size)
    clear hu hbu
    cases hI : inB b 0 15 with
    | false =>
      rw [hI] at HW
      have HN := Lib.hid (HR.out.trans (rfT_bad (fun h => by rw [hI] at h; cases h.2)))
      clear hI
      have c0 := bx.at_ 0 rfl
      have c1 := bx.at_ 1 rfl
      have f0 := bx.thaw 0
      have f1 := bx.thaw 1
      clear HR hWd
      go_wp2_with (go_at_call 70; rw [← HU.out]; refine HW.out.mono ?_; rintro e w' ⟨rfl, hq⟩; subst hq)
      exact bodyPost_ret (v := .tuple #[.agg #[.int .i64 0, .int .i64 0], .bool false]) (by simp [results, Tryd.results38, go_sem, c0, c1]) rfl ⟨by rw [HN.out], (by repeat (first | exact hbU | refine Below.setCell ?_ (by first | omega | (simp <;> omega)) _ | refine Below.alloc ?_ (by first | omega | (simp <;> omega)) _ | refine Below.drew ?_))⟩
    | true =>
      rw [hI] at HW
      have HI := Lib.hid hI
      clear hI
      obtain ⟨W1, hW1⟩ : ∃ W, W = wdV 1 := ⟨_, rfl⟩
      obtain ⟨W2, hW2⟩ : ∃ W, W = wdV 2 := ⟨_, rfl⟩
      obtain ⟨W3, hW3⟩ : ∃ W, W = wdV 3 := ⟨_, rfl⟩
      have n0 := hWd.1
      have n1 : u.cell? ⟨1, 1, none⟩ = some (.string W1) := by rw [hW1]; exact hWd.2.1
      have n2 : u.cell? ⟨1, 2, none⟩ = some (.string W2) := by rw [hW2]; exact hWd.2.2.1
      have n3 : u.cell? ⟨1, 3, none⟩ = some (.string W3) := by rw [hW3]; exact hWd.2.2.2
      have HW1 := Lib.hid hW1
      have HW2 := Lib.hid hW2
      have HW3 := Lib.hid hW3
      clear hW1 hW2 hW3 hWd
      go_wp2_with (go_at_call 70; rw [← HU.out]; refine HW.out.mono ?_; rintro e w' ⟨rfl, hq⟩; subst hq)
      clear n0 n1 n2 n3
      go_loopw [32] (fun i wr => ∃ k : Nat, k ≤ 4 ∧ i = .int .i64 (k : Int) ∧ Bx wr w.heap.size 53 #[.int .i64 0, .int .i64 0] ∧ Below w.heap.size w wr ∧ Hid (∀ j : Int, 1 ≤ j → j < (k : Int) → ¬ H = wdV j)) (fun i _ => 4 - (intOf i).toNat)
      case atStart => exact ⟨0, by omega, rfl, bx, hbU, Lib.hid (fun j h1 h2 => by omega)⟩
      case round =>
        clear bx hbU HU HW
        obtain ⟨k, hk, rfl, bx, bl, HA⟩ := hrel
        have hzs := bx.lt
        by_cases hlt : k < 4
        · have hcc : k = 0 ∨ k = 1 ∨ k = 2 ∨ k = 3 := by omega
          clear hk hlt
          rcases hcc with rfl | rfl | rfl | rfl
          · have hin : inB 0 1 3 = false := by decide
            have HN := Lib.hid (show ∀ j : Int, 1 ≤ j → j < ((0 + 1 : Nat) : Int) → ¬ H = wdV j from fun j h1 h2 => by omega)
            have hix : ∀ v : World, Sem.run Tryd.prog (Instr.index 107 (.agg #[.string ⟨#[]⟩, .string W1, .string W2, .string W3]) (.int .i64 0)) v = .ok (.string ⟨#[]⟩) v := fun _ => by kernel_rfl
            go_wp2_with (go_at_call 83; refine (isFaultKind_at 0 wr hin).mono ?_; rintro e w5 ⟨rfl, hq⟩; have b5 := bx.alloc (.cells #[.int .i64 0] 2); rw [← hq] at b5; have bl5 : Below w.heap.size w w5 := (by rw [hq]; exact bl.alloc (Nat.le_of_lt hzs) _); have HQ := Lib.hid hq; clear hq; have c0 := b5.at_ 0 rfl; have c1 := b5.at_ 1 rfl; have f0 := b5.thaw 0; have f1 := b5.thaw 1)
            go_roundw
            case rel => exact ⟨0 + 1, by omega, by go_num, b5, bl5, HN⟩
            case measure => (simp [intOf]) <;> omega
          · have hin : inB 1 1 3 = true := by decide
            by_cases he : H = W1
            · have t1 : (W1.toList == H.toList) = true := by rw [he]; simp
              have HN := Lib.hid (show rfR s = ((1, b), true) from HR.out.trans (rfT_hit HI.out (by omega) (he.trans HW1.out) fun j h1 h2 => HA.out j h1 h2))
              clear he
              have hix : ∀ v : World, Sem.run Tryd.prog (Instr.index 107 (.agg #[.string ⟨#[]⟩, .string W1, .string W2, .string W3]) (.int .i64 1)) v = .ok (.string W1) v := fun _ => by kernel_rfl
              go_wp2_with (go_at_call 83; refine (isFaultKind_at 1 wr hin).mono ?_; rintro e w5 ⟨rfl, hq⟩; have b5 := bx.alloc (.cells #[.int .i64 1] 2); rw [← hq] at b5; have bl5 : Below w.heap.size w w5 := (by rw [hq]; exact bl.alloc (Nat.le_of_lt hzs) _); have HQ := Lib.hid hq; clear hq; have c0 := b5.at_ 0 rfl; have c1 := b5.at_ 1 rfl; have f0 := b5.thaw 0; have f1 := b5.thaw 1)
              exact bodyPost_ret (v := .tuple #[.agg #[.int .i64 1, .int .i64 b], .bool true]) (by simp [results, Tryd.results38, go_sem, c0, c1]) rfl ⟨by rw [HN.out], (by repeat (first | exact bl5 | refine Below.setCell ?_ (by first | omega | (simp <;> omega)) _ | refine Below.alloc ?_ (by first | omega | (simp <;> omega)) _ | refine Below.drew ?_))⟩
            · have t1 : (W1.toList == H.toList) = false := str_ne fun e => he e.symm
              have HN := Lib.hid (show ∀ j : Int, 1 ≤ j → j < ((1 + 1 : Nat) : Int) → ¬ H = wdV j from fun j h1 h2 => by
                by_cases hj : j < 1
                · exact HA.out j h1 hj
                · obtain rfl : j = 1 := by omega
                  rw [← HW1.out]; exact he)
              clear he
              have hix : ∀ v : World, Sem.run Tryd.prog (Instr.index 107 (.agg #[.string ⟨#[]⟩, .string W1, .string W2, .string W3]) (.int .i64 1)) v = .ok (.string W1) v := fun _ => by kernel_rfl
              go_wp2_with (go_at_call 83; refine (isFaultKind_at 1 wr hin).mono ?_; rintro e w5 ⟨rfl, hq⟩; have b5 := bx.alloc (.cells #[.int .i64 1] 2); rw [← hq] at b5; have bl5 : Below w.heap.size w w5 := (by rw [hq]; exact bl.alloc (Nat.le_of_lt hzs) _); have HQ := Lib.hid hq; clear hq; have c0 := b5.at_ 0 rfl; have c1 := b5.at_ 1 rfl; have f0 := b5.thaw 0; have f1 := b5.thaw 1)
              go_roundw
              case rel => exact ⟨1 + 1, by omega, by go_num, b5, bl5, HN⟩
              case measure => (simp [intOf]) <;> omega
          · have hin : inB 2 1 3 = true := by decide
            by_cases he : H = W2
            · have t1 : (W2.toList == H.toList) = true := by rw [he]; simp
              have HN := Lib.hid (show rfR s = ((2, b), true) from HR.out.trans (rfT_hit HI.out (by omega) (he.trans HW2.out) fun j h1 h2 => HA.out j h1 h2))
              clear he
              have hix : ∀ v : World, Sem.run Tryd.prog (Instr.index 107 (.agg #[.string ⟨#[]⟩, .string W1, .string W2, .string W3]) (.int .i64 2)) v = .ok (.string W2) v := fun _ => by kernel_rfl
              go_wp2_with (go_at_call 83; refine (isFaultKind_at 2 wr hin).mono ?_; rintro e w5 ⟨rfl, hq⟩; have b5 := bx.alloc (.cells #[.int .i64 2] 2); rw [← hq] at b5; have bl5 : Below w.heap.size w w5 := (by rw [hq]; exact bl.alloc (Nat.le_of_lt hzs) _); have HQ := Lib.hid hq; clear hq; have c0 := b5.at_ 0 rfl; have c1 := b5.at_ 1 rfl; have f0 := b5.thaw 0; have f1 := b5.thaw 1)
              exact bodyPost_ret (v := .tuple #[.agg #[.int .i64 2, .int .i64 b], .bool true]) (by simp [results, Tryd.results38, go_sem, c0, c1]) rfl ⟨by rw [HN.out], (by repeat (first | exact bl5 | refine Below.setCell ?_ (by first | omega | (simp <;> omega)) _ | refine Below.alloc ?_ (by first | omega | (simp <;> omega)) _ | refine Below.drew ?_))⟩
            · have t1 : (W2.toList == H.toList) = false := str_ne fun e => he e.symm
              have HN := Lib.hid (show ∀ j : Int, 1 ≤ j → j < ((2 + 1 : Nat) : Int) → ¬ H = wdV j from fun j h1 h2 => by
                by_cases hj : j < 2
                · exact HA.out j h1 hj
                · obtain rfl : j = 2 := by omega
                  rw [← HW2.out]; exact he)
              clear he
              have hix : ∀ v : World, Sem.run Tryd.prog (Instr.index 107 (.agg #[.string ⟨#[]⟩, .string W1, .string W2, .string W3]) (.int .i64 2)) v = .ok (.string W2) v := fun _ => by kernel_rfl
              go_wp2_with (go_at_call 83; refine (isFaultKind_at 2 wr hin).mono ?_; rintro e w5 ⟨rfl, hq⟩; have b5 := bx.alloc (.cells #[.int .i64 2] 2); rw [← hq] at b5; have bl5 : Below w.heap.size w w5 := (by rw [hq]; exact bl.alloc (Nat.le_of_lt hzs) _); have HQ := Lib.hid hq; clear hq; have c0 := b5.at_ 0 rfl; have c1 := b5.at_ 1 rfl; have f0 := b5.thaw 0; have f1 := b5.thaw 1)
              go_roundw
              case rel => exact ⟨2 + 1, by omega, by go_num, b5, bl5, HN⟩
              case measure => (simp [intOf]) <;> omega
          · have hin : inB 3 1 3 = true := by decide
            by_cases he : H = W3
            · have t1 : (W3.toList == H.toList) = true := by rw [he]; simp
              have HN := Lib.hid (show rfR s = ((3, b), true) from HR.out.trans (rfT_hit HI.out (by omega) (he.trans HW3.out) fun j h1 h2 => HA.out j h1 h2))
              clear he
              have hix : ∀ v : World, Sem.run Tryd.prog (Instr.index 107 (.agg #[.string ⟨#[]⟩, .string W1, .string W2, .string W3]) (.int .i64 3)) v = .ok (.string W3) v := fun _ => by kernel_rfl
              go_wp2_with (go_at_call 83; refine (isFaultKind_at 3 wr hin).mono ?_; rintro e w5 ⟨rfl, hq⟩; have b5 := bx.alloc (.cells #[.int .i64 3] 2); rw [← hq] at b5; have bl5 : Below w.heap.size w w5 := (by rw [hq]; exact bl.alloc (Nat.le_of_lt hzs) _); have HQ := Lib.hid hq; clear hq; have c0 := b5.at_ 0 rfl; have c1 := b5.at_ 1 rfl; have f0 := b5.thaw 0; have f1 := b5.thaw 1)
              exact bodyPost_ret (v := .tuple #[.agg #[.int .i64 3, .int .i64 b], .bool true]) (by simp [results, Tryd.results38, go_sem, c0, c1]) rfl ⟨by rw [HN.out], (by repeat (first | exact bl5 | refine Below.setCell ?_ (by first | omega | (simp <;> omega)) _ | refine Below.alloc ?_ (by first | omega | (simp <;> omega)) _ | refine Below.drew ?_))⟩
            · have t1 : (W3.toList == H.toList) = false := str_ne fun e => he e.symm
              have HN := Lib.hid (show ∀ j : Int, 1 ≤ j → j < ((3 + 1 : Nat) : Int) → ¬ H = wdV j from fun j h1 h2 => by
                by_cases hj : j < 3
                · exact HA.out j h1 hj
                · obtain rfl : j = 3 := by omega
                  rw [← HW3.out]; exact he)
              clear he
              have hix : ∀ v : World, Sem.run Tryd.prog (Instr.index 107 (.agg #[.string ⟨#[]⟩, .string W1, .string W2, .string W3]) (.int .i64 3)) v = .ok (.string W3) v := fun _ => by kernel_rfl
              go_wp2_with (go_at_call 83; refine (isFaultKind_at 3 wr hin).mono ?_; rintro e w5 ⟨rfl, hq⟩; have b5 := bx.alloc (.cells #[.int .i64 3] 2); rw [← hq] at b5; have bl5 : Below w.heap.size w w5 := (by rw [hq]; exact bl.alloc (Nat.le_of_lt hzs) _); have HQ := Lib.hid hq; clear hq; have c0 := b5.at_ 0 rfl; have c1 := b5.at_ 1 rfl; have f0 := b5.thaw 0; have f1 := b5.thaw 1)
              go_roundw
              case rel => exact ⟨3 + 1, by omega, by go_num, b5, bl5, HN⟩
              case measure => (simp [intOf]) <;> omega
        · obtain rfl : k = 4 := by omega
          have HN := Lib.hid (HR.out.trans (rfT_none (fun j h1 h2 => HA.out j h1 h2)))
          have c0 := bx.at_ 0 rfl
          have c1 := bx.at_ 1 rfl
          have f0 := bx.thaw 0
          have f1 := bx.thaw 1
          go_wp2
          exact bodyPost_ret (v := .tuple #[.agg #[.int .i64 0, .int .i64 0], .bool false]) (by simp [results, Tryd.results38, go_sem, c0, c1]) rfl ⟨by rw [HN.out], (by repeat (first | exact bl | refine Below.setCell ?_ (by first | omega | (simp <;> omega)) _ | refine Below.alloc ?_ (by first | omega | (simp <;> omega)) _ | refine Below.drew ?_))⟩
end Go.Proofs.YtgfopieojpjddaaDoor
