/-
  Lines of programs are read, in the program: readInstr.
-/
import Derived.Test.YtgfopieojpjddaaDoorPrrI
import Derived.Laws.Rows
import Derived.Laws.ResultCell
namespace Go.Proofs.YtgfopieojpjddaaDoor
open Go.RowKit

theorem ri_ret {w : World} {g : Nat} {x y f : Int} {tmps : Array Value} (h : Bx w g 83 #[.int .i64 x, .int .i64 y]) (hp : tmps.getD 2 undef = .pointer (some ⟨g, 0, none⟩)) (hq : tmps.getD 3 undef = .int .i64 f) :
    (results Tryd.f113 tmps).run Tryd.prog w = .ok (.tuple #[.agg #[.int .i64 x, .int .i64 y], .int .i64 f]) w := by
  have hl : (loadVar 83 ⟨g, 0, none⟩).run Tryd.prog w = .ok (.agg #[.int .i64 x, .int .i64 y]) w :=
    run_loadVar_row w g _ 83 _ (0, 0) _ h Tryd.underlying83 rfl (by kernel_rfl)
  rw [results_cell_tmp Tryd.results113, hp, hq]
  simp [asAddr, hl]

set_option maxRecDepth 100000 in
set_option maxHeartbeats 8000000 in
theorem readInstr_any (s : ByteArray) (w : World) (hs : s.size ≤ 1048576) (hD : PrDoor w) :
    Calls Tryd.prog 113 #[.string s] w fun e w' => e = .returned (.tuple #[.agg #[.int .i64 (lnR s).1.1, .int .i64 (lnR s).1.2], .int .i64 (lnR s).2]) ∧ Below w.heap.size w w' := by
  obtain ⟨V, hV⟩ : ∃ V, V = w.alloc (.cells #[.int .i64 0, .int .i64 0] 83) := ⟨_, rfl⟩
  have bx : Bx V w.heap.size 83 #[.int .i64 0, .int .i64 0] := by rw [hV]; exact Bx.new _ _ _
  have hbV : Below w.heap.size w V := by rw [hV]; exact (Below.refl _ _).alloc (Nat.le_refl _) _
  have hDV := prDoor_below hD hbV
  obtain ⟨hR, hW, m, hM⟩ := hDV
  have c1 := Tryd.strings_Cut s ⟨#[32]⟩ m V (by omega) hM
  rw [show (⟨#[32]⟩ : ByteArray).data.toList = [32] from rfl] at c1
  obtain ⟨H, T, F, hH, hT, hF, hcut⟩ := cut_says s
  rw [← hH, ← hT, ← hF] at c1
  clear hH hT hF hM hD
  have HV := Lib.hid hV
  clear hV
  go_enter Tryd.func113, Tryd.ntmps113
  go_wp2_with fail
  rw [← HV.out]
  refine c1.mono ?_
  rintro e w1 ⟨rfl, n1, rfl⟩
  have hb1 := bel_drewN (Below.refl V.heap.size V) n1
  replace bx := bx.below hb1
  replace hR := rdDoor_below hR hb1
  replace hW := opWords_below hW hb1
  replace hbV := hbV.trans (hb1.mono hbV.size)
  clear c1 HV hb1
  generalize V.drewN n1 = W1 at *
  go_wp2_with fail
  refine (opOf_any H W1 hW).mono ?_
  rintro e w2 ⟨rfl, hq⟩
  subst w2
  have hle := opT_le H 10
  by_cases h0 : opT H 10 = 0
  · have HF := Lib.hid (show lnR s = ((0, 0), 1) by
      rcases hcut with ⟨_, rfl, hsp⟩ | ⟨_, hsp, he, _⟩
      · rw [lnR, hsp, lnL_word h0]
      · rw [lnR, he, pl_splitL_app hsp, lnL_word h0])
    have hd : decide (¬ opT H 10 = 0) = false := decide_eq_false (fun h => h h0)
    rw [hd]
    clear hcut h0 hd
    have f0 := bx.thaw 0
    have f1 := bx.thaw 1
    have c0 := bx.at_ 0 rfl
    have c1 := bx.at_ 1 rfl
    go_wp2
    refine bodyPost_ret (ri_ret (g := w.heap.size) (x := 0) (y := 0) (f := 1) ((bx.set_ 0 (.int .i64 0)).set_ 1 (.int .i64 0)) rfl rfl) rfl ⟨by rw [HF.out], ?_⟩
    exact (by repeat (first | exact hbV | refine Below.setCell ?_ (by first | omega | (simp <;> omega)) _ | refine Below.alloc ?_ (by first | omega | (simp <;> omega)) _ | refine Below.drew ?_))
  · have hd : decide (¬ opT H 10 = 0) = true := decide_eq_true h0
    rw [hd]
    clear hd
    -- what the line is, if the number is n
    obtain ⟨n, hn⟩ : ∃ n, n = if F = true then (rdR T).1 else impN (opT H 10 : Nat) := ⟨_, rfl⟩
    have HL := Lib.hid (show lnR s = if insB (((opT H 10 : Nat) : Int), n) = true ∧ txP (((opT H 10 : Nat) : Int), n) = s then ((((opT H 10 : Nat) : Int), n), 0) else ((0, 0), 2) by
      rcases hcut with ⟨hF, hHs, hsp⟩ | ⟨hF, hsp, he, _⟩
      · subst hHs
        have hn2 : n = impN ((opT H 10 : Nat) : Int) := by rw [hn, hF]; rfl
        rw [hn2]; exact ln_bare hsp h0
      · have hn2 : n = (rdR T).1 := by rw [hn, hF, if_pos rfl]
        rw [hn2]; exact ln_full hsp he h0)
    have HTs := Lib.hid (show F = true → T.size ≤ 1048576 from fun hF => by
      rcases hcut with ⟨h, _⟩ | ⟨_, _, _, h⟩
      · rw [hF] at h; cases h
      · omega)
    have HN := Lib.hid hn
    clear hcut h0 hn
    generalize opT H 10 = o at *
    go_wp2_with fail
    refine (implied_any (o : Int) W1).mono ?_
    rintro e w3 ⟨rfl, hb3⟩
    replace bx := bx.below hb3
    replace hR := rdDoor_below hR hb3
    replace hW := opWords_below hW hb3
    replace hbV := hbV.trans (hb3.mono hbV.size)
    clear hb3
    cases F with
    | false =>
      have hn := HN.out
      rw [if_neg (by simp)] at hn
      rw [← hn]
      clear HN hn HTs
      go_wp2_with fail
      obtain ⟨U, hU⟩ : ∃ U, U = w3.alloc (.cells #[.int .i64 (o : Int), .int .i64 n] 83) := ⟨_, rfl⟩
      have hbU : Below w3.heap.size w3 U := by rw [hU]; exact (Below.refl _ _).alloc (Nat.le_refl _) _
      have bo : Bx U w3.heap.size 83 #[.int .i64 (o : Int), .int .i64 n] := by rw [hU]; exact Bx.new _ _ _
      have hwl := bx.lt
      replace bx := bx.below hbU
      replace hR := rdDoor_below hR hbU
      replace hW := opWords_below hW hbU
      replace hbV := hbV.trans (hbU.mono hbV.size)
      rw [← hU]
      clear hU hbU
      have hbo := bo.lt
      refine (hasForm_any ((o : Int), n) U).mono ?_
      rintro e w5 ⟨rfl, hb5⟩
      replace bx := bx.below hb5
      replace bo := bo.below hb5
      replace hR := rdDoor_below hR hb5
      replace hW := opWords_below hW hb5
      replace hbV := hbV.trans (hb5.mono hbV.size)
      clear hb5
      cases hi : insB ((o : Int), n) with
      | false =>
        have HF := Lib.hid (HL.out.trans (if_neg (fun h => by rw [hi] at h; cases h.1)))
        have f0 := bx.thaw 0
        have f1 := bx.thaw 1
        have c0 := bx.at_ 0 rfl
        have c1 := bx.at_ 1 rfl
        have o0 := bo.at_ 0 rfl
        have o1 := bo.at_ 1 rfl
        go_wp2
        refine bodyPost_ret (ri_ret (g := w.heap.size) (x := 0) (y := 0) (f := 2) ((bx.set_ 0 (.int .i64 0)).set_ 1 (.int .i64 0)) rfl rfl) rfl ⟨by rw [HF.out], ?_⟩
        exact (by repeat (first | exact hbV | refine Below.setCell ?_ (by first | omega | (simp <;> omega)) _ | refine Below.alloc ?_ (by first | omega | (simp <;> omega)) _ | refine Below.drew ?_))
      | true =>
        have f0 := bx.thaw 0
        have f1 := bx.thaw 1
        have c0 := bx.at_ 0 rfl
        have c1 := bx.at_ 1 rfl
        have o0 := bo.at_ 0 rfl
        have o1 := bo.at_ 1 rfl
        go_wp2_with fail
        refine (line_any ((o : Int), n) w5 hi hR.tab hW).mono ?_
        rintro e w6 ⟨rfl, hb6⟩
        clear f0 f1 c0 c1 o0 o1
        replace bx := bx.below hb6
        replace bo := bo.below hb6
        replace hR := rdDoor_below hR hb6
        replace hW := opWords_below hW hb6
        replace hbV := hbV.trans (hb6.mono hbV.size)
        have f0 := bx.thaw 0
        have f1 := bx.thaw 1
        have c0 := bx.at_ 0 rfl
        have c1 := bx.at_ 1 rfl
        have o0 := bo.at_ 0 rfl
        have o1 := bo.at_ 1 rfl
        have HL2 := Lib.hid (show txP ((o : Int), n) = s → lnR s = (((o : Int), n), 0) from fun he => HL.out.trans (if_pos ⟨hi, he⟩))
        have HL3 := Lib.hid (show ¬ txP ((o : Int), n) = s → lnR s = ((0, 0), 2) from fun he => HL.out.trans (if_neg fun h => he h.2))
        clear HL hb6
        generalize txP ((o : Int), n) = X at *
        by_cases he : X = s
        · have e1 := str_eqB he
          have HF := Lib.hid (HL2.out he)
          clear HL2 HL3 he
          go_wp2
          refine bodyPost_ret (ri_ret (g := w.heap.size) (x := (o : Int)) (y := n) (f := 0) ((bx.set_ 0 (.int .i64 (o : Int))).set_ 1 (.int .i64 n)) rfl rfl) rfl ⟨by rw [HF.out], ?_⟩
          exact (by repeat (first | exact hbV | refine Below.setCell ?_ (by first | omega | (simp <;> omega)) _ | refine Below.alloc ?_ (by first | omega | (simp <;> omega)) _ | refine Below.drew ?_))
        · have e1 := str_neB he
          have HF := Lib.hid (HL3.out he)
          clear HL2 HL3 he
          go_wp2
          refine bodyPost_ret (ri_ret (g := w.heap.size) (x := 0) (y := 0) (f := 2) ((bx.set_ 0 (.int .i64 0)).set_ 1 (.int .i64 0)) rfl rfl) rfl ⟨by rw [HF.out], ?_⟩
          exact (by repeat (first | exact hbV | refine Below.setCell ?_ (by first | omega | (simp <;> omega)) _ | refine Below.alloc ?_ (by first | omega | (simp <;> omega)) _ | refine Below.drew ?_))
    | true =>
      have hn := HN.out
      rw [if_pos rfl] at hn
      have hTs := HTs.out rfl
      go_wp2_with fail
      obtain ⟨U, hU⟩ : ∃ U, U = w3.alloc (.cells #[.int .i64 (o : Int), .int .i64 (impN (o : Int))] 83) := ⟨_, rfl⟩
      have hbU : Below w3.heap.size w3 U := by rw [hU]; exact (Below.refl _ _).alloc (Nat.le_refl _) _
      have bo : Bx U w3.heap.size 83 #[.int .i64 (o : Int), .int .i64 (impN (o : Int))] := by rw [hU]; exact Bx.new _ _ _
      have hwl := bx.lt
      rw [← hU]
      clear hU
      refine (implReadDecimal T U hTs (rdDoor_below hR hbU)).mono ?_
      rintro e w4 ⟨rfl, hb4⟩
      replace bo := bo.below hb4
      replace hbU := hbU.trans (hb4.mono hbU.size)
      replace bx := bx.below hbU
      rw [← hn]
      clear hb4 HN hn HTs hTs
      have of := bo.thaw 1
      have o1 := bo.at_ 1 rfl
      have o0 := bo.at_ 0 rfl
      have hbo4 := bo.lt
      go_wp2_with fail
      obtain ⟨Y, hY⟩ : ∃ Y, Y = w4.setCell ⟨w3.heap.size, 1, none⟩ (.int .i64 n) := ⟨_, rfl⟩
      replace bo : Bx Y w3.heap.size 83 #[.int .i64 (o : Int), .int .i64 n] := by rw [hY]; exact bo.set_ 1 _
      replace bx : Bx Y w.heap.size 83 #[.int .i64 0, .int .i64 0] := by rw [hY]; exact bx.far (by simp; omega) _
      replace hbU : Below w3.heap.size w3 Y := by rw [hY]; exact hbU.setCell (Nat.le_refl _) _
      rw [← hY]
      clear hY of o1 o0 hbo4
      replace hR := rdDoor_below hR hbU
      replace hW := opWords_below hW hbU
      replace hbV := hbV.trans (hbU.mono hbV.size)
      clear hbU
      have hbo := bo.lt
      refine (hasForm_any ((o : Int), n) Y).mono ?_
      rintro e w5 ⟨rfl, hb5⟩
      replace bx := bx.below hb5
      replace bo := bo.below hb5
      replace hR := rdDoor_below hR hb5
      replace hW := opWords_below hW hb5
      replace hbV := hbV.trans (hb5.mono hbV.size)
      clear hb5
      cases hi : insB ((o : Int), n) with
      | false =>
        have HF := Lib.hid (HL.out.trans (if_neg (fun h => by rw [hi] at h; cases h.1)))
        have f0 := bx.thaw 0
        have f1 := bx.thaw 1
        have c0 := bx.at_ 0 rfl
        have c1 := bx.at_ 1 rfl
        have o0 := bo.at_ 0 rfl
        have o1 := bo.at_ 1 rfl
        go_wp2
        refine bodyPost_ret (ri_ret (g := w.heap.size) (x := 0) (y := 0) (f := 2) ((bx.set_ 0 (.int .i64 0)).set_ 1 (.int .i64 0)) rfl rfl) rfl ⟨by rw [HF.out], ?_⟩
        exact (by repeat (first | exact hbV | refine Below.setCell ?_ (by first | omega | (simp <;> omega)) _ | refine Below.alloc ?_ (by first | omega | (simp <;> omega)) _ | refine Below.drew ?_))
      | true =>
        have f0 := bx.thaw 0
        have f1 := bx.thaw 1
        have c0 := bx.at_ 0 rfl
        have c1 := bx.at_ 1 rfl
        have o0 := bo.at_ 0 rfl
        have o1 := bo.at_ 1 rfl
        go_wp2_with fail
        refine (line_any ((o : Int), n) w5 hi hR.tab hW).mono ?_
        rintro e w6 ⟨rfl, hb6⟩
        clear f0 f1 c0 c1 o0 o1
        replace bx := bx.below hb6
        replace bo := bo.below hb6
        replace hR := rdDoor_below hR hb6
        replace hW := opWords_below hW hb6
        replace hbV := hbV.trans (hb6.mono hbV.size)
        have f0 := bx.thaw 0
        have f1 := bx.thaw 1
        have c0 := bx.at_ 0 rfl
        have c1 := bx.at_ 1 rfl
        have o0 := bo.at_ 0 rfl
        have o1 := bo.at_ 1 rfl
        have HL2 := Lib.hid (show txP ((o : Int), n) = s → lnR s = (((o : Int), n), 0) from fun he => HL.out.trans (if_pos ⟨hi, he⟩))
        have HL3 := Lib.hid (show ¬ txP ((o : Int), n) = s → lnR s = ((0, 0), 2) from fun he => HL.out.trans (if_neg fun h => he h.2))
        clear HL hb6
        generalize txP ((o : Int), n) = X at *
        by_cases he : X = s
        · have e1 := str_eqB he
          have HF := Lib.hid (HL2.out he)
          clear HL2 HL3 he
          go_wp2
          refine bodyPost_ret (ri_ret (g := w.heap.size) (x := (o : Int)) (y := n) (f := 0) ((bx.set_ 0 (.int .i64 (o : Int))).set_ 1 (.int .i64 n)) rfl rfl) rfl ⟨by rw [HF.out], ?_⟩
          exact (by repeat (first | exact hbV | refine Below.setCell ?_ (by first | omega | (simp <;> omega)) _ | refine Below.alloc ?_ (by first | omega | (simp <;> omega)) _ | refine Below.drew ?_))
        · have e1 := str_neB he
          have HF := Lib.hid (HL3.out he)
          clear HL2 HL3 he
          go_wp2
          refine bodyPost_ret (ri_ret (g := w.heap.size) (x := 0) (y := 0) (f := 2) ((bx.set_ 0 (.int .i64 0)).set_ 1 (.int .i64 0)) rfl rfl) rfl ⟨by rw [HF.out], ?_⟩
          exact (by repeat (first | exact hbV | refine Below.setCell ?_ (by first | omega | (simp <;> omega)) _ | refine Below.alloc ?_ (by first | omega | (simp <;> omega)) _ | refine Below.drew ?_))
end Go.Proofs.YtgfopieojpjddaaDoor
