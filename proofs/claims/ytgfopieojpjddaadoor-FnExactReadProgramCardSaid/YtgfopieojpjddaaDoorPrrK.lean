/-
  CheckProgram, ReadProgram, in the program.
-/
import Derived.Test.YtgfopieojpjddaaDoorPrrJ
import Derived.Test.YtgfopieojpjddaaDoorPrgJ
import Derived.Test.YtgfopieojpjddaaDoorPrgK
import Derived.Test.YtgfopieojpjddaaDoorGrow
import Derived.Test.YtgfopieojpjddaaDoorInstrS
namespace Go.Proofs.YtgfopieojpjddaaDoor
open Go.RowKit

theorem growF_keep {g L : Nat} {w w' : World} {A : Option Addr} {C : Nat} {ms : List (Int × Int)} (h : GrowF pairF 83 L w A C ms) (hk : LpKeep g w w') (hL : g < L) : GrowF pairF 83 L w' A C ms := by
  rcases h with h | ⟨b, rfl, hb, ow⟩
  · exact .inl h
  · obtain ⟨cur, hc⟩ := ow.cellsF
    have hk2 := hk.rest b _ hc (by omega) (fun cur fz h => by injection h with _ h2 _; exact absurd h2 (by decide))
    refine .inr ⟨b, rfl, hb, ow.same fun k o h1 h2 ho _ => ?_⟩
    obtain rfl : k = b := by omega
    rw [hk2, hc]
theorem growF_below {L : Nat} {w w' : World} {A : Option Addr} {C : Nat} {ms : List (Int × Int)} (h : GrowF pairF 83 L w A C ms) (hb : Below w.heap.size w w') : GrowF pairF 83 L w' A C ms :=
  h.same fun k _ _ ho _ => hb.block k (Array.getElem?_eq_some_iff.1 ho).1
theorem lpAt_grows {L L' g : Nat} {w w' : World} {A : Option Addr} {C : Nat} {st : List Nat} {e : Nat → Nat} {dp : Int} (h : LpAt L g w A C st e dp) (hg : Grows 83 L' w w') : LpAt L g w' A C st e dp := by
  refine ⟨hg.2 g _ h.bx (fun cur fz h => by injection h with _ h2 _; exact absurd h2 (by decide)), ?_⟩
  obtain ⟨lo, hi, h1, h2, h3, h4, h5⟩ := h.row.own
  have hs : ∀ k, lo ≤ k → k < hi → w'.heap[k]? = w.heap[k]? := fun k k1 k2 => by
    obtain ⟨cur, hc⟩ := h5 k k1 k2
    rw [hc]
    exact hg.2 k _ hc (fun cur fz h => by injection h with _ h2 _; exact absurd h2 (by decide))
  refine ⟨h.row.gl, lo, hi, h1, Nat.le_trans h2 hg.1.size, h3, ⟨ownsRow_same h4.row fun k hk => ?_, h4.top, h4.len⟩, fun k k1 k2 => ?_⟩
  · have := h4.lo_le hk
    exact hs k this.1 this.2.1
  · rw [hs k k1 k2]; exact h5 k k1 k2
theorem ownF_one (w : World) (x : Int × Int) : OwnF pairF 83 (w.alloc (.cells #[.int .i64 x.1, .int .i64 x.2] 83)) w.heap.size (w.heap.size + 1) (.slice (some ⟨w.heap.size, 0, none⟩) 1 1) [x] :=
  ownF_row (F := pairF) (row_new 83 2 w #[.int .i64 x.1, .int .i64 x.2] 1 rfl (by omega)) rfl (by simp)

set_option maxRecDepth 100000 in
set_option maxHeartbeats 8000000 in
theorem readLines_any (a : Option Addr) (c : Nat) (l : List ByteArray) (w : World) (ha : RdF textF w a l) (hz : ∀ s ∈ l, s.size ≤ 1048576) (hl : l.length ≤ 120) (hD : PrDoor w) :
    Calls Tryd.prog 61 #[.slice a l.length c] w (ReadPost l w) := by
  obtain ⟨Z, hZ⟩ : ∃ Z, Z = lpC (.slice none 0 0) (fun _ => 0) 0 := ⟨_, rfl⟩
  have hzv := lp_zero
  rw [← hZ] at hzv
  have HZ := Lib.hid hZ
  clear hZ
  go_enter Tryd.func61, Tryd.ntmps61
  go_wp2
  obtain ⟨V, hV⟩ : ∃ V, V = w.alloc (.cells Z 146) := ⟨_, rfl⟩
  have hbV : Below w.heap.size w V := by rw [hV]; exact (Below.refl _ _).alloc (Nat.le_refl _) _
  have bL : Bx V w.heap.size 146 Z := by rw [hV]; exact Bx.new _ _ _
  have hVs : V.heap.size = w.heap.size + 1 := by rw [hV]; simp
  rw [← hV]
  clear hV
  go_loopw [6, 13] (fun q i wr => ∃ (j : Nat) (A : Option Addr) (C : Nat) (st : List Nat) (e : Nat → Nat) (d : Int) (B : Option Addr) (D : Nat) (acc : List (Int × Int)), j ≤ l.length ∧ i = .int .i64 j ∧ q = .slice B j D ∧ st.length ≤ 4 ∧ acc.length = j ∧ LpAt (w.heap.size + 1) w.heap.size wr A C st e d ∧ GrowF pairF 83 (w.heap.size + 1) wr B D acc ∧
    Below w.heap.size w wr ∧ w.heap.size + 1 ≤ wr.heap.size ∧ Hid (rdF 0 0 l [] = rdF st.length j (l.drop j) acc ∧ ∀ i ∈ st, i < j)) (fun _ i _ => l.length - (intOf i).toNat)
  case atStart => exact ⟨0, none, 0, [], fun _ => 0, 0, none, 0, [], Nat.zero_le _, rfl, rfl, by simp, rfl, ⟨by rw [HZ.out] at bL; exact bL, OpnR.nil (by omega) (by omega)⟩, growF_nil _ _ _ _, hbV, by omega, Lib.hid ⟨rfl, fun i hi => by cases hi⟩⟩
  case round =>
    clear bL hbV hVs
    obtain ⟨j, A, C, st, e, d, B, D, acc, hj, rfl, rfl, hs4, hacc, hlp, gr, hb, hsz, HI⟩ := hrel
    have hs := hb.size
    by_cases hlt : j < l.length
    · obtain ⟨b, off, rfl, p0⟩ := (ha.below hb).atT hlt
      have hsb := hz _ (elt_mem (F := textF) hlt)
      have HN := Lib.hid (HI.out.1.trans (rdF_drop hlt))
      have HJ := Lib.hid HI.out.2
      clear HI
      generalize elt textF l j = s at *
      go_wp2_with fail
      refine (readInstr_any s wr hsb (prDoor_below hD hb)).mono ?_
      rintro e1 w2 ⟨rfl, hb2⟩
      have hbw := hb.trans (hb2.mono hs)
      replace hlp := hlp.below hb2
      replace gr := growF_below gr hb2
      have hs2 := hbw.size
      have hs3 := hb2.size
      obtain ⟨x, hx⟩ : ∃ x, x = (lnR s).1 := ⟨_, rfl⟩
      obtain ⟨f, hf⟩ : ∃ f, f = (lnR s).2 := ⟨_, rfl⟩
      have HX := Lib.hid (show lnR s = (x, f) by rw [hx, hf])
      rw [← hx, ← hf]
      clear hx hf p0 hb2 hb hs
      by_cases h0 : f = 0
      · subst h0
        go_wp2_with fail
        obtain ⟨W3, hW3⟩ : ∃ W3, W3 = w2.alloc (.cells #[.int .i64 x.1, .int .i64 x.2] 83) := ⟨_, rfl⟩
        have hb3 : Below w2.heap.size w2 W3 := by rw [hW3]; exact (Below.refl _ _).alloc (Nat.le_refl _) _
        have bi : Bx W3 w2.heap.size 83 #[.int .i64 x.1, .int .i64 x.2] := by rw [hW3]; exact Bx.new _ _ _
        rw [← hW3]
        clear hW3
        replace hlp := hlp.below hb3
        replace gr := growF_below gr hb3
        replace hbw := hbw.trans (hb3.mono hs2)
        have hs5 := hb3.size
        clear hb3
        cases h3 : opnB x.1 with
        | true =>
          by_cases h4 : st.length < 4
          · have HM := Lib.hid (show rdF 0 0 l [] = rdF (j :: st).length (j + 1) (l.drop (j + 1)) (acc ++ [x]) ∧ ∀ i ∈ (j :: st), i < j + 1 from ⟨HN.out.trans (rdF_open HX.out h3 h4), fun i hi => by
              rcases List.mem_cons.1 hi with rfl | hi
              · omega
              · have := HJ.out i hi; omega⟩)
            refine (follow_open (w.heap.size + 1) w.heap.size j x A C st e d W3 hlp (by omega) h3 h4).mono ?_
            rintro e1 W4 ⟨rfl, ⟨A', C', hlp4⟩, hk⟩
            clear h3 HN HJ hlp
            replace bi : Bx W4 w2.heap.size 83 #[.int .i64 x.1, .int .i64 x.2] := hk.rest _ _ bi (by omega) (fun cur fz h => by injection h with _ h2 _; exact absurd h2 (by decide))
            replace gr := growF_keep gr hk (by omega)
            replace hbw := hbw.trans hk.bel
            have hk4 := hk.bel.size
            have i0 := bi.at_ 0 rfl
            have i1 := bi.at_ 1 rfl
            have hs4w := bi.lt
            have gr5 : GrowF pairF 83 (w.heap.size + 1) (W4.alloc (.cells #[.int .i64 x.1, .int .i64 x.2] 83)) B D acc := growF_below gr ((Below.refl _ _).alloc (Nat.le_refl _) _)
            have hlp5 := hlp4.below ((Below.refl W4.heap.size W4).alloc (Nat.le_refl _) (.cells #[.int .i64 x.1, .int .i64 x.2] 83))
            have hbw5 := hbw.alloc hbw.size (.cells #[.int .i64 x.1, .int .i64 x.2] 83)
            have ow1 := ownF_one W4 x
            try simp only at ow1
            go_wp2_with (at_builtin; refine wpList_appGrow pairF rfl (.tmp 32) (.tmp 34) 29 83 rfl (.agg #[.int .i64 0, .int .i64 0]) 16 Tryd.underlying29 info_Instr rfl (by omega) (by rw [hacc]; rfl) gr5 (by simp; omega) rfl ow1 (by omega) ?_; intro B' D' w6 gr6 hg6)
            go_roundw
            case rel => exact ⟨j + 1, A', C', j :: st, e, _, B', D', acc ++ [x], by omega, by go_num, rfl, by first | exact hs4 | (simp at hs4 ⊢; omega) | (simp; omega), by simp [hacc], lpAt_grows hlp5 hg6, gr6, hbw5.trans (hg6.1.mono (by omega)), by have := hg6.1.size; simp at this; omega, HM⟩
            case measure => (simp [intOf]) <;> omega
          · have HM := Lib.hid (HN.out.trans (rdF_deep HX.out h3 h4))
            refine (follow_deep (w.heap.size + 1) w.heap.size j x A C st e d W3 hlp h3 (by omega)).mono ?_
            rintro e1 W4 ⟨rfl, hk⟩
            clear h3 HN HJ
            replace hbw := hbw.trans (hk.mono hbw.size)
            go_wp2
            exact bodyPost_ret (v := .tuple #[.slice none 0 0, .int .i64 (j : Int), .int .i64 5]) (by simp [results, Tryd.results61, go_sem]) rfl (readPost_bad HM.out hbw)
        | false =>
          by_cases h5 : x.1 = 10
          · obtain ⟨op, n⟩ := x
            simp only at h5
            subst h5
            simp only at *
            cases st with
            | nil =>
              have HM := Lib.hid (HN.out.trans (rdF_loose HX.out rfl))
              refine (follow_loose (w.heap.size + 1) w.heap.size j n A C e d W3 hlp).mono ?_
              rintro e1 W4 ⟨rfl, hk⟩
              clear h3 HN HJ
              replace hbw := hbw.trans (hk.mono hbw.size)
              go_wp2
              exact bodyPost_ret (v := .tuple #[.slice none 0 0, .int .i64 (j : Int), .int .i64 4]) (by simp [results, Tryd.results61, go_sem]) rfl (readPost_bad HM.out hbw)
            | cons top st =>
              have htop := HJ.out top (by simp)
              have HM := Lib.hid (show rdF 0 0 l [] = rdF st.length (j + 1) (l.drop (j + 1)) (acc ++ [((10 : Int), n)]) ∧ ∀ i ∈ st, i < j + 1 from ⟨HN.out.trans (rdF_end HX.out rfl (by simp)), fun i hi => by have := HJ.out i (by simp [hi]); omega⟩)
              refine (follow_end (w.heap.size + 1) w.heap.size j top n A C st e d W3 hlp (by omega)).mono ?_
              rintro e1 W4 ⟨rfl, hlp4, hk⟩
              clear h3 HN HJ hlp
              replace bi : Bx W4 w2.heap.size 83 #[.int .i64 10, .int .i64 n] := hk.rest _ _ bi (by omega) (fun cur fz h => by injection h with _ h2 _; exact absurd h2 (by decide))
              replace gr := growF_keep gr hk (by omega)
              replace hbw := hbw.trans hk.bel
              have hk4 := hk.bel.size
              have i0 := bi.at_ 0 rfl
              have i1 := bi.at_ 1 rfl
              have hs4w := bi.lt
              have gr5 : GrowF pairF 83 (w.heap.size + 1) (W4.alloc (.cells #[.int .i64 10, .int .i64 n] 83)) B D acc := growF_below gr ((Below.refl _ _).alloc (Nat.le_refl _) _)
              have hlp5 := hlp4.below ((Below.refl W4.heap.size W4).alloc (Nat.le_refl _) (.cells #[.int .i64 10, .int .i64 n] 83))
              have hbw5 := hbw.alloc hbw.size (.cells #[.int .i64 10, .int .i64 n] 83)
              have ow1 := ownF_one W4 ((10 : Int), n)
              try simp only at ow1
              go_wp2_with (at_builtin; refine wpList_appGrow pairF rfl (.tmp 32) (.tmp 34) 29 83 rfl (.agg #[.int .i64 0, .int .i64 0]) 16 Tryd.underlying29 info_Instr rfl (by omega) (by rw [hacc]; rfl) gr5 (by simp; omega) rfl ow1 (by omega) ?_; intro B' D' w6 gr6 hg6)
              go_roundw
              case rel => exact ⟨j + 1, A, C, st, _, d, B', D', acc ++ [((10 : Int), n)], by omega, by go_num, rfl, by first | exact hs4 | (simp at hs4 ⊢; omega) | (simp; omega), by simp [hacc], lpAt_grows hlp5 hg6, gr6, hbw5.trans (hg6.1.mono (by omega)), by have := hg6.1.size; simp at this; omega, HM⟩
              case measure => (simp [intOf]) <;> omega
          · have HM := Lib.hid (show rdF 0 0 l [] = rdF st.length (j + 1) (l.drop (j + 1)) (acc ++ [x]) ∧ ∀ i ∈ st, i < j + 1 from ⟨HN.out.trans (rdF_plain HX.out h3 h5), fun i hi => by have := HJ.out i hi; omega⟩)
            refine (follow_plain (w.heap.size + 1) w.heap.size j x A C st e d W3 hlp h3 h5).mono ?_
            rintro e1 W4 ⟨rfl, hk⟩
            clear h3 HN HJ
            replace bi := bi.below hk
            replace gr := growF_below gr hk
            replace hlp := hlp.below hk
            have hk4 := hk.size
            replace hbw := hbw.trans (hk.mono hbw.size)
            have hlp4 := hlp
            have i0 := bi.at_ 0 rfl
            have i1 := bi.at_ 1 rfl
            have hs4w := bi.lt
            have gr5 : GrowF pairF 83 (w.heap.size + 1) (W4.alloc (.cells #[.int .i64 x.1, .int .i64 x.2] 83)) B D acc := growF_below gr ((Below.refl _ _).alloc (Nat.le_refl _) _)
            have hlp5 := hlp4.below ((Below.refl W4.heap.size W4).alloc (Nat.le_refl _) (.cells #[.int .i64 x.1, .int .i64 x.2] 83))
            have hbw5 := hbw.alloc hbw.size (.cells #[.int .i64 x.1, .int .i64 x.2] 83)
            have ow1 := ownF_one W4 x
            try simp only at ow1
            go_wp2_with (at_builtin; refine wpList_appGrow pairF rfl (.tmp 32) (.tmp 34) 29 83 rfl (.agg #[.int .i64 0, .int .i64 0]) 16 Tryd.underlying29 info_Instr rfl (by omega) (by rw [hacc]; rfl) gr5 (by simp; omega) rfl ow1 (by omega) ?_; intro B' D' w6 gr6 hg6)
            go_roundw
            case rel => exact ⟨j + 1, A, C, st, e, d, B', D', acc ++ [x], by omega, by go_num, rfl, by first | exact hs4 | (simp at hs4 ⊢; omega) | (simp; omega), by simp [hacc], lpAt_grows hlp5 hg6, gr6, hbw5.trans (hg6.1.mono (by omega)), by have := hg6.1.size; simp at this; omega, HM⟩
            case measure => (simp [intOf]) <;> omega
      · have HM := Lib.hid (HN.out.trans (rdF_bad HX.out h0))
        have hb0 : (f != 0) = true := by simpa using h0
        have hbx := hbw.alloc hs2 (.cells #[.int .i64 x.1, .int .i64 x.2] 83)
        go_wp2
        exact bodyPost_ret (v := .tuple #[.slice none 0 0, .int .i64 (j : Int), .int .i64 f]) (by simp [results, Tryd.results61, go_sem]) rfl (readPost_bad HM.out hbx)
    · obtain rfl : j = l.length := by omega
      have hc := hlp.bx.at_ 0 (lpC_0 _ _ _)
      have h2 := HI.out.1
      rw [List.drop_length] at h2
      rcases Nat.eq_zero_or_pos st.length with hd0 | hd0
      · rw [hd0] at hc h2
        have HM := Lib.hid (h2.trans rdF_done)
        clear h2
        go_wp2
        refine bodyPost_ret (v := .tuple #[.slice B l.length D, .int .i64 (-1), .int .i64 0]) (by simp [results, Tryd.results61, go_sem]) rfl ?_
        unfold ReadPost
        rw [HM.out]
        have ow := gr.own hsz
        exact ⟨B, D, by rw [hacc], ow.wide (by omega) (Nat.le_refl _), hb⟩
      · have HM := Lib.hid (h2.trans (rdF_left (by omega)))
        have hd1 : (0 : Int) < (st.length : Int) := by omega
        have hd2 : decide ((st.length : Int) > 0) = true := decide_eq_true hd1
        clear h2
        go_wp2
        exact bodyPost_ret (v := .tuple #[.slice none 0 0, .int .i64 (l.length : Int), .int .i64 3]) (by simp [results, Tryd.results61, go_sem]) rfl (readPost_bad HM.out hb)

set_option maxRecDepth 100000 in
set_option maxHeartbeats 4000000 in
theorem implCheckProgram (a : Option Addr) (c : Nat) (l : List ByteArray) (w : World) (ha : RdF textF w a l) (hz : ∀ s ∈ l, s.size ≤ 1048576) (hD : PrDoor w) :
    Calls Tryd.prog 15 #[.slice a l.length c] w fun e w' => e = .returned (.tuple #[.int .i64 (chR l).1, .int .i64 (chR l).2.1, .int .i64 (chR l).2.2]) ∧ Below w.heap.size w w' := by
  have hx := ha.len
  by_cases hn : 120 < l.length
  · have HF := Lib.hid (show chR l = (0, 0, 5) by rw [chR, if_pos hn])
    have h1 : (120 : Int) < (l.length : Int) := by omega
    have h2 : decide ((l.length : Int) > 120) = true := decide_eq_true (by omega)
    go_enter Tryd.func15, Tryd.ntmps15
    go_wp2
    exact bodyPost_ret (v := .tuple #[.int .i64 0, .int .i64 0, .int .i64 5]) (by simp [results, Tryd.results15, go_sem]) rfl ⟨by rw [HF.out], Below.refl _ _⟩
  · have HF := Lib.hid (show chR l = ((rdF 0 0 l []).2.1, (rdF 0 0 l []).2.2, 0) by rw [chR, if_neg hn])
    have h1 : ¬ (120 : Int) < (l.length : Int) := by omega
    have h2 : decide ((l.length : Int) > 120) = false := decide_eq_false (by omega)
    go_enter Tryd.func15, Tryd.ntmps15
    go_wp2_with fail
    refine (readLines_any a c l w ha hz (by omega) hD).mono ?_
    rintro e w1 ⟨A, C, rfl, ow, hb⟩
    generalize rdF 0 0 l [] = r at *
    go_wp2
    exact bodyPost_ret (v := .tuple #[.int .i64 r.2.1, .int .i64 r.2.2, .int .i64 0]) (by simp [results, Tryd.results15, go_sem]) rfl ⟨by rw [HF.out], hb⟩

set_option maxRecDepth 100000 in
set_option maxHeartbeats 4000000 in
theorem implReadProgram (a : Option Addr) (c : Nat) (l : List ByteArray) (w : World) (ha : RdF textF w a l) (hz : ∀ s ∈ l, s.size ≤ 1048576) (hD : PrDoor w) :
    Calls Tryd.prog 18 #[.slice a l.length c] w fun e w' => ∃ A C, e = .returned (.tuple #[.slice A (rpR l).1.length C, .int .i64 (rpR l).2]) ∧
      OwnF pairF 83 w' w.heap.size w'.heap.size (.slice A (rpR l).1.length C) (rpR l).1 ∧ Below w.heap.size w w' := by
  have hx := ha.len
  by_cases hn : 120 < l.length
  · have HF := Lib.hid (show rpR l = ([], 5) by rw [rpR, if_pos hn])
    have h1 : (120 : Int) < (l.length : Int) := by omega
    have h2 : decide ((l.length : Int) > 120) = true := decide_eq_true (by omega)
    go_enter Tryd.func18, Tryd.ntmps18
    go_wp2
    rw [HF.out]
    exact bodyPost_ret (v := .tuple #[.slice none 0 0, .int .i64 5]) (by simp [results, Tryd.results18, go_sem]) rfl ⟨none, 0, rfl, ownF_nil _ _ _ _ _, Below.refl _ _⟩
  · have HF := Lib.hid (show rpR l = if ¬ (rdF 0 0 l []).2.2 = 0 then ([], 7) else ((rdF 0 0 l []).1, 0) by rw [rpR, if_neg hn])
    have h1 : ¬ (120 : Int) < (l.length : Int) := by omega
    have h2 : decide ((l.length : Int) > 120) = false := decide_eq_false (by omega)
    go_enter Tryd.func18, Tryd.ntmps18
    go_wp2_with fail
    refine (readLines_any a c l w ha hz (by omega) hD).mono ?_
    rintro e w1 ⟨A, C, rfl, ow, hb⟩
    generalize rdF 0 0 l [] = r at *
    obtain ⟨xs, p, f⟩ := r
    simp only at *
    by_cases hf : f = 0
    · have HG := Lib.hid (HF.out.trans (if_neg (by simpa using hf)))
      subst hf
      go_wp2
      rw [HG.out]
      exact bodyPost_ret (v := .tuple #[.slice A xs.length C, .int .i64 0]) (by simp [results, Tryd.results18, go_sem]) rfl ⟨A, C, rfl, ow, hb⟩
    · have HG := Lib.hid (HF.out.trans (if_pos hf))
      have hfb : (f != 0) = true := by simpa using hf
      go_wp2
      rw [HG.out]
      exact bodyPost_ret (v := .tuple #[.slice none 0 0, .int .i64 7]) (by simp [results, Tryd.results18, go_sem]) rfl ⟨none, 0, rfl, ownF_nil _ _ _ _ _, hb⟩
end Go.Proofs.YtgfopieojpjddaaDoor
