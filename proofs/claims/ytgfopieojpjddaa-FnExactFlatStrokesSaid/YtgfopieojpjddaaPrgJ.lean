/-
  Programs: follow.
-/
import Derived.Test.YtgfopieojpjddaaPrgI
import Derived.Deep.Cut
namespace Go.Proofs.Ytgfopieojpjddaa
open Go.RowKit

theorem info_i64 : (Try.prog.info? 2).map (fun i => (i.zero, i.size, i.bytes)) = some (some (.int .i64 0), 1, 8) := by kernel_rfl

/-- What the record of loops says. -/
structure LpAt (L g : Nat) (w : World) (A : Option Addr) (C : Nat) (st : List Nat) (e : Nat → Nat) (dp : Int) : Prop where
  bx : Bx w g 46 (lpC (.slice A st.length C) e dp)
  row : OpnR L g w A C st
theorem LpAt.below {L g : Nat} {w w' : World} {A : Option Addr} {C : Nat} {st : List Nat} {e : Nat → Nat} {dp : Int} (h : LpAt L g w A C st e dp) (hb : Below w.heap.size w w') : LpAt L g w' A C st e dp :=
  ⟨h.bx.below hb, h.row.below hb⟩

set_option maxRecDepth 100000 in
set_option maxHeartbeats 4000000 in
/-- An 'end' without a loop. -/
theorem follow_loose (L g : Nat) (k : Nat) (n : Int) (A : Option Addr) (C : Nat) (e : Nat → Nat) (dp : Int) (w : World) (h : LpAt L g w A C [] e dp) :
    Calls Try.prog 42 #[.pointer (some ⟨g, 0, none⟩), .int .i64 (k : Int), .agg #[.int .i64 10, .int .i64 n]] w fun x w' => x = .returned (.int .i64 4) ∧ Below w.heap.size w w' := by
  have c0 := h.bx.at_ 0 (lpC_0 _ _ _)
  simp only [List.length_nil] at c0
  have hlt := h.bx.lt
  go_enter Try.func42, Try.ntmps42
  go_wp2
  go_ret
  exact ⟨rfl, (by repeat (first | exact Below.refl _ _ | refine Below.setCell ?_ (by first | omega | (simp <;> omega)) _ | refine Below.alloc ?_ (by first | omega | (simp <;> omega)) _ | refine Below.drew ?_))⟩

set_option maxRecDepth 100000 in
set_option maxHeartbeats 4000000 in
/-- An instruction that is no part of a loop. -/
theorem follow_plain (L g : Nat) (k : Nat) (x : Int × Int) (A : Option Addr) (C : Nat) (st : List Nat) (e : Nat → Nat) (dp : Int) (w : World) (h : LpAt L g w A C st e dp) (ho : opnB x.1 = false) (he : ¬ x.1 = 10) :
    Calls Try.prog 42 #[.pointer (some ⟨g, 0, none⟩), .int .i64 (k : Int), .agg #[.int .i64 x.1, .int .i64 x.2]] w fun y w' => y = .returned (.int .i64 0) ∧ Below w.heap.size w w' := by
  have c0 := h.bx.at_ 0 (lpC_0 _ _ _)
  have hlt := h.bx.lt
  have hd : decide (x.1 = 10) = false := decide_eq_false he
  have hn : st.length ≤ 1000000000 := by
    obtain ⟨lo, hi, _, _, _, h4, _⟩ := h.row.own
    have := h4.len; rwa [stL_len] at this
  have HB := Lib.hid (show ∀ W : World, Calls Try.prog 34 #[.agg #[.int .i64 x.1, .int .i64 x.2]] W fun e w' => e = .returned (.bool false) ∧ Below W.heap.size W w' from fun W => by rw [← ho]; exact begins_any x W)
  clear h ho
  go_enter Try.func42, Try.ntmps42
  go_wp2_with fail
  obtain ⟨V, hV⟩ : ∃ V, V = w.alloc (.cells #[.int .i64 x.1, .int .i64 x.2] 41) := ⟨_, rfl⟩
  have hbV : Below w.heap.size w V := by rw [hV]; exact (Below.refl _ _).alloc (Nat.le_refl _) _
  have bV : Bx V w.heap.size 41 #[.int .i64 x.1, .int .i64 x.2] := by rw [hV]; exact Bx.new _ _ _
  rw [← hV]
  clear hV
  refine (HB.out V).mono ?_
  rintro e1 w1 ⟨rfl, hb1⟩
  replace bV := bV.below hb1
  have v0 := bV.at_ 0 rfl
  have v1 := bV.at_ 1 rfl
  replace hbV := hbV.trans (hb1.mono hbV.size)
  go_wp2_with fail
  refine (HB.out w1).mono ?_
  rintro e1 w2 ⟨rfl, hb2⟩
  replace hbV := hbV.trans (hb2.mono hbV.size)
  go_wp2
  go_ret
  exact ⟨rfl, hbV⟩

set_option maxRecDepth 100000 in
set_option maxHeartbeats 4000000 in
/-- A loop that is too deep. -/
theorem follow_deep (L g : Nat) (k : Nat) (x : Int × Int) (A : Option Addr) (C : Nat) (st : List Nat) (e : Nat → Nat) (dp : Int) (w : World) (h : LpAt L g w A C st e dp) (ho : opnB x.1 = true) (hl : st.length = 4) :
    Calls Try.prog 42 #[.pointer (some ⟨g, 0, none⟩), .int .i64 (k : Int), .agg #[.int .i64 x.1, .int .i64 x.2]] w fun y w' => y = .returned (.int .i64 5) ∧ Below w.heap.size w w' := by
  have c0 := h.bx.at_ 0 (lpC_0 _ _ _)
  have hlt := h.bx.lt
  have hd : decide (x.1 = 10) = false := decide_eq_false (by have := opnB_t ho; omega)
  rw [hl] at c0
  have HB := Lib.hid (show ∀ W : World, Calls Try.prog 34 #[.agg #[.int .i64 x.1, .int .i64 x.2]] W fun e w' => e = .returned (.bool true) ∧ Below W.heap.size W w' from fun W => by rw [← ho]; exact begins_any x W)
  have he : ¬ x.1 = 10 := by have := opnB_t ho; omega
  clear h ho hl
  go_enter Try.func42, Try.ntmps42
  go_wp2_with fail
  obtain ⟨V, hV⟩ : ∃ V, V = w.alloc (.cells #[.int .i64 x.1, .int .i64 x.2] 41) := ⟨_, rfl⟩
  have hbV : Below w.heap.size w V := by rw [hV]; exact (Below.refl _ _).alloc (Nat.le_refl _) _
  rw [← hV]
  clear hV
  refine (HB.out V).mono ?_
  rintro e1 w1 ⟨rfl, hb1⟩
  replace hbV := hbV.trans (hb1.mono hbV.size)
  have c1 := kept hbV c0
  go_wp2
  go_ret
  exact ⟨rfl, hbV⟩

set_option maxRecDepth 100000 in
set_option maxHeartbeats 8000000 in
/-- The end of the innermost loop. -/
theorem follow_end (L g : Nat) (k i : Nat) (n : Int) (A : Option Addr) (C : Nat) (st : List Nat) (e : Nat → Nat) (dp : Int) (w : World) (h : LpAt L g w A C (i :: st) e dp) (hi : i < 120) :
    Calls Try.prog 42 #[.pointer (some ⟨g, 0, none⟩), .int .i64 (k : Int), .agg #[.int .i64 10, .int .i64 n]] w fun y w' => y = .returned (.int .i64 0) ∧ LpAt L g w' A C st (updN e i k) dp ∧ LpKeep g w w' := by
  have hlt := h.bx.lt
  have hn : st.length + 1 ≤ 1000000000 := by
    obtain ⟨lo, hi, _, _, _, h4, _⟩ := h.row.own
    have := h4.len; rw [stL_len] at this; simpa using this
  have c0w := h.bx.at_ 0 (lpC_0 _ _ _)
  simp only [List.length_cons] at c0w
  go_enter Try.func42, Try.ntmps42
  go_wp2
  obtain ⟨V, hV⟩ : ∃ V, V = w.alloc (.cells #[.int .i64 10, .int .i64 n] 41) := ⟨_, rfl⟩
  have hbV : Below w.heap.size w V := by rw [hV]; exact (Below.refl _ _).alloc (Nat.le_refl _) _
  have hw := h.below hbV
  have hr := hw.row.pop
  have hC := hw.row.cap
  obtain ⟨b, rfl, ct⟩ := hw.row.top
  have hbx := hw.bx
  have KV : LpKeep g w V := LpKeep.of_below hbV (by omega)
  simp only [List.length_cons] at hbx
  have c0 := hbx.at_ 0 (lpC_0 _ _ _)
  have c1 := hbx.at_ (1 + i) (lpC_e _ _ _ hi)
  have f0 := hbx.thaw 0
  have f1 := hbx.thaw (1 + i)
  have hVs := hbV.size
  rw [← hV]
  obtain ⟨N, hN⟩ : ∃ N, N = st.length + 1 := ⟨_, rfl⟩
  rw [← hN] at c0 hbx ⊢
  have hltN : st.length < N := by omega
  have HN := Lib.hid hN
  clear hN
  have hi' : (i : Int) < 120 := by omega
  have hC2 : st.length ≤ C := by omega
  clear hV h hw c0w
  go_still_tail 12, (by kernel_rfl)
  change wpList _ _ _ _ _ V.drew
  obtain ⟨D, hD⟩ : ∃ D, D = V.drew := ⟨_, rfl⟩
  have bD : Bx D g 46 (lpC (.slice (some ⟨b, 0, none⟩) N C) e dp) := by rw [hD]; exact hbx.drew
  have rD : OpnR L g D (some ⟨b, 0, none⟩) C st := by rw [hD]; exact hr.below (Below.refl _ _).drew
  have KD : LpKeep g w D := by rw [hD]; exact KV.trans (LpKeep.of_below (Below.refl _ _).drew (by omega))
  have c1D := bD.at_ (1 + i) (lpC_e _ _ _ hi)
  have f1D := bD.thaw (1 + i)
  rw [← hD]
  clear hD hbx hr c0 c1 f0 f1 ct KV hbV hVs
  go_upto_region 6 with fail
  obtain ⟨E, hE⟩ : ∃ E, E = D.setCell ⟨g, 1 + i, none⟩ (.int .i64 (k : Int)) := ⟨_, rfl⟩
  have bE : Bx E g 46 (lpC (.slice (some ⟨b, 0, none⟩) N C) (updN e i k) dp) := by rw [hE, ← lpC_setE _ _ _ hi]; exact bD.set_ _ _
  have rE : OpnR L g E (some ⟨b, 0, none⟩) C st := by rw [hE]; exact rD.set _ _
  have KE : LpKeep g w E := by rw [hE]; exact KD.set _ _
  have c0E := bE.at_ 0 (lpC_0 _ _ _)
  have f0E := bE.thaw 0
  rw [← hE]
  clear hE bD rD KD c1D f1D
  go_wp2
  go_ret
  refine ⟨rfl, ⟨?_, rE.set _ _⟩, KE.set _ _⟩
  rw [← lpC_set0 (.slice (some ⟨b, 0, none⟩) N C)]
  exact bE.set_ _ _

set_option maxRecDepth 100000 in
set_option maxHeartbeats 8000000 in
/-- The beginning of a loop. -/
theorem follow_open (L g : Nat) (k : Nat) (x : Int × Int) (A : Option Addr) (C : Nat) (st : List Nat) (e : Nat → Nat) (dp : Int) (w : World) (h : LpAt L g w A C st e dp) (_ : L ≤ w.heap.size) (ho : opnB x.1 = true) (hl : st.length < 4) :
    Calls Try.prog 42 #[.pointer (some ⟨g, 0, none⟩), .int .i64 (k : Int), .agg #[.int .i64 x.1, .int .i64 x.2]] w fun y w' => y = .returned (.int .i64 0) ∧ (∃ A' C', LpAt L g w' A' C' (k :: st) e (max dp ((st.length : Int) + 1))) ∧ LpKeep g w w' := by
  have c0 := h.bx.at_ 0 (lpC_0 _ _ _)
  have hlt := h.bx.lt
  have hd : decide (x.1 = 10) = false := decide_eq_false (by have := opnB_t ho; omega)
  have HB := Lib.hid (show ∀ W : World, Calls Try.prog 34 #[.agg #[.int .i64 x.1, .int .i64 x.2]] W fun e w' => e = .returned (.bool true) ∧ Below W.heap.size W w' from fun W => by rw [← ho]; exact begins_any x W)
  have he : ¬ x.1 = 10 := by have := opnB_t ho; omega
  have n4 : ¬ (st.length : Int) = 4 := by omega
  clear ho
  go_enter Try.func42, Try.ntmps42
  go_wp2_with fail
  obtain ⟨V, hV⟩ : ∃ V, V = w.alloc (.cells #[.int .i64 x.1, .int .i64 x.2] 41) := ⟨_, rfl⟩
  have hbV : Below w.heap.size w V := by rw [hV]; exact (Below.refl _ _).alloc (Nat.le_refl _) _
  have bV : Bx V w.heap.size 41 #[.int .i64 x.1, .int .i64 x.2] := by rw [hV]; exact Bx.new _ _ _
  rw [← hV]
  clear hV
  refine (HB.out V).mono ?_
  rintro e1 w1 ⟨rfl, hb1⟩
  replace bV := bV.below hb1
  have v0 := bV.at_ 0 rfl
  have v1 := bV.at_ 1 rfl
  replace hbV := hbV.trans (hb1.mono hbV.size)
  have c1 := kept hbV c0
  go_wp2_with fail
  refine (HB.out w1).mono ?_
  rintro e1 w2 ⟨rfl, hb2⟩
  replace hbV := hbV.trans (hb2.mono hbV.size)
  replace h := h.below hbV
  clear c0 c1 v0 v1 bV
  have K2 : LpKeep g w w2 := LpKeep.of_below hbV (by omega)
  have hs2 := hbV.size
  have c0 := h.bx.at_ 0 (lpC_0 _ _ _)
  have hg2 := h.bx.lt
  obtain ⟨lo, hi, o1, o2, o3, o4, o5⟩ := h.row.own
  have ow4 := o4.alloc (.cells #[.int .i64 (k : Int)] 2)
  have cn := cell_new1 w2 (.int .i64 (k : Int)) 2
  have hgl := h.row.gl
  go_wp2_with (at_builtin; refine wpList_appI rfl (.tmp 65) (.tmp 67) 34 2 rfl Try.underlying34 info_i64 rfl ow4 (stL_len st) ⟨w2.heap.size, 0, none⟩ 1 (k : Int) rfl cn (by omega) (by simp; omega) ?_; intro A' C' w5 own5 tou5; have b5 := (h.bx.alloc (.cells #[.int .i64 (k : Int)] 2)).touch tou5 (by omega); have f5 := b5.thaw 0; have d5 := b5.at_ 0 (lpC_0 _ _ _))
  have hb2a : Below w2.heap.size w2 (w2.alloc (.cells #[.int .i64 (k : Int)] 2)) := (Below.refl _ _).alloc (Nat.le_refl _) _
  have K5 : LpKeep g w w5 := (K2.trans (LpKeep.of_below hb2a (by omega))).trans (LpKeep.of_touch tou5 (by omega) (by simp; omega) fun j j1 j2 => by
    obtain ⟨cur, hc⟩ := o5 j j1 j2
    exact ⟨cur, (hb2a.block j (Array.getElem?_eq_some_iff.1 hc).1).trans hc⟩)
  have r5 : OpnR L g w5 A' C' (k :: st) := h.row.push o1 own5
  have hn5 : st.length + 1 ≤ 1000000000 := by omega
  clear f5 d5 own5 tou5 o4 o5 ow4 cn c0 hb2a K2 hd he
  obtain ⟨E, hE⟩ : ∃ E, E = w5.setCell ⟨g, 0, none⟩ (.slice A' (st.length + 1) C') := ⟨_, rfl⟩
  have bE : Bx E g 46 (lpC (.slice A' (st.length + 1) C') e dp) := by rw [hE, ← lpC_set0 (.slice A st.length C)]; exact b5.set_ _ _
  have rE : OpnR L g E A' C' (k :: st) := by rw [hE]; exact r5.set _ _
  have KE : LpKeep g w E := by rw [hE]; exact K5.set _ _
  rw [← hE]
  clear hE b5 r5 K5 h hb2 hbV hb1
  have c0E := bE.at_ 0 (lpC_0 _ _ _)
  have c1E := bE.at_ 121 (lpC_d _ _ _)
  have f1E := bE.thaw 121
  go_still_tail 13, (by kernel_rfl)
  change wpList _ _ _ _ _ E.drew
  obtain ⟨D, hD⟩ : ∃ D, D = E.drew := ⟨_, rfl⟩
  have bD : Bx D g 46 (lpC (.slice A' (st.length + 1) C') e dp) := by rw [hD]; exact bE.drew
  have hgE := bE.lt
  have rD : OpnR L g D A' C' (k :: st) := by rw [hD]; exact rE.below (Below.refl _ _).drew
  have KD : LpKeep g w D := by rw [hD]; exact KE.trans (LpKeep.of_below (Below.refl _ _).drew (by omega))
  have c1D := bD.at_ 121 (lpC_d _ _ _)
  have f1D := bD.thaw 121
  rw [← hD]
  clear hD bE rE KE c0E c1E f1E
  go_wp2
  all_goals
    go_ret
    refine ⟨rfl, ⟨A', C', ⟨?_, rD.set _ _⟩⟩, KD.set _ _⟩
    first
      | (have q := bD.set_ 121 (.int .i64 ((st.length : Int) + 1)); rw [lpC_setD] at q; rw [show max dp ((st.length : Int) + 1) = (st.length : Int) + 1 by omega]; exact q)
      | (have q := bD.set_ 121 (.int .i64 dp); rw [lpC_setD] at q; rw [show max dp ((st.length : Int) + 1) = dp by omega]; exact q)
end Go.Proofs.Ytgfopieojpjddaa
