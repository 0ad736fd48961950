/-
  laws.FnCounted returns true at every input (no condition, but the texts of the library's tables, which the card ties), and leaves its arguments as they were.
-/
import Derived.Test.YtlahobdopmdfmaaDoorCntQ4
import Derived.Test.YtlahobdopmdfmaaDoorDoorFrame
import Derived.Test.YtlahobdopmdfmaaDoorFacts
import Derived.Test.YtlahobdopmdfmaaDoorRows
import Derived.Lay
import Derived.Deep.Cut
import Derived.Deep.CutRange
namespace Go.Proofs.YtlahobdopmdfmaaDoor.lawFnCounted
open Go.ChangeShapes Go.WideShapes Go.ChangeAt Go.WideElems Go.RowKit Go.Joins
open Go.ChangeMaps (open_string shut_string)
open Go.BigFrame

theorem rowErr (u : TypeId) (h : Tryd.prog.typeName? 3 u = some "*errors.errorString") : u = 220 :=
  typeName_ptr_named (nm := "errors.errorString") (by rw [show "*" ++ "errors.errorString" = "*errors.errorString" by decide]; kernel_rfl) (by kernel_rfl) (by decide) u (by rw [show "*" ++ "errors.errorString" = "*errors.errorString" by decide]; exact h)
theorem gVar : Tryd.prog.globalNamed "loop.example/g00930/impl.errBell" = some 0 := by kernel_rfl
theorem tVar : (Tryd.prog.globals[0]?).map (·.type) = some 117 := by kernel_rfl
def Door (w : World) : Prop := BellD w
theorem door_below {w w' : World} (h : Door w) (hb : Below w.heap.size w w') : Door w' := h.below hb
theorem of_laid {W : World} (h : laidMetH Tryd.prog Rows.fnCountedRow.laid W) : Door W := by
  rw [MakeChecks.laidMetH_plain _ _ _ (by kernel_rfl)] at h
  obtain ⟨a, t, hv, _⟩ := laid_sentinel h (g := 0) (ti := 117) (tp := 220) (te := 243) (ts := 9) (by kernel_rfl) (by kernel_rfl) Tryd.underlying117 rowErr Tryd.underlying220 Tryd.underlying243 rfl rfl Tryd.underlying9 (by kernel_rfl) (by kernel_rfl)
  exact ⟨_, by simpa [BellAt, bellV] using World.var?_cell (g := 0) (by kernel_rfl) hv 0⟩

theorem specStroke_at (m : Mac) (A1 : Option Addr) (C1 : Nat) (A2 : Option Addr) (C2 : Nat) (A3 : Option Addr) (C3 : Nat) (k : Int) (w : World) (h : Rd3 w A1 m.z1 A2 m.z2 A3 m.z3) (hm : macB m = true) (hk : I64 k) {x : Mac} {b : Bool} {c : Int} (hd : dsR m k = (x, b, c)) :
    Calls Tryd.prog 18 #[.agg #[.int .i64 m.b1, .slice A1 m.z1.length C1, .int .i64 m.b2, .slice A2 m.z2.length C2, .int .i64 m.b3, .slice A3 m.z3.length C3, .int .i64 m.p], .int .i64 k] w fun e w' => ∃ (A1 : Option Addr) (C1 : Nat) (A2 : Option Addr) (C2 : Nat) (A3 : Option Addr) (C3 : Nat),
      e = .returned (.tuple #[.agg #[.int .i64 x.b1, .slice A1 x.z1.length C1, .int .i64 x.b2, .slice A2 x.z2.length C2, .int .i64 x.b3, .slice A3 x.z3.length C3, .int .i64 x.p], .bool b, .int .i64 c]) ∧ Own3 2 w' w.heap.size w'.heap.size (.slice A1 x.z1.length C1) x.z1 (.slice A2 x.z2.length C2) x.z2 (.slice A3 x.z3.length C3) x.z3 ∧ Below w.heap.size w w' := by
  have := specDoStroke m A1 C1 A2 C2 A3 C3 k w h (mac_wf hm).1 (mac_wf hm).2 hk
  rw [hd] at this
  exact this
theorem implStrokes_at (m : Mac) (A1 : Option Addr) (C1 : Nat) (A2 : Option Addr) (C2 : Nat) (A3 : Option Addr) (C3 : Nat) (a : Option Addr) (c : Nat) (zs : List Int) (w : World) (h : Rd3 w A1 m.z1 A2 m.z2 A3 m.z3) (hm : macB m = true) (ha : Rd w a zs) (hz : All64 zs) (hD : BellD w) {x : Mac} {n k : Int} (hd : dssR m zs = (x, n, k)) :
    Calls Tryd.prog 20 #[.agg #[.int .i64 m.b1, .slice A1 m.z1.length C1, .int .i64 m.b2, .slice A2 m.z2.length C2, .int .i64 m.b3, .slice A3 m.z3.length C3, .int .i64 m.p], .slice a zs.length c] w fun e w' => ∃ (A1 : Option Addr) (C1 : Nat) (A2 : Option Addr) (C2 : Nat) (A3 : Option Addr) (C3 : Nat),
      e = .returned (.tuple #[.agg #[.int .i64 x.b1, .slice A1 x.z1.length C1, .int .i64 x.b2, .slice A2 x.z2.length C2, .int .i64 x.b3, .slice A3 x.z3.length C3, .int .i64 x.p], .int .i64 n, .int .i64 k]) ∧ Own3 2 w' w.heap.size w'.heap.size (.slice A1 x.z1.length C1) x.z1 (.slice A2 x.z2.length C2) x.z2 (.slice A3 x.z3.length C3) x.z3 ∧ Below w.heap.size w w' := by
  have := implDoStrokes m A1 C1 A2 C2 A3 C3 a c zs w h (mac_wf hm).1 (mac_wf hm).2 ha hz hD
  rw [hd] at this
  exact this
theorem valueOf_at (b : Int) (a : Option Addr) (c : Nat) (zs : List Int) (w : World) (ha : Rd w a zs) (ho : okB b zs = true) :
    Calls Tryd.prog 24 #[.agg #[.int .i64 b, .slice a zs.length c]] w fun e w' => e = .returned (.tuple #[.int .i64 (valR b zs), .int .i64 0]) ∧ Below w.heap.size w w' := by
  obtain ⟨b0, b1, _, _, hd, _⟩ := okB_spec ho
  have := specValueOf b a c zs w ha (fun d h => by have := hd d h; exact i64_at (by omega) (by omega)) (i64_at (by omega) (by omega))
  rw [show vofR b zs = (valR b zs, 0) by unfold vofR; rw [if_pos ho]] at this
  exact this
theorem run_len (m : Mac) : ∀ l : List Int, 0 ≤ (runM m l).2 ∧ (runM m l).2 ≤ l.length
  | [] => by simp [runM]
  | k :: ks => by
    have ih := run_len (doM m k).1 ks
    unfold runM
    split <;> simp <;> omega
theorem run_ok {m : Mac} (h : macB m = true) : ∀ l : List Int, macB (runM m l).1 = true := by
  intro l
  induction l generalizing m with
  | nil => exact h
  | cons k ks ih =>
    unfold runM
    split
    · exact doM_ok h k
    · exact ih (doM_ok h k)
/-- Where the strokes have come to. -/
def At (m : Mac) (l : List Int) (k : Nat) (y : Mac) : Prop := (RunTo m l k y ∧ (k : Int) ≤ (runM m l).2) ∨ ((k : Int) = (runM m l).2 ∧ y = (runM m l).1)
theorem at_zero {m : Mac} (h : macB m = true) (l : List Int) : At m l 0 m := .inl ⟨runTo_zero h l, (run_len m l).1⟩
theorem at_step {m : Mac} {l : List Int} {k : Nat} {y : Mac} (h : At m l k y) (hk : (k : Int) < (runM m l).2) :
    At m l (k + 1) (doM y (nth l k)).1 ∧ ((doM y (nth l k)).2 = true → ¬ (k : Int) + 1 < (runM m l).2) := by
  rcases h with ⟨h, _⟩ | ⟨h, _⟩
  · have hl : k < l.length := by have := (run_len m l).2; omega
    cases hb : (doM y (nth l k)).2 with
    | true =>
      have e := runTo_bell h hl hb
      rw [e]
      exact ⟨.inr ⟨by rw [e]; simp, by rw [e]⟩, fun _ => by simp⟩
    | false =>
      refine ⟨.inl ⟨runTo_next h hl hb, by omega⟩, fun h => by cases h⟩
  · omega
theorem at_end {m : Mac} {l : List Int} {k : Nat} {y : Mac} (h : At m l k y) (hk : (k : Int) = (runM m l).2) : (runM m l).1 = y := by
  rcases h with ⟨⟨_, h⟩, _⟩ | ⟨_, h⟩
  · rw [h] at hk
    simp only at hk
    rw [h]
    cases hd : l.drop k with
    | nil => rfl
    | cons x xs =>
      rw [hd] at hk
      have := (run_len (doM y x).1 xs).1
      unfold runM at hk
      split at hk
      · simp at hk; omega
      · simp only at hk; omega
  · exact h.symm
/-- The stroke's machine in its box. -/
def ZAt (w : World) (z : Mac) (s : Value) (wx : World) : Prop := ∃ (gz : Nat) (A1 : Option Addr) (C1 : Nat) (A2 : Option Addr) (C2 : Nat) (A3 : Option Addr) (C3 : Nat) (lo hi : Nat), s = .pointer (some ⟨gz, 0, none⟩) ∧ Bx wx gz 28 #[.int .i64 z.b1, .slice A1 z.z1.length C1, .int .i64 z.b2, .slice A2 z.z2.length C2, .int .i64 z.b3, .slice A3 z.z3.length C3, .int .i64 z.p] ∧ Own3 2 wx lo hi (.slice A1 z.z1.length C1) z.z1 (.slice A2 z.z2.length C2) z.z2 (.slice A3 z.z3.length C3) z.z3 ∧ Below w.heap.size w wx ∧ w.heap.size ≤ lo ∧ hi ≤ wx.heap.size ∧ w.heap.size ≤ gz

set_option maxRecDepth 100000 in
set_option maxHeartbeats 8000000 in
theorem law_walk (xA : Option Addr) (xC : Nat) (xZ : List Int) (yA : Option Addr) (yC : Nat) (yZ : List Int) (w : World) (hx : RawU w xA xZ) (hy : RawU w yA yZ) (hD : Door w) :
    Calls Tryd.prog 3 #[.slice xA xZ.length xC, .slice yA yZ.length yC] w fun e w' => e = .returned (.bool true) ∧ Below w.heap.size w w' := by
  have hbel : Below w.heap.size w w := Below.refl _ _
  go_enter Tryd.func3, Tryd.ntmps3
  go_wp2_with fail
  refine (a2Long_any xA yA xZ.length yZ.length xC yC w).mono ?_
  rintro e w1 ⟨rfl, hq⟩
  subst w1
  by_cases hl : 3000 < xZ.length ∨ 3000 < yZ.length
  · rw [decide_eq_true hl]
    clear hl
    go_wp2
    go_ret
    exact ⟨rfl, hbel⟩
  rw [decide_eq_false hl]
  replace hx := hx.rd (by omega)
  replace hy := hy.rd (by omega)
  clear hl
  go_wp2_with fail
  refine (a2Machine_any xA xZ xC w hx).mono ?_
  rintro e w1 ⟨m0, A1, C1, A2, C2, A3, C3, rfl, dm0, ow, hb⟩
  have rm := ow.rd
  clear hx ow
  replace hD : Door w1 := door_below hD hb
  replace hy := hy.below hb
  replace hbel := hbel.trans (hb.mono hbel.size)
  clear hb
  have hm0 := dm0.ok
  have HC := Lib.hid (cnt_zero dm0)
  obtain ⟨m, hm⟩ : ∃ m, m = (doM m0 5).1 := ⟨_, rfl⟩
  have hds : dsR m0 5 = (m, false, 0) := by rw [dsR, if_pos hm0, if_pos ⟨by omega, by omega⟩, hm]; simp [doM]
  rw [← hm] at HC
  have hmm : macB m = true := HC.out.dr.ok
  clear hm dm0
  have i5 : I64 5 := i64_at (by omega) (by omega)
  go_upto_region 4 with fail
  obtain ⟨gm, hgm⟩ : ∃ g, g = w1.heap.size := ⟨_, rfl⟩
  obtain ⟨v1, hV⟩ : ∃ V, V = w1.alloc (.cells #[.int .i64 m0.b1, .slice A1 m0.z1.length C1, .int .i64 m0.b2, .slice A2 m0.z2.length C2, .int .i64 m0.b3, .slice A3 m0.z3.length C3, .int .i64 m0.p] 28) := ⟨_, rfl⟩
  try rw [← hgm, ← hV]
  have bm : Bx v1 gm 28 #[.int .i64 m0.b1, .slice A1 m0.z1.length C1, .int .i64 m0.b2, .slice A2 m0.z2.length C2, .int .i64 m0.b3, .slice A3 m0.z3.length C3, .int .i64 m0.p] := by rw [hV, hgm]; exact Bx.new _ _ _
  have hb1 : Below w1.heap.size w1 v1 := by rw [hV]; exact (Below.refl _ _).alloc (Nat.le_refl _) _
  replace rm := rm.below hb1
  have HGM := Lib.hid (show w1.heap.size ≤ gm by omega)
  clear hV hgm
  have d0 := bm.at_ 0 rfl
  have d1 := bm.at_ 1 rfl
  have d2 := bm.at_ 2 rfl
  have d3 := bm.at_ 3 rfl
  have d4 := bm.at_ 4 rfl
  have d5 := bm.at_ 5 rfl
  have d6 := bm.at_ 6 rfl
  go_wp2_with fail
  refine (specStroke_at m0 A1 C1 A2 C2 A3 C3 5 v1 rm hm0 i5 hds).mono ?_
  rintro e w2 ⟨D1, E1, D2, E2, D3, E3, rfl, ow, hb⟩
  clear d0 d1 d2 d3 d4 d5 d6
  have hgl := bm.lt
  replace bm := bm.below hb
  replace hb1 := hb1.trans (hb.mono hb1.size)
  clear hb rm
  have j0 := bm.at_ 0 rfl
  have j1 := bm.at_ 1 rfl
  have j2 := bm.at_ 2 rfl
  have j3 := bm.at_ 3 rfl
  have j4 := bm.at_ 4 rfl
  have j5 := bm.at_ 5 rfl
  have j6 := bm.at_ 6 rfl
  have f0 := bm.thaw 0
  have f1 := bm.thaw 1
  have f2 := bm.thaw 2
  have f3 := bm.thaw 3
  have f4 := bm.thaw 4
  have f5 := bm.thaw 5
  have f6 := bm.thaw 6
  have hl := bm.lt
  go_upto_region 5 with fail
  obtain ⟨v2, hV⟩ : ∃ V, V = (((((((w2.setCell ⟨gm, 0, none⟩ (.int .i64 m.b1)).setCell ⟨gm, 1, none⟩ (.slice D1 m.z1.length E1)).setCell ⟨gm, 2, none⟩ (.int .i64 m.b2)).setCell ⟨gm, 3, none⟩ (.slice D2 m.z2.length E2)).setCell ⟨gm, 4, none⟩ (.int .i64 m.b3)).setCell ⟨gm, 5, none⟩ (.slice D3 m.z3.length E3)).setCell ⟨gm, 6, none⟩ (.int .i64 m.p)) := ⟨_, rfl⟩
  try rw [← hV]
  have bn : Bx v2 gm 28 #[.int .i64 m.b1, .slice D1 m.z1.length E1, .int .i64 m.b2, .slice D2 m.z2.length E2, .int .i64 m.b3, .slice D3 m.z3.length E3, .int .i64 m.p] := by rw [hV]; exact bx_put7 bm
  have on : Own3 2 v2 v1.heap.size w2.heap.size (.slice D1 m.z1.length E1) m.z1 (.slice D2 m.z2.length E2) m.z2 (.slice D3 m.z3.length E3) m.z3 := by rw [hV]; exact (((((((ow.setCell (p := ⟨gm, 0, none⟩) (.inl hgl) _).setCell (p := ⟨gm, 1, none⟩) (.inl hgl) _).setCell (p := ⟨gm, 2, none⟩) (.inl hgl) _).setCell (p := ⟨gm, 3, none⟩) (.inl hgl) _).setCell (p := ⟨gm, 4, none⟩) (.inl hgl) _).setCell (p := ⟨gm, 5, none⟩) (.inl hgl) _).setCell (p := ⟨gm, 6, none⟩) (.inl hgl) _)
  have HW2 := Lib.hid (show w2.heap.size ≤ v2.heap.size by rw [hV]; simp)
  replace hb1 : Below w1.heap.size w1 v2 := by rw [hV]; have := HGM.out; exact (by repeat (first | with_reducible exact hb1 | with_reducible refine Below.setCell ?_ (by first | omega | (simp <;> omega)) _ | with_reducible refine Below.alloc ?_ (by first | omega | (simp <;> omega)) _ | with_reducible refine Below.drew ?_))
  clear hV ow bm j0 j1 j2 j3 j4 j5 j6 f0 f1 f2 f3 f4 f5 f6 hl hgl
  obtain ⟨G, hG⟩ : ∃ G, G = v2.heap.size := ⟨_, rfl⟩
  obtain ⟨u, hu⟩ : ∃ u, u = v2.alloc (.cells #[] 2) := ⟨_, rfl⟩
  have hbu : Below v2.heap.size v2 u := by rw [hu]; exact (by repeat (first | exact Below.refl _ _ | refine Below.setCell ?_ (by first | omega | (simp <;> omega)) _ | refine Below.alloc ?_ (by first | omega | (simp <;> omega)) _ | refine Below.drew ?_))
  have oq : Own 2 u G (G + 1) (.slice (some ⟨G, 0, none⟩) 0 0) [] := by
    rw [hu, hG]
    exact own_of_row (zs := []) (by simpa using row_new 2 1 v2 #[] 0 (by simp) (by omega)) rfl (by simp)
  have HU := Lib.hid hu
  have HG := Lib.hid hG
  clear hu
  go_wp2_with fail
  rw [← HU.out, ← hG]
  clear hG
  go_loopw [6, 7] (fun o k wr => ∃ (j : Nat) (ds : List Int) (g : Nat) (E : Nat), j ≤ 10 ∧ k = .int .i64 (j : Nat) ∧ ds.length = j ∧ o = .slice (some ⟨g, 0, none⟩) j E ∧ Hid (∀ d ∈ ds, 1 ≤ d ∧ d ≤ 4) ∧ G ≤ g ∧ Own 2 wr g (g + 1) (.slice (some ⟨g, 0, none⟩) j E) ds ∧ Below G v2 wr) (fun _ k _ => 10 - (intOf k).toNat)
  case atStart => exact ⟨0, [], G, 0, Nat.zero_le _, rfl, rfl, rfl, Lib.hid (fun d h => by cases h), Nat.le_refl _, oq, by rw [HG.out]; exact hbu⟩
  case round =>
    clear oq hbu HU
    obtain ⟨j, ds, g, E, hj, rfl, hl, rfl, hd, hg, ow, hbj⟩ := hrel
    have HL := Lib.hid hl
    clear hl
    have hsz := hbj.size
    have hgl := ow.lo_le (k := g) rfl
    by_cases hlt : j < 10
    · go_wp2_with fail
      have hb2 : Below v2.heap.size v2 wr := by rw [← HG.out]; exact hbj
      refine (a2At_any yA yZ yC j 4 wr ((hy.below hb1).below hb2) (by omega) (by omega) (by omega)).mono ?_
      rintro e w3 ⟨z, rfl, z0, z1, hb⟩
      clear hb2
      have v1' : IntKind.i64.wrap (1 + z) = 1 + z := fits_int _ (by omega) (by omega)
      have hl3 := hb.size
      replace ow := ow.below hb
      replace hbj := hbj.trans (hb.mono (by omega))
      clear hb
      have fin : ∀ g' E' w5, (g' = g ∨ g' = (w3.alloc (.cells #[.int .i64 (1 + z)] 2)).heap.size) → Own 2 w5 g' (g' + 1) (.slice (some ⟨g', 0, none⟩) (j + 1) E') (ds ++ [1 + z]) → Touch g (g + 1) (w3.alloc (.cells #[.int .i64 (1 + z)] 2)) w5 →
          G ≤ g' ∧ (∀ d ∈ ds ++ [1 + z], 1 ≤ d ∧ d ≤ 4) ∧ Below G v2 w5 := by
        intro g' E' w5 hg' ow' ht5
        have hgg : g' = g ∨ g' = w3.heap.size + 1 := by simpa using hg'
        have hsz3 := hbj.size
        have hG2 := HG.out
        refine ⟨by omega, ?_, hbj.trans ((((Below.refl _ _).alloc (Nat.le_refl _) _).mono (by omega)).trans (ht5.below hg (by simp; omega)))⟩
        intro d hd'
        rcases List.mem_append.1 hd' with h1 | h1
        · exact hd.out d h1
        · rw [List.mem_singleton] at h1; subst h1; omega
      go_wp2_with (at_builtin; go_must (refine wpList_appAt rfl (.tmp 42) (.tmp 47) 24 2 rfl Tryd.underlying24 info_int64 rfl (ow.alloc _) HL.out ⟨w3.heap.size, 0, none⟩ 1 (1 + z) rfl (cell_new1 w3 _ _) (by omega) (by simp <;> omega) ?_); intro g' E' w5 hg' own5 ht5; have hf := Lib.hid (fin g' E' w5 hg' own5 ht5); clear ht5 hg')
      clear fin
      go_roundw
      case rel => exact ⟨j + 1, ds ++ [1 + z], g', E', by omega, by go_num, by simp [HL.out], rfl, Lib.hid hf.out.2.1, hf.out.1, own5, hf.out.2.2⟩
      case measure => (simp [intOf]) <;> omega
    · obtain rfl : j = 10 := by omega
      have hb2 : Below v2.heap.size v2 wr := by rw [← HG.out]; exact hbj
      have rl : Rd wr (some ⟨g, 0, none⟩) ds := ow.rd
      have hd4 := hd.out
      have l64 : All64 ds := fun d h => by have := hd4 d h; exact i64_at (by omega) (by omega)
      replace bn := bn.below hb2
      replace on := on.below hb2
      have hbw : Below w1.heap.size w1 wr := hb1.trans (hb2.mono hb1.size)
      have HV2 := Lib.hid (show w2.heap.size ≤ wr.heap.size from Nat.le_trans HW2.out hb2.size)
      clear hb1 hb2 hbj ow hy hsz hgl hd
      have hlen := HL.out
      obtain ⟨x, hX⟩ : ∃ x, x = (runM m ds).1 := ⟨_, rfl⟩
      obtain ⟨n, hN⟩ : ∃ n, n = (runM m ds).2 := ⟨_, rfl⟩
      have hdd : dssR m ds = (x, n, 0) := by
        rw [dssR, if_pos hmm, if_pos (by rw [strB, decide_eq_true_eq]; exact fun d h => by have := hd4 d h; omega), if_pos (by omega), ← hX, ← hN]
      have hn := run_len m ds
      rw [← hN, hlen] at hn
      have hn0 : ¬ n < 0 := by omega
      have hn1 : ¬ 10 < n := by omega
      have hxx : macB x = true := by rw [hX]; exact run_ok hmm ds
      have HXN := Lib.hid (show x = (runM m ds).1 ∧ n = (runM m ds).2 from ⟨hX, hN⟩)
      have HD4 := Lib.hid hd4
      have HXX := Lib.hid hxx
      clear hX hN hd4
      have hcon := implStrokes_at m D1 E1 D2 E2 D3 E3 (some ⟨g, 0, none⟩) E ds wr on.rd hmm rl l64 (door_below hD hbw) hdd
      rw [hlen] at hcon
      clear hdd hlen
      have d0 := bn.at_ 0 rfl
      have d1 := bn.at_ 1 rfl
      have d2 := bn.at_ 2 rfl
      have d3 := bn.at_ 3 rfl
      have d4 := bn.at_ 4 rfl
      have d5 := bn.at_ 5 rfl
      have d6 := bn.at_ 6 rfl
      go_wp2_with fail
      refine hcon.mono ?_
      clear hcon
      rintro e w4 ⟨F1, I1, F2, I2, F3, I3, rfl, ow, hb⟩
      have rx := ow.rd
      clear ow d0 d1 d2 d3 d4 d5 d6
      replace bn := bn.below hb
      replace on := on.below hb
      replace rl := rl.below hb
      replace hbw := hbw.trans (hb.mono hbw.size)
      replace HV2 := Lib.hid (Nat.le_trans HV2.out hb.size)
      clear hb
      go_upto_region 11 with fail
      obtain ⟨gx, hgx⟩ : ∃ g, g = w4.heap.size := ⟨_, rfl⟩
      obtain ⟨v4, hV⟩ : ∃ V, V = w4.alloc (.cells #[.int .i64 x.b1, .slice F1 x.z1.length I1, .int .i64 x.b2, .slice F2 x.z2.length I2, .int .i64 x.b3, .slice F3 x.z3.length I3, .int .i64 x.p] 28) := ⟨_, rfl⟩
      try rw [← hgx, ← hV]
      have bx : Bx v4 gx 28 #[.int .i64 x.b1, .slice F1 x.z1.length I1, .int .i64 x.b2, .slice F2 x.z2.length I2, .int .i64 x.b3, .slice F3 x.z3.length I3, .int .i64 x.p] := by rw [hV, hgx]; exact Bx.new _ _ _
      have hb : Below w4.heap.size w4 v4 := by rw [hV]; exact (Below.refl _ _).alloc (Nat.le_refl _) _
      replace rx := rx.below hb
      replace bn := bn.below hb
      replace on := on.below hb
      replace rl := rl.below hb
      replace hbw := hbw.trans (hb.mono hbw.size)
      replace HV2 := Lib.hid (Nat.le_trans HV2.out hb.size)
      clear hb
      clear hV hgx
      have c0 := bx.at_ 0 rfl
      have c1 := bx.at_ 1 rfl
      have c2 := bx.at_ 2 rfl
      have c3 := bx.at_ 3 rfl
      have c4 := bx.at_ 4 rfl
      have c5 := bx.at_ 5 rfl
      have c6 := bx.at_ 6 rfl
      go_wp2_with fail
      refine (specValidMachine x F1 I1 F2 I2 F3 I3 v4 rx (mac_wf HXX.out).1 (mac_wf HXX.out).2).mono ?_
      rw [HXX.out]
      rintro e w5 ⟨rfl, hb⟩
      clear c0 c1 c2 c3 c4 c5 c6
      replace bn := bn.below hb
      replace on := on.below hb
      replace rl := rl.below hb
      replace bx := bx.below hb
      replace rx := rx.below hb
      replace hbw := hbw.trans (hb.mono hbw.size)
      replace HV2 := Lib.hid (Nat.le_trans HV2.out hb.size)
      clear hb
      have d0 := bn.at_ 0 rfl
      have d1 := bn.at_ 1 rfl
      have d2 := bn.at_ 2 rfl
      have d3 := bn.at_ 3 rfl
      have d4 := bn.at_ 4 rfl
      have d5 := bn.at_ 5 rfl
      have d6 := bn.at_ 6 rfl
      go_upto_region 14 with fail
      clear d0 d1 d2 d3 d4 d5 d6
      obtain ⟨gy, hgy⟩ : ∃ g, g = w5.heap.size := ⟨_, rfl⟩
      obtain ⟨v5, hV⟩ : ∃ V, V = w5.alloc (.cells #[.int .i64 m.b1, .slice D1 m.z1.length E1, .int .i64 m.b2, .slice D2 m.z2.length E2, .int .i64 m.b3, .slice D3 m.z3.length E3, .int .i64 m.p] 28) := ⟨_, rfl⟩
      try rw [← hgy, ← hV]
      have b_y : Bx v5 gy 28 #[.int .i64 m.b1, .slice D1 m.z1.length E1, .int .i64 m.b2, .slice D2 m.z2.length E2, .int .i64 m.b3, .slice D3 m.z3.length E3, .int .i64 m.p] := by rw [hV, hgy]; exact Bx.new _ _ _
      have hb5 : Below w5.heap.size w5 v5 := by rw [hV]; exact (Below.refl _ _).alloc (Nat.le_refl _) _
      have hgy5 : w5.heap.size ≤ gy := by omega
      have HON := Lib.hid (on.below hb5)
      have hside : w2.heap.size ≤ gy := by rw [hgy]; exact HV2.out
      clear hV hgy
      have HAT0 := Lib.hid (at_zero hmm ds)
      go_upto_region 16 with fail
      go_loopw [12, 13, 14, 15, 16, 17] (fun t k _ _ _ _ wr => ∃ (j : Nat) (q : Int) (y : Mac) (H1 : Option Addr) (J1 : Nat) (H2 : Option Addr) (J2 : Nat) (H3 : Option Addr) (J3 : Nat) (lo hi : Nat), (j : Int) ≤ n ∧ k = .int .i64 (j : Int) ∧ t = .int .i64 q ∧
        Hid (Cnt m j q y) ∧ Hid (At m ds j y) ∧ Bx wr gy 28 #[.int .i64 y.b1, .slice H1 y.z1.length J1, .int .i64 y.b2, .slice H2 y.z2.length J2, .int .i64 y.b3, .slice H3 y.z3.length J3, .int .i64 y.p] ∧ Own3 2 wr lo hi (.slice H1 y.z1.length J1) y.z1 (.slice H2 y.z2.length J2) y.z2 (.slice H3 y.z3.length J3) y.z3 ∧ (gy < lo ∨ hi ≤ gy) ∧ Below w5.heap.size w5 wr) (fun _ k _ _ _ _ _ => 10 - (intOf k).toNat)
      case atStart => exact ⟨0, 0, m, _, _, _, _, _, _, _, _, by omega, rfl, rfl, HC, HAT0, b_y, HON.out, .inr hside, hb5⟩
      case round =>
        clear b_y hb5 HON hside HC HAT0
        obtain ⟨j, q, y, H1, J1, H2, J2, H3, J3, lo, hi, hj, rfl, rfl, HCN, HAT, b_y, oy, hside, hbq⟩ := hrel
        by_cases hlt : (j : Int) < n
        · have hcd := HCN.out.dr
          have hym := hcd.ok
          have hp0 : 0 ≤ y.p := (macB_spec hym).2.2.2.2.2.2.2.2.1
          obtain ⟨pn, hpn⟩ := Int.eq_ofNat_of_zero_le hp0
          have hpl : pn ≤ 8 := by have := (macB_facts hym).2.2.2.2.2.2.2.2.2.2.2.1; have := hcd.n3; omega
          have hbm : 2 ≤ m.b1 ∧ m.b1 ≤ 12 := by have := (macB_facts hym).2.2.1; have := hcd.b; have := HCN.out.b; omega
          have hun := unit_drawn hcd
          obtain ⟨unt, hut⟩ : ∃ u, u = unitM y := ⟨_, rfl⟩
          have hcon := a2Power8_any m.b1 pn wr hbm.1 hbm.2 hpl
          rw [show m.b1 ^ pn = unt by rw [hut, unitM, HCN.out.b, hpn]; rfl, ← hpn] at hcon
          rw [← hut] at hun
          have hjn : j < ds.length := by have := HL.out; omega
          obtain ⟨xk, hxk⟩ : ∃ x, x = nth ds j := ⟨_, rfl⟩
          have hx4 : 1 ≤ xk ∧ xk ≤ 4 := by rw [hxk, nth_get hjn]; exact HD4.out _ (List.getElem_mem hjn)
          have ixk : I64 xk := i64_at (by omega) (by omega)
          obtain ⟨z, hz⟩ : ∃ z, z = (doM y xk).1 := ⟨_, rfl⟩
          obtain ⟨bl, hbl⟩ : ∃ b, b = (doM y xk).2 := ⟨_, rfl⟩
          have hds : dsR y xk = (z, bl, 0) := by rw [dsR, if_pos hym, if_pos ⟨by omega, by omega⟩, hz, hbl]
          have hst := at_step HAT.out (by rw [← HXN.out.2]; exact hlt)
          rw [← hxk, ← hz, ← hbl, ← HXN.out.2] at hst
          have HAT2 : Hid (At m ds (j + 1) z) := Lib.hid hst.1
          have HBL : Hid (bl = false ∨ ¬ ((j : Int) + 1 < n)) := Lib.hid (by cases bl with
            | false => exact .inl rfl
            | true => exact .inr (hst.2 rfl))
          have HST : Hid (Cnt m (j + 1) (if xk = 1 then q + unt else if xk = 2 then q - unt else q) z) := Lib.hid (by
            have := cnt_step HCN.out hx4.1 hx4.2
            rwa [← hz, ← hut] at this)
          have hq0 : -207360 ≤ q ∧ q ≤ 207360 := by have := HCN.out.lo; have := HCN.out.hi; omega
          have HDO := Lib.hid (fun v (hb : Below wr.heap.size wr v) => specStroke_at y H1 J1 H2 J2 H3 J3 xk v (oy.rd.below hb) hym ixk hds)
          have cL : wr.cell? ⟨g, j, none⟩ = some (.int .i64 xk) := by
            obtain ⟨b, off, ha, hc⟩ := (rl.below hbq).at_ hjn
            obtain ⟨rfl, rfl⟩ : g = b ∧ 0 = off := by simpa using ha
            rw [hxk]; simpa using hc
          have hj10 : (j : Int) < 10 := by omega
          have cm0 := (bn.below hbq).at_ 0 rfl
          clear hz hbl hds hst hut hxk hcd hpn hp0
          have c0 := b_y.at_ 0 rfl
          have c1 := b_y.at_ 1 rfl
          have c2 := b_y.at_ 2 rfl
          have c3 := b_y.at_ 3 rfl
          have c4 := b_y.at_ 4 rfl
          have c5 := b_y.at_ 5 rfl
          have c6 := b_y.at_ 6 rfl
          have hlen := HL.out
          go_wp2_with fail
          refine hcon.mono ?_
          clear hcon
          rintro e w6 ⟨rfl, hw6⟩
          subst w6
          go_upto_region 19 with fail
          go_cut [15, 16, 17] from 72 to 120 (fun s15 s16 s17 wx => s16 = .bool bl ∧ s17 = .int .i64 0 ∧ ZAt wr z s15 wx)
          case first =>
            refine wp_region_marked (fun w' => Below wr.heap.size wr w') 13 (by kernel_rfl) ?_
            have hS : Below wr.heap.size wr wr.drew := (Below.refl _ _).drew
            have k0 := kept_all c0
            have k1 := kept_all c1
            have k2 := kept_all c2
            have k3 := kept_all c3
            have k4 := kept_all c4
            have k5 := kept_all c5
            have k6 := kept_all c6
            have kL := kept_all cL
            clear c0 c1 c2 c3 c4 c5 c6 cL
            refine wpAnyM_take (i := 0) (v := ?_) rfl (by kernel_rfl) (by kernel_rfl) (by kernel_rfl) (by kernel_rfl) (by kernel_rfl) (fun _ _ _ h => h) hS (.inl ⟨by rfl, ?_⟩) ?_
            rotate_left 1
            · intro w' hS'; go_simp; try with_reducible rfl
            simp only [Act.put, List.setIfInBounds_toArray]
            refine wpAnyM_take (i := 1) (v := ?_) rfl (by kernel_rfl) (by kernel_rfl) (by kernel_rfl) (by kernel_rfl) (by kernel_rfl) (fun _ _ _ h => h) hS (.inl ⟨by rfl, ?_⟩) ?_
            rotate_left 1
            · intro w' hS'; go_simp; try with_reducible rfl
            simp only [Act.put]
            refine wpAnyM_take (i := 2) (v := ?_) rfl (by kernel_rfl) (by kernel_rfl) (by kernel_rfl) (by kernel_rfl) (by kernel_rfl) (fun _ _ _ h => h) hS (.inl ⟨by rfl, ?_⟩) ?_
            rotate_left 1
            · intro w' hS'; go_simp; try with_reducible rfl
            simp only [Act.put]
            refine wpAnyM_take (i := 3) (v := ?_) rfl (by kernel_rfl) (by kernel_rfl) (by kernel_rfl) (by kernel_rfl) (by kernel_rfl) (fun _ _ _ h => h) hS (.inl ⟨by rfl, ?_⟩) ?_
            rotate_left 1
            · intro w' hS'; go_simp; try with_reducible rfl
            simp only [Act.put]
            refine wpAnyM_take (i := 4) (v := ?_) rfl (by kernel_rfl) (by kernel_rfl) (by kernel_rfl) (by kernel_rfl) (by kernel_rfl) (fun _ _ _ h => h) hS (.inl ⟨by rfl, ?_⟩) ?_
            rotate_left 1
            · intro w' hS'; go_simp; try with_reducible rfl
            simp only [Act.put]
            clear k0 k1 k2 k3 k4 k5 k6 kL
            refine wpAnyM_two (i := 5) (j := 10) (by kernel_rfl) rfl rfl (by rfl) (by rfl) (fun K hK => ?_) (fun K hK => ?_)
            · go_simp
              refine (HDO.out wr.drew hS).mono ?_
              rintro e M ⟨K1, M1, K2, M2, K3, M3, rfl, oz0, hb⟩
              have hSM : Below wr.heap.size wr M := hS.trans (hb.mono hS.size)
              refine hK _ _ (.inr hSM) ?_
              try simp only [Act.put, List.setIfInBounds_toArray]
              clear hK K
              refine wpAnyM_pure (i := 6) (v := ?_) rfl (by kernel_rfl) (by kernel_rfl) (by kernel_rfl) (by kernel_rfl) (fun _ _ _ h => h) (.inr hSM) (.inl ⟨by rfl, ?_⟩) ?_
              rotate_left 1
              · intro w' hS'; go_simp; try with_reducible rfl
              simp only [Act.put, List.setIfInBounds_toArray]
              refine wpAnyM_pure (i := 7) (v := ?_) rfl (by kernel_rfl) (by kernel_rfl) (by kernel_rfl) (by kernel_rfl) (fun _ _ _ h => h) (.inr hSM) (.inl ⟨by rfl, ?_⟩) ?_
              rotate_left 1
              · intro w' hS'; go_simp; try with_reducible rfl
              simp only [Act.put]
              refine wpAnyM_pure (i := 8) (v := ?_) rfl (by kernel_rfl) (by kernel_rfl) (by kernel_rfl) (by kernel_rfl) (fun _ _ _ h => h) (.inr hSM) (.inl ⟨by rfl, ?_⟩) ?_
              rotate_left 1
              · intro w' hS'; go_simp; try with_reducible rfl
              simp only [Act.put]
              refine wpAnyM_pure (i := 9) (v := ?_) rfl (by kernel_rfl) (by kernel_rfl) (by kernel_rfl) (by kernel_rfl) (fun _ _ _ h => h) (.inr hSM) (.inl ⟨by rfl, ?_⟩) ?_
              rotate_left 1
              · intro w' hS'; go_simp; try with_reducible rfl
              simp only [Act.put]
              refine wpAnyM_one (i := 10) (by kernel_rfl) rfl (by rfl) (fun K hK => ?_)
              go_simp
              obtain ⟨gz, hgz⟩ : ∃ g, g = M.heap.size := ⟨_, rfl⟩
              obtain ⟨Z, hZ⟩ : ∃ Z, Z = M.alloc (.cells #[.int .i64 0, .slice none 0 0, .int .i64 0, .slice none 0 0, .int .i64 0, .slice none 0 0, .int .i64 0] 28) := ⟨_, rfl⟩
              have bz : Bx Z gz 28 #[.int .i64 0, .slice none 0 0, .int .i64 0, .slice none 0 0, .int .i64 0, .slice none 0 0, .int .i64 0] := by rw [hZ, hgz]; exact Bx.new _ _ _
              have hSZ : Below wr.heap.size wr Z := by rw [hZ]; exact hSM.alloc hSM.size _
              obtain ⟨lz, hlz⟩ : ∃ l, l = wr.drew.heap.size := ⟨_, rfl⟩
              obtain ⟨hz, hhz0⟩ : ∃ l, l = M.heap.size := ⟨_, rfl⟩
              have oz : Own3 2 Z lz hz (.slice K1 z.z1.length M1) z.z1 (.slice K2 z.z2.length M2) z.z2 (.slice K3 z.z3.length M3) z.z3 := by rw [hZ, hlz, hhz0]; exact oz0.below ((Below.refl _ _).alloc (Nat.le_refl _) _)
              have hgo : gz < lz ∨ hz ≤ gz := .inr (by omega)
              have hzl : wr.heap.size ≤ lz := by rw [hlz]; exact Nat.le_refl _
              have hhz : hz ≤ Z.heap.size := by rw [hhz0, hZ]; simp
              have hgl : wr.heap.size ≤ gz := by rw [hgz]; exact hSM.size
              try rw [← hZ]
              try rw [← hgz]
              clear hZ hgz hlz hhz0 oz0 hb hSM
              refine hK _ _ (.inr hSZ) ?_
              try simp only [Act.put, List.setIfInBounds_toArray]
              clear hK K
              have j0 := bz.at_ 0 rfl
              have hl := bz.lt
              have f0 := bz.thaw 0
              have f1 := bz.thaw 1
              have f2 := bz.thaw 2
              have f3 := bz.thaw 3
              have f4 := bz.thaw 4
              have f5 := bz.thaw 5
              have f6 := bz.thaw 6
              have jj0 := bz.at_ 0 rfl
              have jj1 := bz.at_ 1 rfl
              have jj2 := bz.at_ 2 rfl
              have jj3 := bz.at_ 3 rfl
              have jj4 := bz.at_ 4 rfl
              have jj5 := bz.at_ 5 rfl
              have jj6 := bz.at_ 6 rfl
              clear j0
              refine wpAnyM_one (i := 11) (by kernel_rfl) rfl (by rfl) (fun K hK => ?_)
              go_simp
              obtain ⟨Y, hY⟩ : ∃ Y, Y = (((((((Z.setCell ⟨gz, 0, none⟩ (.int .i64 z.b1)).setCell ⟨gz, 1, none⟩ (.slice K1 z.z1.length M1)).setCell ⟨gz, 2, none⟩ (.int .i64 z.b2)).setCell ⟨gz, 3, none⟩ (.slice K2 z.z2.length M2)).setCell ⟨gz, 4, none⟩ (.int .i64 z.b3)).setCell ⟨gz, 5, none⟩ (.slice K3 z.z3.length M3)).setCell ⟨gz, 6, none⟩ (.int .i64 z.p)) := ⟨_, rfl⟩
              have hSY : Below wr.heap.size wr Y := by rw [hY]; exact (by repeat (first | with_reducible exact hSZ | with_reducible refine Below.setCell ?_ (by first | omega | (simp <;> omega)) _ | with_reducible refine Below.alloc ?_ (by first | omega | (simp <;> omega)) _ | with_reducible refine Below.drew ?_))
              have bY : Bx Y gz 28 #[.int .i64 z.b1, .slice K1 z.z1.length M1, .int .i64 z.b2, .slice K2 z.z2.length M2, .int .i64 z.b3, .slice K3 z.z3.length M3, .int .i64 z.p] := by rw [hY]; exact bx_put7 bz
              have oY : Own3 2 Y lz hz (.slice K1 z.z1.length M1) z.z1 (.slice K2 z.z2.length M2) z.z2 (.slice K3 z.z3.length M3) z.z3 := by rw [hY]; exact (((((((oz.setCell (p := ⟨gz, 0, none⟩) hgo _).setCell (p := ⟨gz, 1, none⟩) hgo _).setCell (p := ⟨gz, 2, none⟩) hgo _).setCell (p := ⟨gz, 3, none⟩) hgo _).setCell (p := ⟨gz, 4, none⟩) hgo _).setCell (p := ⟨gz, 5, none⟩) hgo _).setCell (p := ⟨gz, 6, none⟩) hgo _)
              have hhY : hz ≤ Y.heap.size := by rw [hY]; simpa using hhz
              try rw [← hY]
              clear hY bz oz jj0 jj1 jj2 jj3 jj4 jj5 jj6 f0 f1 f2 f3 f4 f5 f6 hl
              refine hK _ _ (.inr hSY) ?_
              try simp only [Act.put, List.setIfInBounds_toArray]
              clear hK K
              refine wpAnyM_one (i := 12) (by kernel_rfl) rfl (by rfl) (fun K hK => ?_)
              go_simp
              refine hK _ _ (.inr hSY) ?_
              try simp only [Act.put, List.setIfInBounds_toArray]
              clear hK K
              refine wpAnyM_one (i := 13) (by kernel_rfl) rfl (by rfl) (fun K hK => ?_)
              go_simp
              refine hK _ _ (.inl rfl) ?_
              clear hK K
              refine wpAnyM_done (by kernel_rfl) ?_ _
              try simp only [Act.put, List.setIfInBounds_toArray]
              go_wp2_with fail
              go_meet
              case rel => exact ⟨rfl, rfl, gz, K1, M1, K2, M2, K3, M3, lz, hz, rfl, bY, oY, hSY, hzl, hhY, hgl⟩
            · go_simp
              obtain ⟨gz, hgz⟩ : ∃ g, g = wr.heap.size := ⟨_, rfl⟩
              obtain ⟨V, hV⟩ : ∃ V, V = (wr.alloc (.cells #[.int .i64 0, .slice none 0 0, .int .i64 0, .slice none 0 0, .int .i64 0, .slice none 0 0, .int .i64 0] 28)).drew := ⟨_, rfl⟩
              have bz : Bx V gz 28 #[.int .i64 0, .slice none 0 0, .int .i64 0, .slice none 0 0, .int .i64 0, .slice none 0 0, .int .i64 0] := by rw [hV, hgz]; exact (Bx.new wr _ _).drew
              have hSV : Below wr.heap.size wr V := by rw [hV]; exact ((Below.refl _ _).alloc (Nat.le_refl _) _).drew
              first | rw [← hV] | skip
              first | rw [← hgz] | skip
              have hgl : wr.heap.size ≤ gz := by omega
              clear hV hgz
              refine hK _ _ (.inr hSV) ?_
              try simp only [Act.put, List.setIfInBounds_toArray]
              clear hK K
              refine wpAnyM_one (i := 5) (by kernel_rfl) rfl (by rfl) (fun K hK => ?_)
              go_simp
              refine (HDO.out V hSV).mono ?_
              rintro e Z ⟨K1, M1, K2, M2, K3, M3, rfl, oz, hb⟩
              have hSZ : Below wr.heap.size wr Z := hSV.trans (hb.mono hSV.size)
              have hgV := bz.lt
              replace bz := bz.below hb
              obtain ⟨lz, hlz⟩ : ∃ l, l = V.heap.size := ⟨_, rfl⟩
              obtain ⟨hz, hhz0⟩ : ∃ l, l = Z.heap.size := ⟨_, rfl⟩
              rw [← hlz, ← hhz0] at oz
              have hgo : gz < lz ∨ hz ≤ gz := .inl (by omega)
              have hzl : wr.heap.size ≤ lz := by rw [hlz]; exact hSV.size
              have hhz : hz ≤ Z.heap.size := by omega
              clear hlz hhz0 hb hSV hgV
              refine hK _ _ (.inr hSZ) ?_
              try simp only [Act.put, List.setIfInBounds_toArray]
              clear hK K
              refine wpAnyM_pure (i := 6) (v := ?_) rfl (by kernel_rfl) (by kernel_rfl) (by kernel_rfl) (by kernel_rfl) (fun _ _ _ h => h) (.inr hSZ) (.inl ⟨by rfl, ?_⟩) ?_
              rotate_left 1
              · intro w' hS'; go_simp; try with_reducible rfl
              simp only [Act.put, List.setIfInBounds_toArray]
              refine wpAnyM_pure (i := 7) (v := ?_) rfl (by kernel_rfl) (by kernel_rfl) (by kernel_rfl) (by kernel_rfl) (fun _ _ _ h => h) (.inr hSZ) (.inl ⟨by rfl, ?_⟩) ?_
              rotate_left 1
              · intro w' hS'; go_simp; try with_reducible rfl
              simp only [Act.put]
              refine wpAnyM_pure (i := 8) (v := ?_) rfl (by kernel_rfl) (by kernel_rfl) (by kernel_rfl) (by kernel_rfl) (fun _ _ _ h => h) (.inr hSZ) (.inl ⟨by rfl, ?_⟩) ?_
              rotate_left 1
              · intro w' hS'; go_simp; try with_reducible rfl
              simp only [Act.put]
              refine wpAnyM_pure (i := 9) (v := ?_) rfl (by kernel_rfl) (by kernel_rfl) (by kernel_rfl) (by kernel_rfl) (fun _ _ _ h => h) (.inr hSZ) (.inl ⟨by rfl, ?_⟩) ?_
              rotate_left 1
              · intro w' hS'; go_simp; try with_reducible rfl
              simp only [Act.put]
              have j0 := bz.at_ 0 rfl
              have hl := bz.lt
              have f0 := bz.thaw 0
              have f1 := bz.thaw 1
              have f2 := bz.thaw 2
              have f3 := bz.thaw 3
              have f4 := bz.thaw 4
              have f5 := bz.thaw 5
              have f6 := bz.thaw 6
              have jj0 := bz.at_ 0 rfl
              have jj1 := bz.at_ 1 rfl
              have jj2 := bz.at_ 2 rfl
              have jj3 := bz.at_ 3 rfl
              have jj4 := bz.at_ 4 rfl
              have jj5 := bz.at_ 5 rfl
              have jj6 := bz.at_ 6 rfl
              clear j0
              refine wpAnyM_one (i := 11) (by kernel_rfl) rfl (by rfl) (fun K hK => ?_)
              go_simp
              obtain ⟨Y, hY⟩ : ∃ Y, Y = (((((((Z.setCell ⟨gz, 0, none⟩ (.int .i64 z.b1)).setCell ⟨gz, 1, none⟩ (.slice K1 z.z1.length M1)).setCell ⟨gz, 2, none⟩ (.int .i64 z.b2)).setCell ⟨gz, 3, none⟩ (.slice K2 z.z2.length M2)).setCell ⟨gz, 4, none⟩ (.int .i64 z.b3)).setCell ⟨gz, 5, none⟩ (.slice K3 z.z3.length M3)).setCell ⟨gz, 6, none⟩ (.int .i64 z.p)) := ⟨_, rfl⟩
              have hSY : Below wr.heap.size wr Y := by rw [hY]; exact (by repeat (first | with_reducible exact hSZ | with_reducible refine Below.setCell ?_ (by first | omega | (simp <;> omega)) _ | with_reducible refine Below.alloc ?_ (by first | omega | (simp <;> omega)) _ | with_reducible refine Below.drew ?_))
              have bY : Bx Y gz 28 #[.int .i64 z.b1, .slice K1 z.z1.length M1, .int .i64 z.b2, .slice K2 z.z2.length M2, .int .i64 z.b3, .slice K3 z.z3.length M3, .int .i64 z.p] := by rw [hY]; exact bx_put7 bz
              have oY : Own3 2 Y lz hz (.slice K1 z.z1.length M1) z.z1 (.slice K2 z.z2.length M2) z.z2 (.slice K3 z.z3.length M3) z.z3 := by rw [hY]; exact (((((((oz.setCell (p := ⟨gz, 0, none⟩) hgo _).setCell (p := ⟨gz, 1, none⟩) hgo _).setCell (p := ⟨gz, 2, none⟩) hgo _).setCell (p := ⟨gz, 3, none⟩) hgo _).setCell (p := ⟨gz, 4, none⟩) hgo _).setCell (p := ⟨gz, 5, none⟩) hgo _).setCell (p := ⟨gz, 6, none⟩) hgo _)
              have hhY : hz ≤ Y.heap.size := by rw [hY]; simpa using hhz
              try rw [← hY]
              clear hY bz oz jj0 jj1 jj2 jj3 jj4 jj5 jj6 f0 f1 f2 f3 f4 f5 f6 hl
              refine hK _ _ (.inr hSY) ?_
              try simp only [Act.put, List.setIfInBounds_toArray]
              clear hK K
              refine wpAnyM_one (i := 12) (by kernel_rfl) rfl (by rfl) (fun K hK => ?_)
              go_simp
              refine hK _ _ (.inr hSY) ?_
              try simp only [Act.put, List.setIfInBounds_toArray]
              clear hK K
              refine wpAnyM_one (i := 13) (by kernel_rfl) rfl (by rfl) (fun K hK => ?_)
              go_simp
              refine hK _ _ (.inl rfl) ?_
              clear hK K
              refine wpAnyM_done (by kernel_rfl) ?_ _
              try simp only [Act.put, List.setIfInBounds_toArray]
              go_wp2_with fail
              go_meet
              case rel => exact ⟨rfl, rfl, gz, K1, M1, K2, M2, K3, M3, lz, hz, rfl, bY, oY, hSY, hzl, hhY, hgl⟩
          case rest =>
            obtain ⟨rfl, rfl, gz, K1, M1, K2, M2, K3, M3, lz, hz, rfl, bz, oz, hb, hzl, hhz, hgz⟩ := hcut
            obtain ⟨w6, rfl⟩ : ∃ u, u = wc := ⟨_, rfl⟩
            have cL2 := kept hb cL
            have hyl := b_y.lt
            replace b_y := b_y.below hb
            replace hbq := hbq.trans (hb.mono hbq.size)
            clear hb oy c0 c1 c2 c3 c4 c5 c6 cL
            have v6 : IntKind.i64.wrap ((j : Int) + 1) = (j : Int) + 1 := fits_int _ (by omega) (by omega)
            have v7 : IntKind.i64.wrap (q + unt) = q + unt := fits_int _ (by omega) (by omega)
            have v8 : IntKind.i64.wrap (q - unt) = q - unt := fits_int _ (by omega) (by omega)
            have hyz : gy < lz := by omega
            have BRANCH : Hid (∀ q', q' = (if xk = 1 then q + unt else if xk = 2 then q - unt else q) → Cnt m (j + 1) q' z) := Lib.hid (by
              intro q' h; rw [h]; exact HST.out)
            have d0 := bz.at_ 0 rfl
            have d1 := bz.at_ 1 rfl
            have d2 := bz.at_ 2 rfl
            have d3 := bz.at_ 3 rfl
            have d4 := bz.at_ 4 rfl
            have d5 := bz.at_ 5 rfl
            have d6 := bz.at_ 6 rfl
            have j0 := b_y.at_ 0 rfl
            have j1 := b_y.at_ 1 rfl
            have j2 := b_y.at_ 2 rfl
            have j3 := b_y.at_ 3 rfl
            have j4 := b_y.at_ 4 rfl
            have j5 := b_y.at_ 5 rfl
            have j6 := b_y.at_ 6 rfl
            have f0 := b_y.thaw 0
            have f1 := b_y.thaw 1
            have f2 := b_y.thaw 2
            have f3 := b_y.thaw 3
            have f4 := b_y.thaw 4
            have f5 := b_y.thaw 5
            have f6 := b_y.thaw 6
            have hl := b_y.lt
            obtain ⟨w7, hw7⟩ : ∃ w7, w7 = (((((((w6.setCell ⟨gy, 0, none⟩ (.int .i64 z.b1)).setCell ⟨gy, 1, none⟩ (.slice K1 z.z1.length M1)).setCell ⟨gy, 2, none⟩ (.int .i64 z.b2)).setCell ⟨gy, 3, none⟩ (.slice K2 z.z2.length M2)).setCell ⟨gy, 4, none⟩ (.int .i64 z.b3)).setCell ⟨gy, 5, none⟩ (.slice K3 z.z3.length M3)).setCell ⟨gy, 6, none⟩ (.int .i64 z.p)) := ⟨_, rfl⟩
            have b7 : Bx w7 gy 28 #[.int .i64 z.b1, .slice K1 z.z1.length M1, .int .i64 z.b2, .slice K2 z.z2.length M2, .int .i64 z.b3, .slice K3 z.z3.length M3, .int .i64 z.p] := by rw [hw7]; exact bx_put7 b_y
            have o7 : Own3 2 w7 lz hz (.slice K1 z.z1.length M1) z.z1 (.slice K2 z.z2.length M2) z.z2 (.slice K3 z.z3.length M3) z.z3 := by rw [hw7]; exact (((((((oz.setCell (p := ⟨gy, 0, none⟩) (.inl hyz) _).setCell (p := ⟨gy, 1, none⟩) (.inl hyz) _).setCell (p := ⟨gy, 2, none⟩) (.inl hyz) _).setCell (p := ⟨gy, 3, none⟩) (.inl hyz) _).setCell (p := ⟨gy, 4, none⟩) (.inl hyz) _).setCell (p := ⟨gy, 5, none⟩) (.inl hyz) _).setCell (p := ⟨gy, 6, none⟩) (.inl hyz) _)
            have hb7 : Below w5.heap.size w5 w7 := by rw [hw7]; exact (by repeat (first | with_reducible exact hbq | with_reducible refine Below.setCell ?_ (by first | omega | (simp <;> omega)) _ | with_reducible refine Below.alloc ?_ (by first | omega | (simp <;> omega)) _ | with_reducible refine Below.drew ?_))
            have HW7 := Lib.hid hw7
            clear hw7 b_y oz hbq bz
            have FIN : Hid (∀ q', q' = (if xk = 1 then q + unt else if xk = 2 then q - unt else q) → ∃ (j' : Nat) (q2 : Int) (y : Mac) (H1 : Option Addr) (J1 : Nat) (H2 : Option Addr) (J2 : Nat) (H3 : Option Addr) (J3 : Nat) (lo hi : Nat), (j' : Int) ≤ n ∧ Value.int .i64 ((j : Int) + 1) = .int .i64 (j' : Int) ∧ Value.int .i64 q' = .int .i64 q2 ∧
                  Hid (Cnt m j' q2 y) ∧ Hid (At m ds j' y) ∧ Bx w7 gy 28 #[.int .i64 y.b1, .slice H1 y.z1.length J1, .int .i64 y.b2, .slice H2 y.z2.length J2, .int .i64 y.b3, .slice H3 y.z3.length J3, .int .i64 y.p] ∧ Own3 2 w7 lo hi (.slice H1 y.z1.length J1) y.z1 (.slice H2 y.z2.length J2) y.z2 (.slice H3 y.z3.length J3) y.z3 ∧ (gy < lo ∨ hi ≤ gy) ∧ Below w5.heap.size w5 w7) := Lib.hid (fun q' h =>
              ⟨j + 1, q', z, _, _, _, _, _, _, _, _, by omega, by simp, rfl, Lib.hid (BRANCH.out q' h), HAT2, b7, o7, .inl hyz, hb7⟩)
            clear BRANCH HST HAT2 b7 o7 hb7 HCN HAT
            rcases HBL.out with hbl | hbl
            · clear HBL
              subst hbl
              by_cases h1 : xk = 1
              · have hq := FIN.out (q + unt) (by rw [if_pos h1])
                clear FIN
                go_wp2_with fail
                rw [← HW7.out]
                go_roundw
                case rel => exact hq
                case measure => (simp [intOf]) <;> omega
              · by_cases h2 : xk = 2
                · have hq := FIN.out (q - unt) (by rw [if_neg h1, if_pos h2])
                  clear FIN
                  go_wp2_with fail
                  rw [← HW7.out]
                  go_roundw
                  case rel => exact hq
                  case measure => (simp [intOf]) <;> omega
                · have hq := FIN.out q (by rw [if_neg h1, if_neg h2])
                  clear FIN
                  go_wp2_with fail
                  rw [← HW7.out]
                  go_roundw
                  case rel => exact hq
                  case measure => (simp [intOf]) <;> omega
            · clear HBL
              cases bl
              · by_cases h1 : xk = 1
                · have hq := FIN.out (q + unt) (by rw [if_pos h1])
                  clear FIN
                  go_wp2_with fail
                  rw [← HW7.out]
                  go_roundw
                  case rel => exact hq
                  case measure => (simp [intOf]) <;> omega
                · by_cases h2 : xk = 2
                  · have hq := FIN.out (q - unt) (by rw [if_neg h1, if_pos h2])
                    clear FIN
                    go_wp2_with fail
                    rw [← HW7.out]
                    go_roundw
                    case rel => exact hq
                    case measure => (simp [intOf]) <;> omega
                  · have hq := FIN.out q (by rw [if_neg h1, if_neg h2])
                    clear FIN
                    go_wp2_with fail
                    rw [← HW7.out]
                    go_roundw
                    case rel => exact hq
                    case measure => (simp [intOf]) <;> omega
              · by_cases h1 : xk = 1
                · have hq := FIN.out (q + unt) (by rw [if_pos h1])
                  clear FIN
                  go_wp2_with fail
                  rw [← HW7.out]
                  go_roundw
                  case rel => exact hq
                  case measure => (simp [intOf]) <;> omega
                · by_cases h2 : xk = 2
                  · have hq := FIN.out (q - unt) (by rw [if_neg h1, if_pos h2])
                    clear FIN
                    go_wp2_with fail
                    rw [← HW7.out]
                    go_roundw
                    case rel => exact hq
                    case measure => (simp [intOf]) <;> omega
                  · have hq := FIN.out q (by rw [if_neg h1, if_neg h2])
                    clear FIN
                    go_wp2_with fail
                    rw [← HW7.out]
                    go_roundw
                    case rel => exact hq
                    case measure => (simp [intOf]) <;> omega
        · have hjn : (j : Int) = n := by omega
          have hj10 : j ≤ 10 := by omega
          obtain rfl : y = x := by rw [HXN.out.1]; exact (at_end HAT.out (hjn.trans HXN.out.2)).symm
          have hv := cnt_val HCN.out hj10
          have hym := mac_wf HXX.out
          have hk1 := (macB_spec hmm).1
          have hk2 := (macB_spec HXX.out).2.1
          have hk3 := (macB_spec HXX.out).2.2.1
          have hbm : 2 ≤ m.b1 ∧ m.b1 ≤ 12 := by have := (macB_facts hmm).2.2.1; have := HCN.out.dr.b; have := HCN.out.b; omega
          have hz8 : m.z2.length ≤ 8 ∧ m.z3.length ≤ 8 := by have := HCN.out.dr.n2; have := HCN.out.dr.n3; have := HCN.out.l2; have := HCN.out.l3; omega
          have ry := oy.rd
          replace rx := rx.below hbq
          replace bx := bx.below hbq
          replace bn := bn.below hbq
          replace on := on.below hbq
          clear oy HAT HCN hside
          have c0 := bx.at_ 0 rfl
          have c1 := bx.at_ 1 rfl
          have c2 := bx.at_ 2 rfl
          have c3 := bx.at_ 3 rfl
          have c4 := bx.at_ 4 rfl
          have c5 := bx.at_ 5 rfl
          have c6 := bx.at_ 6 rfl
          have d0 := b_y.at_ 0 rfl
          have d1 := b_y.at_ 1 rfl
          have d2 := b_y.at_ 2 rfl
          have d3 := b_y.at_ 3 rfl
          have d4 := b_y.at_ 4 rfl
          have d5 := b_y.at_ 5 rfl
          have d6 := b_y.at_ 6 rfl
          go_wp2_with fail
          refine (specSameMachine y F1 I1 F2 I2 F3 I3 y H1 J1 H2 J2 H3 J3 wr rx hym.1 hym.2 ry hym.1 hym.2).mono ?_
          rw [macEqB_self]
          rintro e w7 ⟨rfl, hb⟩
          clear c0 c1 c2 c3 c4 c5 c6 d0 d1 d2 d3 d4 d5 d6 b_y ry
          replace rx := rx.below hb
          replace bx := bx.below hb
          replace bn := bn.below hb
          replace on := on.below hb
          replace hbq := hbq.trans (hb.mono hbq.size)
          clear hb
          obtain ⟨V, hV⟩ : ∃ V, V = valR m.b1 m.z1 := ⟨_, rfl⟩
          obtain ⟨U, hU⟩ : ∃ V, V = valR y.b2 y.z2 := ⟨_, rfl⟩
          obtain ⟨T, hT⟩ : ∃ V, V = valR y.b3 y.z3 := ⟨_, rfl⟩
          obtain ⟨W2, hW2⟩ : ∃ V, V = m.b1 ^ m.z2.length := ⟨_, rfl⟩
          obtain ⟨W3, hW3⟩ : ∃ V, V = m.b1 ^ m.z3.length := ⟨_, rfl⟩
          have p1 := fun v h => valueOf_at m.b1 D1 E1 m.z1 v h hk1
          have p2 := fun v h => valueOf_at y.b2 F2 I2 y.z2 v h hk2
          have p3 := fun v h => valueOf_at y.b3 F3 I3 y.z3 v h hk3
          have p4 := fun v => a2Power8_any m.b1 m.z2.length v hbm.1 hbm.2 hz8.1
          have p5 := fun v => a2Power8_any m.b1 m.z3.length v hbm.1 hbm.2 hz8.2
          rw [← hV, ← hU, ← hT, ← hW2, ← hW3] at hv
          rw [← hV] at p1
          rw [← hU] at p2
          rw [← hT] at p3
          rw [← hW2] at p4
          rw [← hW3] at p5
          obtain ⟨hq, hv1, hr2, hr3, hw2, hw3, hp, hm2, hm3⟩ := hv
          obtain ⟨X, hX⟩ : ∃ X, X = q * V := ⟨_, rfl⟩
          rw [← hX] at hp hm2
          have v6 : IntKind.i64.wrap (q * V) = X := by rw [← hX]; exact fits_int _ (by omega) (by omega)
          have v7 : IntKind.i64.wrap (X - U) = X - U := fits_int _ (by omega) (by omega)
          have v8 : IntKind.i64.wrap (q - T) = q - T := fits_int _ (by omega) (by omega)
          have hn2 : ¬ W2 = 0 := by omega
          have hn3 : ¬ W3 = 0 := by omega
          clear hV hU hT hW2 hW3 hX hq hv1 hr2 hr3 hw2 hw3 hp hk1 hk2 hk3 hz8 hbm
          have P1 := Lib.hid p1
          have P2 := Lib.hid p2
          have P3 := Lib.hid p3
          have P4 := Lib.hid p4
          have P5 := Lib.hid p5
          clear p1 p2 p3 p4 p5
          have d0 := bn.at_ 0 rfl
          have d1 := bn.at_ 1 rfl
          go_wp2_with fail
          refine (P1.out w7 on.rd.x).mono ?_
          rintro e w8 ⟨rfl, hb⟩
          clear d0 d1
          replace rx := rx.below hb
          replace bx := bx.below hb
          replace bn := bn.below hb
          replace hbq := hbq.trans (hb.mono hbq.size)
          clear hb
          have d0 := bx.at_ 2 rfl
          have d1 := bx.at_ 3 rfl
          go_wp2_with fail
          refine (P2.out w8 rx.y).mono ?_
          rintro e w9 ⟨rfl, hb⟩
          clear d0 d1
          replace rx := rx.below hb
          replace bx := bx.below hb
          replace bn := bn.below hb
          replace hbq := hbq.trans (hb.mono hbq.size)
          clear hb
          have d0 := bx.at_ 4 rfl
          have d1 := bx.at_ 5 rfl
          go_wp2_with fail
          refine (P3.out w9 rx.z).mono ?_
          rintro e w10 ⟨rfl, hb⟩
          clear d0 d1
          replace bn := bn.below hb
          replace hbq := hbq.trans (hb.mono hbq.size)
          clear hb
          have d0 := bn.at_ 0 rfl
          have d3 := bn.at_ 3 rfl
          have d5 := bn.at_ 5 rfl
          go_wp2_with fail
          refine (P4.out w10).mono ?_
          rintro e w11 ⟨rfl, hw11⟩
          subst w11
          go_wp2_with fail
          refine (P5.out w10).mono ?_
          rintro e w12 ⟨rfl, hw12⟩
          subst w12
          have hfin := Lib.hid (hbel.trans ((hbw.trans (hbq.mono hbw.size)).mono hbel.size))
          clear hbel hbw hbq
          go_wp2_with fail
          go_ret
          exact ⟨rfl, hfin.out⟩

/-- The door's own heap meets the condition: closed facts. -/
theorem door_met (os : Os) (args : Array Value) : laidMetH Tryd.prog Rows.fnCountedRow.laid ((World.laidAll Tryd.prog os Rows.fnCountedRow.laid).forCall (fun _ _ => 0) ⟨#[], args, []⟩).memory :=
  by rw [MakeChecks.laidMetH_plain _ _ _ (by kernel_rfl)]; exact laidMet_laidAll _ (by kernel_rfl) (by kernel_rfl)

set_option maxRecDepth 100000 in
theorem lifted (os : Os) (started : os.Started) (H : Type) (enc : TypeId × Value → H) :
    ReturnsInHanded {} Tryd.checked os 3 .any (fun w args => (Rows.fnCountedSpec.pre enc Tryd.prog Tryd.f3 [] false w args ∧ laidMetH Tryd.prog Rows.fnCountedRow.laid w) ∧ sizedMet enc Tryd.prog Tryd.f3 (OpenSpec.ofChange Rows.fnCountedSpec) false w args)
      (Rows.fnCountedSpec.post enc Tryd.prog Tryd.f3 false true false false) := by
  refine returnsInHanded_of_change_and (C := Tryd.checked) (X := fun w _ => laidMetH Tryd.prog Rows.fnCountedRow.laid w) (fun _ _ _ hh h => h.of_heap hh) own_knob started (by kernel_rfl) Tryd.func3
    (ChangeSpec.witness_shaped (enc := enc) (C := Tryd.checked) (os := os) (X := fun w _ => laidMetH Tryd.prog Rows.fnCountedRow.laid w) false (World.laidAll Tryd.prog os Rows.fnCountedRow.laid) #[.slice none 0 0, .slice none 0 0] 8 (World.laidAll_os _ _ _) (World.shaped_of_ZipB (by kernel_rfl) (by kernel_rfl)) (by kernel_rfl) (by kernel_rfl) (by kernel_rfl) (door_met os _)) ?_
  intro W base args ds gs before hval0 hW _ _ hL _
  have hval : ∀ (j : Nat) t v, Tryd.f3.params[j]? = some t → args[j]? = some v → Value.okWide Tryd.prog W .any base t v := hval0
  have hW' := hW
  obtain ⟨p, q, hA0, hV0, rfl, hfz, hnd⟩ := hW
  have hA : DataW.TrodAll enc Tryd.prog W 0 (fun _ => true) true Tryd.f3.params.toList args.toList ds p := hA0
  have hV : DataW.TrodVars enc Tryd.prog W (fun _ => true) ["loop.example/g00930/impl.errBell"] gs q := hV0
  rw [Tryd.params3] at hA hval
  obtain ⟨v0, vs0, d0, ds0, p0, q0, hargs, rfl, rfl, h0, r0⟩ := trodAll_cons hA
  obtain ⟨v1, vs1, d1, ds1, p1, q1, rfl, rfl, rfl, h1, r1⟩ := trodAll_cons r0
  obtain ⟨rfl, rfl, rfl⟩ := trodAll_nil r1
  obtain rfl : args = #[v0, v1] := by cases args; simp_all
  have k0 := h0
  have lt0 : ∀ x ∈ p0, x.block < W.heap.size := by obtain ⟨m, hm⟩ := k0; exact DataW.trod_lt m _ _ _ hm
  obtain ⟨xA, xC, xZ, rfl, hx⟩ := open_Bytes (hval 0 22 v0 rfl rfl) h0
  have k1 := h1
  have lt1 : ∀ x ∈ p1, x.block < W.heap.size := by obtain ⟨m, hm⟩ := k1; exact DataW.trod_lt m _ _ _ hm
  obtain ⟨yA, yC, yZ, rfl, hy⟩ := open_Bytes (hval 1 22 v1 rfl rfl) h1
  have hD := of_laid hL
  clear hA0 hval0
  obtain ⟨gd, rfl⟩ : ∃ gd, gs = [gd] := by
    obtain ⟨_, _, _, _, d, _, h, _⟩ := trodVars_one hV
    exact ⟨d, h⟩
  refine (law_walk xA xC xZ yA yC yZ W hx hy hD).mono fun e W' ⟨he, bel⟩ => ?_
  subst he
  obtain ⟨q', hq'⟩ := var_stays gVar tVar (by kernel_rfl) (of_decide_eq_true (by kernel_rfl)) hV bel
  exact ⟨_, rfl, _, _, _, [], _, q', hW', trodAll_mk1 (shut_bool Tryd.underlying4 _), (trodAll_cons_mk (Below.trod laid_out (by kernel_rfl) (of_decide_eq_true (by kernel_rfl)) k0 bel lt0) (trodAll_cons_mk (Below.trod laid_out (by kernel_rfl) (of_decide_eq_true (by kernel_rfl)) k1 bel lt1) trodAll_mk0)), hq', bel.frame _, fun h => by cases h⟩

set_option maxHeartbeats 20000000 in
theorem closed : joinedFacts Tryd.prog 3 Tryd.f3 Rows.fnCountedSpec Rows.fnCountedRow = true := by
  simp only [joinedFacts, Bool.and_eq_true]
  refine ⟨⟨⟨⟨⟨⟨⟨⟨⟨⟨⟨⟨⟨⟨⟨⟨⟨⟨⟨⟨⟨⟨⟨⟨⟨⟨⟨⟨⟨⟨⟨?_, laid_out⟩, fact_maps⟩, ?_⟩, ?_⟩, ?_⟩, fact_stops⟩, ?_⟩, fact_knobs⟩, ?_⟩, ?_⟩, ?_⟩, ?_⟩, ?_⟩, ?_⟩, ?_⟩, ?_⟩, ?_⟩, ?_⟩, ?_⟩, ?_⟩, ?_⟩, fact_plain⟩, ?_⟩, fact_heard⟩, fact_enter⟩, fact_lift⟩, ?_⟩, ?_⟩, ?_⟩, ?_⟩, ?_⟩
  all_goals (as_aux_lemma => kernel_rfl)

theorem over : Rows.FnCountedSaid :=
  OpenClaim.holds_of_wide 3 Tryd.f3 rfl rfl rfl rfl rfl rfl rfl ⟨rfl, rfl, rfl, rfl, rfl⟩ rfl rfl rfl rfl rfl (by as_aux_lemma => kernel_rfl) Tryd.func3 closed
    (of_decide_eq_true (by as_aux_lemma => kernel_rfl)) (by unfold Func.isWrapper; first | (rw [if_pos (by decide +kernel)]; kernel_rfl) | (rw [if_neg (by decide +kernel)]; exact ⟨rfl, rfl⟩))
    (fun os started H enc _ => lifted os started H enc)

set_option maxHeartbeats 20000000 in
/-- The statement: the tied card. -/
theorem proved : Rows.FnCountedCardSaid :=
  Claim7.holds_tied_plain_at .later [] [.sentinel] true (true, "ec655d68bd83ee750dda8ab1bd41c2789a9eb6bdf7c44e01156a152df2f96c04") true
    over (fun _ h => by cases h) (by as_aux_lemma => kernel_rfl) (fun _ h => by cases h) fnCounted_row_tie rfl ⟨rfl, rfl⟩ (by as_aux_lemma => kernel_rfl) rfl
    (fun f fn hf hfn => by
      obtain rfl : f = 3 := Option.some.inj ((show Tryd.prog.funcNamed "loop.example/g00930/laws.FnCounted" = some 3 by as_aux_lemma => kernel_rfl).symm.trans hf) |>.symm
      obtain rfl : fn = Tryd.f3 := (Option.some.inj (Tryd.func3.symm.trans hfn)).symm
      exact ⟨(by as_aux_lemma => kernel_rfl), fun j t ht => by
        rw [Tryd.params3] at ht
        have hm : t ∈ [22] := by have := Array.mem_of_getElem? ht; simpa using this
        have hall : ([22].all fun u => !Tryd.prog.wantsStandIn u) = true := by as_aux_lemma => kernel_rfl
        exact (show Tryd.prog.wantsStandIn t = false by simpa using List.all_eq_true.1 hall t hm)⟩)
    (by as_aux_lemma => kernel_rfl)
end Go.Proofs.YtlahobdopmdfmaaDoor.lawFnCounted
