/-
  impl.AddRegisters, SubRegisters.
-/
import Derived.Test.YtgfopieojpjddaaDoorFin
import Derived.Test.YtgfopieojpjddaaDoorArS
namespace Go.Proofs.YtgfopieojpjddaaDoor
open Go.RowKit

/-- A box of two cells that is written, and then a new block. -/
theorem Bx.put2 {w : World} {g : Nat} {t : TypeId} {a b : Value} (h : Bx w g t #[a, b]) (u v : Value) (o : Obj) :
    (((w.setCell ⟨g, 0, none⟩ u).setCell ⟨g, 1, none⟩ v).alloc o).cell? ⟨g, 0, none⟩ = some u ∧ (((w.setCell ⟨g, 0, none⟩ u).setCell ⟨g, 1, none⟩ v).alloc o).cell? ⟨g, 1, none⟩ = some v := by
  have := ((h.set_ 0 u).set_ 1 v).alloc o
  exact ⟨this.at_ 0 rfl, this.at_ 1 rfl⟩
theorem i64_small {z : Int} (h1 : -1000000000000000000 ≤ z) (h2 : z ≤ 1000000000000000000) : I64 z := by
  have e1 : IntKind.i64.min = -9223372036854775808 := by decide
  have e2 : IntKind.i64.max = 9223372036854775807 := by decide
  simp [I64, Lit.wf, e1, e2]
  omega
theorem all64_tab {B : Int} {f : Nat → Int} {n : Nat} (hB : B ≤ 16) (h : ∀ k, k < n → 0 ≤ f k ∧ f k < B) : All64 (tab f n) := by
  intro z hz
  obtain ⟨k, hk, rfl⟩ := List.getElem_of_mem hz
  rw [tab_len] at hk
  have e := tab_nth (f := f) (n := n) (i := k) hk
  rw [nth_get (by rw [tab_len]; exact hk)] at e
  rw [e]
  have := h k hk
  exact i64_small (by omega) (by omega)
theorem sumD_bd {B : Int} {xs ys : List Int} (hB : 2 ≤ B) (_ : ∀ k, k < xs.length → 0 ≤ nth xs k ∧ nth xs k < B) (_ : ∀ k, k < xs.length → 0 ≤ nth ys k ∧ nth ys k < B) : ∀ k, k < xs.length → 0 ≤ sumD B xs ys k ∧ sumD B xs ys k < B :=
  fun _ _ => ⟨Int.emod_nonneg _ (by omega), Int.emod_lt_of_pos _ (by omega)⟩
theorem subD_bd {B : Int} {xs ys : List Int} (_ : 2 ≤ B) (hx : ∀ k, k < xs.length → 0 ≤ nth xs k ∧ nth xs k < B) (hy : ∀ k, k < xs.length → 0 ≤ nth ys k ∧ nth ys k < B) : ∀ k, k < xs.length → 0 ≤ subD B xs ys k ∧ subD B xs ys k < B := by
  intro k hk
  have h1 := hx k hk
  have h2 := hy k hk
  have h3 := bK_bd B xs ys k
  unfold subD
  split <;> omega

set_option maxRecDepth 100000 in
set_option maxHeartbeats 2000000 in
theorem implSubRegisters (xB : Int) (xA : Option Addr) (xC : Nat) (xZ : List Int) (yB : Int) (yA : Option Addr) (yC : Nat) (yZ : List Int) (w : World) (ha : Rd w xA xZ) (zx : All64 xZ) (bx : I64 xB) (hb : Rd w yA yZ) (zy : All64 yZ) (by_ : I64 yB) :
    Calls Tryd.prog 49 #[.agg #[.int .i64 xB, .slice xA xZ.length xC], .agg #[.int .i64 yB, .slice yA yZ.length yC]] w (subRPost xB xZ yB yZ w) := by
  go_enter Tryd.func49, Tryd.ntmps49
  go_wp2_with fail
  obtain ⟨u, hu⟩ : ∃ u, u = ((w.alloc (.cells #[.int .i64 xB, .slice xA xZ.length xC] 47)).alloc (.cells #[.int .i64 yB, .slice yA yZ.length yC] 47)).alloc (.cells #[.int .i64 0, .slice none 0 0] 47) := ⟨_, rfl⟩
  rw [← hu]
  have hbel : Below w.heap.size w u := by rw [hu]; exact (by repeat (first | exact Below.refl _ _ | refine Below.setCell ?_ (by first | omega | (simp <;> omega)) _ | refine Below.alloc ?_ (by first | omega | (simp <;> omega)) _ | refine Below.drew ?_))
  have ax : Bx u w.heap.size 47 #[.int .i64 xB, .slice xA xZ.length xC] := by rw [hu]; exact ((Bx.new _ _ _).alloc _).alloc _
  have ay : Bx u (w.heap.size + 1) 47 #[.int .i64 yB, .slice yA yZ.length yC] := by rw [hu]; exact Bx.alloc (by simpa using Bx.new (w.alloc (.cells #[.int .i64 xB, .slice xA xZ.length xC] 47)) #[.int .i64 yB, .slice yA yZ.length yC] 47) _
  have ar : Bx u (w.heap.size + 1 + 1) 47 #[.int .i64 0, .slice none 0 0] := by rw [hu]; simpa using Bx.new ((w.alloc (.cells #[.int .i64 xB, .slice xA xZ.length xC] 47)).alloc (.cells #[.int .i64 yB, .slice yA yZ.length yC] 47)) #[.int .i64 0, .slice none 0 0] 47
  replace ha := ha.below hbel
  replace hb := hb.below hbel
  clear hu
  refine (pairCode_any xB xA xC xZ yB yA yC yZ u ha zx bx hb zy by_).mono ?_
  rintro e v ⟨rfl, hb1⟩
  replace ha := ha.below hb1
  replace hb := hb.below hb1
  replace ax := ax.below hb1
  replace ay := ay.below hb1
  replace ar := ar.below hb1
  replace hbel := hbel.trans (hb1.mono hbel.size)
  clear hb1 u
  have c0 := ax.at_ 0 rfl
  have c1 := ax.at_ 1 rfl
  have d0 := ay.at_ 0 rfl
  have d1 := ay.at_ 1 rfl
  by_cases h : twoE xB xZ yB yZ = 0
  · have HX := Lib.hid (okB_spec (twoE_zero h).1)
    have HW := Lib.hid (twoE_zero h)
    have H := Lib.hid h
    have ht : (twoE xB xZ yB yZ != 0) = false := by simp [h]
    have HY := Lib.hid (show ∀ k, k < xZ.length → 0 ≤ nth yZ k ∧ nth yZ k < xB by have h1 := HW.out.2.2; intro k hk; have h2 := digit_of_ok HW.out.2.1 k (by omega); omega)
    clear h
    go_wp2_with fail
    refine (minus_any xB xA yA xC yC xZ yZ v ha hb HX.out.1 HX.out.2.1 HX.out.2.2.2.1 HW.out.2.2.2 (digit_of_ok HW.out.1) HY.out).mono ?_
    rintro e w2 ⟨A1, C1, rfl, own1, hb2⟩
    have hA := all64_tab (HX.out.2.1) (subD_bd HX.out.1 (digit_of_ok HW.out.1) HY.out)
    have c0 := kept hb2 c0
    have hvs := ar.lt
    replace ar := ar.below hb2
    replace hbel := hbel.trans (hb2.mono hbel.size)
    clear hb2
    replace own1 : Own 2 w2 v.heap.size w2.heap.size (.slice A1 (tab (subD xB xZ yZ) xZ.length).length C1) (tab (subD xB xZ yZ) xZ.length) := by rw [tab_len]; exact own1
    rw [show Value.slice A1 xZ.length C1 = .slice A1 (tab (subD xB xZ yZ) xZ.length).length C1 by rw [tab_len]]
    cases hk : okB xB (tab (subD xB xZ yZ) xZ.length) with
    | true =>
      have HR := Lib.hid (show subR xB xZ yB yZ = (xB, tab (subD xB xZ yZ) xZ.length, bK xB xZ yZ xZ.length, 0) by simp [subR, H.out, hk])
      go_wp2_with fail
      refine (finish_ok xB A1 C1 (tab (subD xB xZ yZ) xZ.length) w2 own1.rd hA bx hk).mono ?_
      rintro e w3 ⟨rfl, hb2⟩
      replace ar := ar.below hb2
      replace own1 := own1.below hb2
      replace hbel := hbel.trans (hb2.mono hbel.size)
      have hs2 := hb2.size
      clear hb2 hk
      have r0 := ar.at_ 0 rfl
      have r1 := ar.at_ 1 rfl
      have f0 := ar.thaw 0
      have f1 := ar.thaw 1
      have hws := ar.lt
      have zz := ar.put2 (.int .i64 xB) (.slice A1 (tab (subD xB xZ yZ) xZ.length).length C1) (.cells #[.int .i64 xB, .slice A1 (tab (subD xB xZ yZ) xZ.length).length C1] 47)
      go_wp2
      exact bodyPost_ret (v := .tuple #[.agg #[.int .i64 xB, .slice A1 (tab (subD xB xZ yZ) xZ.length).length C1], .int .i64 (bK xB xZ yZ xZ.length), .int .i64 0]) (by simp [results, Tryd.results49, go_sem, zz.1, zz.2]) rfl
        (subRPost_ok HR.out rfl rfl (lo := v.heap.size) (hi := w2.heap.size) (((own1.setCell (p := ⟨w.heap.size + 1 + 1, 0, none⟩) (.inl (by simp; omega)) _).setCell (p := ⟨w.heap.size + 1 + 1, 1, none⟩) (.inl (by simp; omega)) _).alloc _) (by omega) (by simp; omega) (by repeat (first | exact hbel | refine Below.setCell ?_ (by first | omega | (simp <;> omega)) _ | refine Below.alloc ?_ (by first | omega | (simp <;> omega)) _ | refine Below.drew ?_)))
    | false =>
      have HR := Lib.hid (show subR xB xZ yB yZ = (0, [], 0, 5) by simp [subR, H.out, hk])
      go_wp2_with fail
      refine (finish_full xB A1 C1 (tab (subD xB xZ yZ) xZ.length) w2 own1.rd hA bx hk).mono ?_
      rintro e w3 ⟨rfl, hb2⟩
      replace ar := ar.below hb2
      replace hbel := hbel.trans (hb2.mono hbel.size)
      clear hb2 hk
      have r0 := ar.at_ 0 rfl
      have r1 := ar.at_ 1 rfl
      have f0 := ar.thaw 0
      have f1 := ar.thaw 1
      have hws := ar.lt
      have zz := ar.put2 (.int .i64 0) (.slice none 0 0) (.cells #[.int .i64 0, .slice none 0 0] 47)
      go_wp2
      exact bodyPost_ret (v := .tuple #[.agg #[.int .i64 0, .slice none 0 0], .int .i64 0, .int .i64 5]) (by simp [results, Tryd.results49, go_sem, zz.1, zz.2]) rfl
        (subRPost_err HR.out rfl (by repeat (first | exact hbel | refine Below.setCell ?_ (by first | omega | (simp <;> omega)) _ | refine Below.alloc ?_ (by first | omega | (simp <;> omega)) _ | refine Below.drew ?_)))
  · have ht : (twoE xB xZ yB yZ != 0) = true := by simp [h]
    have HR := Lib.hid (show subR xB xZ yB yZ = (0, [], 0, twoE xB xZ yB yZ) by simp [subR, h])
    have r0 := ar.at_ 0 rfl
    have r1 := ar.at_ 1 rfl
    have f0 := ar.thaw 0
    have f1 := ar.thaw 1
    clear h
    go_wp2
    exact bodyPost_ret (v := .tuple #[.agg #[.int .i64 0, .slice none 0 0], .int .i64 0, .int .i64 (twoE xB xZ yB yZ)]) (by simp [results, Tryd.results49, go_sem, r0, r1]) rfl
      (subRPost_err HR.out rfl (by repeat (first | exact hbel | refine Below.setCell ?_ (by first | omega | (simp <;> omega)) _ | refine Below.alloc ?_ (by first | omega | (simp <;> omega)) _ | refine Below.drew ?_)))
end Go.Proofs.YtgfopieojpjddaaDoor
