/-
  spec.AddRegisters, SubRegisters.
-/
import Derived.Test.YtgfopieojpjddaaDoorAddS
import Derived.Test.YtgfopieojpjddaaDoorSubS
namespace Go.Proofs.YtgfopieojpjddaaDoor
open Go.RowKit

/-- What a call of AddRegisters leaves. -/
def addRPost (b : Int) (xs : List Int) (d : Int) (ys : List Int) (w : World) (e : Ending) (w' : World) : Prop := ∃ A C,
  e = .returned (.tuple #[.agg #[.int .i64 (addR b xs d ys).1, .slice A (addR b xs d ys).2.1.length C], .int .i64 (addR b xs d ys).2.2.1, .int .i64 (addR b xs d ys).2.2.2]) ∧ Own 2 w' w.heap.size w'.heap.size (.slice A (addR b xs d ys).2.1.length C) (addR b xs d ys).2.1 ∧ Below w.heap.size w w'
theorem addRPost_err {b d c : Int} {xs ys : List Int} {w w' : World} {e : Ending} (h : addR b xs d ys = (0, [], 0, c)) (he : e = .returned (.tuple #[.agg #[.int .i64 0, .slice none 0 0], .int .i64 0, .int .i64 c])) (hb : Below w.heap.size w w') : addRPost b xs d ys w e w' := by
  refine ⟨none, 0, ?_, ?_, hb⟩
  · rw [h]; exact he
  · rw [h]; exact own_nil _ _ _ _
theorem addRPost_ok {b d k : Int} {xs ys zs : List Int} {m : Nat} {w w' : World} {A : Option Addr} {C lo hi : Nat} {e : Ending} (h : addR b xs d ys = (b, zs, k, 0)) (hm : zs.length = m) (he : e = .returned (.tuple #[.agg #[.int .i64 b, .slice A m C], .int .i64 k, .int .i64 0]))
    (ho : Own 2 w' lo hi (.slice A m C) zs) (hl : w.heap.size ≤ lo) (hh : hi ≤ w'.heap.size) (hb : Below w.heap.size w w') : addRPost b xs d ys w e w' := by
  subst hm
  refine ⟨A, C, ?_, ?_, hb⟩
  · rw [h]; exact he
  · rw [h]; exact ho.wide hl hh

set_option maxRecDepth 100000 in
set_option maxHeartbeats 1000000 in
theorem specAddRegisters (xB : Int) (xA : Option Addr) (xC : Nat) (xZ : List Int) (yB : Int) (yA : Option Addr) (yC : Nat) (yZ : List Int) (w : World) (ha : Rd w xA xZ) (_ : All64 xZ) (_ : I64 xB) (hb : Rd w yA yZ) (_ : All64 yZ) (_ : I64 yB) :
    Calls Tryd.prog 54 #[.agg #[.int .i64 xB, .slice xA xZ.length xC], .agg #[.int .i64 yB, .slice yA yZ.length yC]] w (addRPost xB xZ yB yZ w) := by
  have hx16 := fun h : twoE xB xZ yB yZ = 0 => okB_spec (twoE_zero h).1
  go_enter Tryd.func54, Tryd.ntmps54
  go_wp2_with fail
  obtain ⟨u, hu⟩ : ∃ u, u = ((w.alloc (.cells #[.int .i64 xB, .slice xA xZ.length xC] 47)).alloc (.cells #[.int .i64 yB, .slice yA yZ.length yC] 47)).alloc (.cells #[.int .i64 0, .slice none 0 0] 47) := ⟨_, rfl⟩
  rw [← hu]
  have hbel : Below w.heap.size w u := by rw [hu]; exact (by repeat (first | exact Below.refl _ _ | refine Below.setCell ?_ (by first | omega | (simp <;> omega)) _ | refine Below.alloc ?_ (by first | omega | (simp <;> omega)) _ | refine Below.drew ?_))
  have c0 : u.cell? ⟨w.heap.size, 0, none⟩ = some (.int .i64 xB) := by rw [hu]; go_simp
  have c1 : u.cell? ⟨w.heap.size, 1, none⟩ = some (.slice xA xZ.length xC) := by rw [hu]; go_simp
  have d0 : u.cell? ⟨w.heap.size + 1, 0, none⟩ = some (.int .i64 yB) := by rw [hu]; go_simp
  have d1 : u.cell? ⟨w.heap.size + 1, 1, none⟩ = some (.slice yA yZ.length yC) := by rw [hu]; go_simp
  have bx : Bx u (w.heap.size + 2) 47 #[.int .i64 0, .slice none 0 0] := by rw [hu]; simpa using Bx.new ((w.alloc (.cells #[.int .i64 xB, .slice xA xZ.length xC] 47)).alloc (.cells #[.int .i64 yB, .slice yA yZ.length yC] 47)) #[.int .i64 0, .slice none 0 0] 47
  have r0 := bx.at_ 0 rfl
  have r1 := bx.at_ 1 rfl
  have f0 := bx.thaw 0
  have f1 := bx.thaw 1
  have hus := bx.lt
  replace ha := ha.below hbel
  replace hb := hb.below hbel
  clear hu
  refine (l02Two_any w.heap.size (w.heap.size + 1) xB yB xA yA xC yC xZ yZ u ha hb c0 c1 d0 d1).mono ?_
  rintro e w1 ⟨rfl, n, rfl⟩
  by_cases h : twoE xB xZ yB yZ = 0
  · have HX := Lib.hid (hx16 h)
    have HW := Lib.hid (twoE_zero h)
    have ht : (twoE xB xZ yB yZ != 0) = false := by simp [h]
    have H := Lib.hid h
    clear h hx16
    go_wp2_with fail
    refine (l02Add_any w.heap.size (w.heap.size + 1) xB yB xA yA xC yC xZ yZ _ (ha.drewN n) (hb.drewN n) HX.out.1 HX.out.2.1 HX.out.2.2.2.1 HW.out.2.2.2 (digit_of_ok HW.out.1) (by have h1 := HW.out.2.2; intro k hk; have h2 := digit_of_ok HW.out.2.1 k (by omega); omega) c0 c1 d0 d1).mono ?_
    rintro e w1 ⟨A, C, rfl, hown, hb1⟩
    have bx1 := (bx.drewN n).below hb1
    have hb2 := (bel_drewN hbel n).trans (hb1.mono (by have := hbel.size; simpa using this))
    have hs1 := bx1.lt
    have r0 := bx1.at_ 0 rfl
    have r1 := bx1.at_ 1 rfl
    have f0 := bx1.thaw 0
    have f1 := bx1.thaw 1
    go_wp2_with fail
    obtain ⟨v, hv⟩ : ∃ v, v = w1.alloc (.cells #[.int .i64 xB, .slice A xZ.length C] 47) := ⟨_, rfl⟩
    have hb3 : Below w1.heap.size w1 v := by rw [hv]; exact (Below.refl _ _).alloc (Nat.le_refl _) _
    have bx2 := bx1.below hb3
    have by2 : Bx v w1.heap.size 47 #[.int .i64 xB, .slice A xZ.length C] := by rw [hv]; exact Bx.new _ _ _
    have hown2 : Own 2 v u.heap.size w1.heap.size (.slice A (tab (sumD xB xZ yZ) xZ.length).length C) (tab (sumD xB xZ yZ) xZ.length) := by rw [hv, tab_len]; exact hown.alloc _
    have hb4 := hb2.trans (hb3.mono hb2.size)
    rw [← hv]
    clear hv hb3 hown
    have hs2 := by2.lt
    have r0 := bx2.at_ 0 rfl
    have r1 := bx2.at_ 1 rfl
    have f0 := bx2.thaw 0
    have f1 := bx2.thaw 1
    have o0 := by2.at_ 0 rfl
    have o1 := by2.at_ 1 rfl
    have hR := hown2.rd
    rw [show (#[Value.int .i64 xB, .slice A xZ.length C] : Array Value)[1] = .slice A (tab (sumD xB xZ yZ) xZ.length).length C by rw [tab_len]; rfl] at o1
    by_cases hk : okB xB (tab (sumD xB xZ yZ) xZ.length) = true
    · have HR := Lib.hid (show addR xB xZ yB yZ = (xB, tab (sumD xB xZ yZ) xZ.length, cK xB xZ yZ xZ.length, 0) by simp [addR, H.out, hk])
      refine (l02Ok_at0 w1.heap.size xB A C (tab (sumD xB xZ yZ) xZ.length) v hk hR o0 o1).mono ?_
      rintro e w2 ⟨rfl, n', rfl⟩
      have HK := Lib.hid hk
      clear hk H hR
      go_wp2
      exact bodyPost_ret (v := .tuple #[.agg #[.int .i64 xB, .slice A (tab (sumD xB xZ yZ) xZ.length).length C], .int .i64 (cK xB xZ yZ xZ.length), .int .i64 0]) (by simp [results, Tryd.results54, go_sem, r0, r1]) rfl
        (addRPost_ok HR.out rfl rfl (lo := u.heap.size) (hi := w1.heap.size) (((hown2.drewN n').setCell (p := ⟨w.heap.size + 1 + 1, 0, none⟩) (.inl hus) _).setCell (p := ⟨w.heap.size + 1 + 1, 1, none⟩) (.inl hus) _) hbel.size (by simp; omega) (by repeat (first | exact bel_drewN hb4 n' | refine Below.setCell ?_ (by first | omega | (simp <;> omega)) _ | refine Below.alloc ?_ (by first | omega | (simp <;> omega)) _ | refine Below.drew ?_)))
    · have HR := Lib.hid (show addR xB xZ yB yZ = (0, [], 0, 5) by simp [addR, H.out, hk])
      refine (l02Ok_at0 (v := false) w1.heap.size xB A C (tab (sumD xB xZ yZ) xZ.length) v (by simpa using hk) hR o0 o1).mono ?_
      rintro e w2 ⟨rfl, n', rfl⟩
      clear hk H hR
      go_wp2
      exact bodyPost_ret (v := .tuple #[.agg #[.int .i64 0, .slice none 0 0], .int .i64 0, .int .i64 5]) (by simp [results, Tryd.results54, go_sem, r0, r1]) rfl
        (addRPost_err HR.out rfl (by repeat (first | exact bel_drewN hb4 n' | refine Below.setCell ?_ (by first | omega | (simp <;> omega)) _ | refine Below.alloc ?_ (by first | omega | (simp <;> omega)) _ | refine Below.drew ?_)))
  · have ht : (twoE xB xZ yB yZ != 0) = true := by simp [h]
    have HR := Lib.hid (show addR xB xZ yB yZ = (0, [], 0, twoE xB xZ yB yZ) by simp [addR, h])
    clear h hx16
    go_wp2
    exact bodyPost_ret (v := .tuple #[.agg #[.int .i64 0, .slice none 0 0], .int .i64 0, .int .i64 (twoE xB xZ yB yZ)]) (by simp [results, Tryd.results54, go_sem, r0, r1]) rfl
      (addRPost_err HR.out rfl (by repeat (first | exact bel_drewN hbel n | refine Below.setCell ?_ (by first | omega | (simp <;> omega)) _ | refine Below.alloc ?_ (by first | omega | (simp <;> omega)) _ | refine Below.drew ?_)))

/-- What a call of SubRegisters leaves. -/
def subRPost (b : Int) (xs : List Int) (d : Int) (ys : List Int) (w : World) (e : Ending) (w' : World) : Prop := ∃ A C,
  e = .returned (.tuple #[.agg #[.int .i64 (subR b xs d ys).1, .slice A (subR b xs d ys).2.1.length C], .int .i64 (subR b xs d ys).2.2.1, .int .i64 (subR b xs d ys).2.2.2]) ∧ Own 2 w' w.heap.size w'.heap.size (.slice A (subR b xs d ys).2.1.length C) (subR b xs d ys).2.1 ∧ Below w.heap.size w w'
theorem subRPost_err {b d c : Int} {xs ys : List Int} {w w' : World} {e : Ending} (h : subR b xs d ys = (0, [], 0, c)) (he : e = .returned (.tuple #[.agg #[.int .i64 0, .slice none 0 0], .int .i64 0, .int .i64 c])) (hb : Below w.heap.size w w') : subRPost b xs d ys w e w' := by
  refine ⟨none, 0, ?_, ?_, hb⟩
  · rw [h]; exact he
  · rw [h]; exact own_nil _ _ _ _
theorem subRPost_ok {b d k : Int} {xs ys zs : List Int} {m : Nat} {w w' : World} {A : Option Addr} {C lo hi : Nat} {e : Ending} (h : subR b xs d ys = (b, zs, k, 0)) (hm : zs.length = m) (he : e = .returned (.tuple #[.agg #[.int .i64 b, .slice A m C], .int .i64 k, .int .i64 0]))
    (ho : Own 2 w' lo hi (.slice A m C) zs) (hl : w.heap.size ≤ lo) (hh : hi ≤ w'.heap.size) (hb : Below w.heap.size w w') : subRPost b xs d ys w e w' := by
  subst hm
  refine ⟨A, C, ?_, ?_, hb⟩
  · rw [h]; exact he
  · rw [h]; exact ho.wide hl hh

end Go.Proofs.YtgfopieojpjddaaDoor
