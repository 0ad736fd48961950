/-
  impl.WidenAccumulator.
-/
import Derived.Test.YtiogbpnnnpodkaaDoorNegI
namespace Go.Proofs.YtiogbpnnnpodkaaDoor
open Go.RowKit

set_option maxRecDepth 100000 in
set_option maxHeartbeats 4000000 in
theorem implWidenAccumulator (xB : Int) (xA : Option Addr) (xC : Nat) (xZ : List Int) (n : Int) (w : World) (ha : Rd w xA xZ) (z : All64 xZ) (b : I64 xB) (_ : I64 n) (hD : BellD w) :
    Calls Tryd.prog 36 #[.agg #[.int .i64 xB, .slice xA xZ.length xC], .int .i64 n] w (RegC (widR xB xZ n) w) := by
  have R := Tryd.results36
  have hbel : Below w.heap.size w w := Below.refl _ _
  have hlx := ha.len
  cases h : accB xB xZ with
  | false =>
    have HR := Lib.hid (show widR xB xZ n = (0, [], 1) by simp [widR, h])
    have HN := Lib.hid (show numR xB xZ = (0, 1) by simp [numR, h])
    clear h
    go_enter Tryd.func36, Tryd.ntmps36
    go_wp2_with fail
    obtain ⟨p, hp⟩ : ∃ g, g = w.heap.size := ⟨_, rfl⟩
    have hk_p : w.heap.size ≤ p := Nat.le_of_eq hp.symm
    obtain ⟨u, hu⟩ : ∃ V, V = (w.alloc (.cells #[.int .i64 xB, .slice xA xZ.length xC] 24)).alloc (.cells #[.int .i64 0, .slice none 0 0] 24) := ⟨_, rfl⟩
    have b_p : Bx u p 24 #[.int .i64 xB, .slice xA xZ.length xC] := by rw [hu, hp]; exact (Bx.new _ _ _).alloc _
    have b_p1 : Bx u (p + 1) 24 #[.int .i64 0, .slice none 0 0] := by rw [hu, hp]; simpa using Bx.new (w.alloc (.cells #[.int .i64 xB, .slice xA xZ.length xC] 24)) #[.int .i64 0, .slice none 0 0] 24
    have hb : Below w.heap.size w u := by rw [hu]; exact ((Below.refl _ _).alloc (Nat.le_refl _) _).alloc (by simp) _
    rw [← hp, ← hu]
    clear hu hp
    replace ha := ha.below hb
    replace hD := hD.below hb
    replace hbel := hbel.trans (hb.mono hbel.size)
    clear hb
    refine (implNumberOf xB xA xC xZ u ha z b hD).mono ?_
    rintro e v ⟨rfl, hb⟩
    rw [HN.out]
    replace ha := ha.below hb
    replace hD := hD.below hb
    replace b_p := b_p.below hb
    replace b_p1 := b_p1.below hb
    replace hbel := hbel.trans (hb.mono hbel.size)
    clear hb
    have r0 := b_p1.at_ 0 rfl
    have r1 := b_p1.at_ 1 rfl
    have f0 := b_p1.thaw 0
    have f1 := b_p1.thaw 1
    have hs := b_p1.lt
    have hbs := hbel.size
    go_wp2
    exact bodyPost_ret (v := .tuple #[.agg #[.int .i64 0, .slice none 0 0], .int .i64 1]) (by simp [results, go_sem, r0, r1]) rfl
      (regC_err HR.out rfl (by repeat (first | with_reducible exact hbel | with_reducible refine Below.setCell ?_ (by first | omega | (simp <;> omega)) _ | with_reducible refine Below.alloc ?_ (by first | omega | (simp <;> omega)) _ | with_reducible refine Below.drew ?_)))
  | true =>
    have HN := Lib.hid (show numR xB xZ = (numA xB xZ, 0) by simp [numR, h])
    have hlen := (okB_spec (accB_spec h).1).2.2.2.1
    have hlen0 := (okB_spec (accB_spec h).1).2.2.1
    cases hn : inB n xZ.length 16 with
    | false =>
      have HR := Lib.hid (show widR xB xZ n = (0, [], 2) by rw [widR, if_pos h, if_neg (by have := inB_false hn; omega)])
      have HI := Lib.hid hn
      clear h hn
      go_enter Tryd.func36, Tryd.ntmps36
      go_wp2_with fail
      obtain ⟨p, hp⟩ : ∃ g, g = w.heap.size := ⟨_, rfl⟩
      have hk_p : w.heap.size ≤ p := Nat.le_of_eq hp.symm
      obtain ⟨u, hu⟩ : ∃ V, V = (w.alloc (.cells #[.int .i64 xB, .slice xA xZ.length xC] 24)).alloc (.cells #[.int .i64 0, .slice none 0 0] 24) := ⟨_, rfl⟩
      have b_p : Bx u p 24 #[.int .i64 xB, .slice xA xZ.length xC] := by rw [hu, hp]; exact (Bx.new _ _ _).alloc _
      have b_p1 : Bx u (p + 1) 24 #[.int .i64 0, .slice none 0 0] := by rw [hu, hp]; simpa using Bx.new (w.alloc (.cells #[.int .i64 xB, .slice xA xZ.length xC] 24)) #[.int .i64 0, .slice none 0 0] 24
      have hb : Below w.heap.size w u := by rw [hu]; exact ((Below.refl _ _).alloc (Nat.le_refl _) _).alloc (by simp) _
      rw [← hp, ← hu]
      clear hu hp
      replace ha := ha.below hb
      replace hD := hD.below hb
      replace hbel := hbel.trans (hb.mono hbel.size)
      clear hb
      refine (implNumberOf xB xA xC xZ u ha z b hD).mono ?_
      rintro e v ⟨rfl, hb⟩
      rw [HN.out]
      replace ha := ha.below hb
      replace hD := hD.below hb
      replace b_p := b_p.below hb
      replace b_p1 := b_p1.below hb
      replace hbel := hbel.trans (hb.mono hbel.size)
      clear hb
      have c0 := b_p.at_ 0 rfl
      have c1 := b_p.at_ 1 rfl
      go_wp2_with fail
      obtain ⟨V, hV⟩ : ∃ V, V = v.alloc (.cells #[.int .i64 n] 2) := ⟨_, rfl⟩
      have hb : Below v.heap.size v V := by rw [hV]; exact (Below.refl _ _).alloc (Nat.le_refl _) _
      have hVc : V.cell? ⟨v.heap.size, 0, none⟩ = some (.int .i64 n) := by rw [hV]; exact (Bx.new v #[.int .i64 n] 2).at_ 0 rfl
      rw [← hV]
      clear c0 c1 hV
      refine (within1_at xZ.length 16 n V v.heap.size 1 hVc).mono ?_
      rintro e v2 ⟨rfl, hw⟩
      subst v2
      rw [HI.out]
      replace ha := ha.below hb
      replace hD := hD.below hb
      replace b_p := b_p.below hb
      replace b_p1 := b_p1.below hb
      replace hbel := hbel.trans (hb.mono hbel.size)
      clear hb
      clear hVc
      go_upto_region 5 with fail
      have r0 := b_p1.at_ 0 rfl
      have r1 := b_p1.at_ 1 rfl
      have f0 := b_p1.thaw 0
      have f1 := b_p1.thaw 1
      have hs := b_p1.lt
      have hbs := hbel.size
      go_wp2
      exact bodyPost_ret (v := .tuple #[.agg #[.int .i64 0, .slice none 0 0], .int .i64 2]) (by simp [results, go_sem, r0, r1]) rfl
        (regC_err HR.out rfl (by repeat (first | with_reducible exact hbel | with_reducible refine Below.setCell ?_ (by first | omega | (simp <;> omega)) _ | with_reducible refine Below.alloc ?_ (by first | omega | (simp <;> omega)) _ | with_reducible refine Below.drew ?_)))
    | true =>
      obtain ⟨n1, n2⟩ := inB_true hn
      have HI := Lib.hid hn
      cases hf : fullB xB n with
      | false =>
        have HR := Lib.hid (show widR xB xZ n = (0, [], 5) by rw [widR, if_pos h, if_pos ⟨n1, n2⟩, hf]; rfl)
        have HO := Lib.hid (fun w => circle_no xB n w hf)
        clear h hn hf
        go_enter Tryd.func36, Tryd.ntmps36
        go_wp2_with fail
        obtain ⟨p, hp⟩ : ∃ g, g = w.heap.size := ⟨_, rfl⟩
        have hk_p : w.heap.size ≤ p := Nat.le_of_eq hp.symm
        obtain ⟨u, hu⟩ : ∃ V, V = (w.alloc (.cells #[.int .i64 xB, .slice xA xZ.length xC] 24)).alloc (.cells #[.int .i64 0, .slice none 0 0] 24) := ⟨_, rfl⟩
        have b_p : Bx u p 24 #[.int .i64 xB, .slice xA xZ.length xC] := by rw [hu, hp]; exact (Bx.new _ _ _).alloc _
        have b_p1 : Bx u (p + 1) 24 #[.int .i64 0, .slice none 0 0] := by rw [hu, hp]; simpa using Bx.new (w.alloc (.cells #[.int .i64 xB, .slice xA xZ.length xC] 24)) #[.int .i64 0, .slice none 0 0] 24
        have hb : Below w.heap.size w u := by rw [hu]; exact ((Below.refl _ _).alloc (Nat.le_refl _) _).alloc (by simp) _
        rw [← hp, ← hu]
        clear hu hp
        replace ha := ha.below hb
        replace hD := hD.below hb
        replace hbel := hbel.trans (hb.mono hbel.size)
        clear hb
        refine (implNumberOf xB xA xC xZ u ha z b hD).mono ?_
        rintro e v ⟨rfl, hb⟩
        rw [HN.out]
        replace ha := ha.below hb
        replace hD := hD.below hb
        replace b_p := b_p.below hb
        replace b_p1 := b_p1.below hb
        replace hbel := hbel.trans (hb.mono hbel.size)
        clear hb
        have c0 := b_p.at_ 0 rfl
        have c1 := b_p.at_ 1 rfl
        go_wp2_with fail
        obtain ⟨V, hV⟩ : ∃ V, V = v.alloc (.cells #[.int .i64 n] 2) := ⟨_, rfl⟩
        have hb : Below v.heap.size v V := by rw [hV]; exact (Below.refl _ _).alloc (Nat.le_refl _) _
        have hVc : V.cell? ⟨v.heap.size, 0, none⟩ = some (.int .i64 n) := by rw [hV]; exact (Bx.new v #[.int .i64 n] 2).at_ 0 rfl
        rw [← hV]
        clear c0 c1 hV
        refine (within1_at xZ.length 16 n V v.heap.size 1 hVc).mono ?_
        rintro e v2 ⟨rfl, hw⟩
        subst v2
        rw [HI.out]
        replace ha := ha.below hb
        replace hD := hD.below hb
        replace b_p := b_p.below hb
        replace b_p1 := b_p1.below hb
        replace hbel := hbel.trans (hb.mono hbel.size)
        clear hb
        clear hVc
        have c0 := b_p.at_ 0 rfl
        have c1 := b_p.at_ 1 rfl
        go_wp2_with fail
        refine (HO.out V).mono ?_
        rintro e v2 ⟨rfl, hb⟩
        clear c0 c1
        replace ha := ha.below hb
        replace hD := hD.below hb
        replace b_p := b_p.below hb
        replace b_p1 := b_p1.below hb
        replace hbel := hbel.trans (hb.mono hbel.size)
        clear hb
        go_upto_region 7 with fail
        obtain ⟨q, hq⟩ : ∃ g, g = v2.heap.size := ⟨_, rfl⟩
        have hk_q : v2.heap.size ≤ q := Nat.le_of_eq hq.symm
        obtain ⟨u2, hu2⟩ : ∃ V, V = v2.alloc (.cells #[.int .i64 0, .int .i64 0, .int .i64 0] 81) := ⟨_, rfl⟩
        have b_q : Bx u2 q 81 #[.int .i64 0, .int .i64 0, .int .i64 0] := by rw [hu2, hq]; exact Bx.new _ _ _
        have hb : Below v2.heap.size v2 u2 := by rw [hu2]; exact (Below.refl _ _).alloc (Nat.le_refl _) _
        rw [← hq, ← hu2]
        clear hu2 hq
        replace ha := ha.below hb
        replace hD := hD.below hb
        replace b_p := b_p.below hb
        replace b_p1 := b_p1.below hb
        replace hbel := hbel.trans (hb.mono hbel.size)
        clear hb
        have r0 := b_p1.at_ 0 rfl
        have r1 := b_p1.at_ 1 rfl
        have f0 := b_p1.thaw 0
        have f1 := b_p1.thaw 1
        have hs := b_p1.lt
        have hbs := hbel.size
        go_wp2
        exact bodyPost_ret (v := .tuple #[.agg #[.int .i64 0, .slice none 0 0], .int .i64 5]) (by simp [results, go_sem, r0, r1]) rfl
          (regC_err HR.out rfl (by repeat (first | with_reducible exact hbel | with_reducible refine Below.setCell ?_ (by first | omega | (simp <;> omega)) _ | with_reducible refine Below.alloc ?_ (by first | omega | (simp <;> omega)) _ | with_reducible refine Below.drew ?_)))
      | true =>
        have HR := Lib.hid (show widR xB xZ n = (xB, setA xB n (numA xB xZ), 0) by rw [widR, if_pos h, if_pos ⟨n1, n2⟩, if_pos hf])
        have HO := Lib.hid (fun w => circle_ok xB n w hf)
        have HG := Lib.hid hf
        clear h hn hf
        go_enter Tryd.func36, Tryd.ntmps36
        go_wp2_with fail
        obtain ⟨p, hp⟩ : ∃ g, g = w.heap.size := ⟨_, rfl⟩
        have hk_p : w.heap.size ≤ p := Nat.le_of_eq hp.symm
        obtain ⟨u, hu⟩ : ∃ V, V = (w.alloc (.cells #[.int .i64 xB, .slice xA xZ.length xC] 24)).alloc (.cells #[.int .i64 0, .slice none 0 0] 24) := ⟨_, rfl⟩
        have b_p : Bx u p 24 #[.int .i64 xB, .slice xA xZ.length xC] := by rw [hu, hp]; exact (Bx.new _ _ _).alloc _
        have b_p1 : Bx u (p + 1) 24 #[.int .i64 0, .slice none 0 0] := by rw [hu, hp]; simpa using Bx.new (w.alloc (.cells #[.int .i64 xB, .slice xA xZ.length xC] 24)) #[.int .i64 0, .slice none 0 0] 24
        have hb : Below w.heap.size w u := by rw [hu]; exact ((Below.refl _ _).alloc (Nat.le_refl _) _).alloc (by simp) _
        rw [← hp, ← hu]
        clear hu hp
        replace ha := ha.below hb
        replace hD := hD.below hb
        replace hbel := hbel.trans (hb.mono hbel.size)
        clear hb
        refine (implNumberOf xB xA xC xZ u ha z b hD).mono ?_
        rintro e v ⟨rfl, hb⟩
        rw [HN.out]
        replace ha := ha.below hb
        replace hD := hD.below hb
        replace b_p := b_p.below hb
        replace b_p1 := b_p1.below hb
        replace hbel := hbel.trans (hb.mono hbel.size)
        clear hb
        have c0 := b_p.at_ 0 rfl
        have c1 := b_p.at_ 1 rfl
        go_wp2_with fail
        obtain ⟨V, hV⟩ : ∃ V, V = v.alloc (.cells #[.int .i64 n] 2) := ⟨_, rfl⟩
        have hb : Below v.heap.size v V := by rw [hV]; exact (Below.refl _ _).alloc (Nat.le_refl _) _
        have hVc : V.cell? ⟨v.heap.size, 0, none⟩ = some (.int .i64 n) := by rw [hV]; exact (Bx.new v #[.int .i64 n] 2).at_ 0 rfl
        rw [← hV]
        clear c0 c1 hV
        refine (within1_at xZ.length 16 n V v.heap.size 1 hVc).mono ?_
        rintro e v2 ⟨rfl, hw⟩
        subst v2
        rw [HI.out]
        replace ha := ha.below hb
        replace hD := hD.below hb
        replace b_p := b_p.below hb
        replace b_p1 := b_p1.below hb
        replace hbel := hbel.trans (hb.mono hbel.size)
        clear hb
        clear hVc
        have c0 := b_p.at_ 0 rfl
        have c1 := b_p.at_ 1 rfl
        go_wp2_with fail
        refine (HO.out V).mono ?_
        rintro e v2 ⟨rfl, hb⟩
        clear c0 c1
        replace ha := ha.below hb
        replace hD := hD.below hb
        replace b_p := b_p.below hb
        replace b_p1 := b_p1.below hb
        replace hbel := hbel.trans (hb.mono hbel.size)
        clear hb
        go_upto_region 7 with fail
        obtain ⟨q, hq⟩ : ∃ g, g = v2.heap.size := ⟨_, rfl⟩
        have hk_q : v2.heap.size ≤ q := Nat.le_of_eq hq.symm
        obtain ⟨u2, hu2⟩ : ∃ V, V = v2.alloc (.cells #[.int .i64 xB, .int .i64 n, .int .i64 (cntA xB n)] 81) := ⟨_, rfl⟩
        have b_q : Bx u2 q 81 #[.int .i64 xB, .int .i64 n, .int .i64 (cntA xB n)] := by rw [hu2, hq]; exact Bx.new _ _ _
        have hb : Below v2.heap.size v2 u2 := by rw [hu2]; exact (Below.refl _ _).alloc (Nat.le_refl _) _
        rw [← hq, ← hu2]
        clear hu2 hq
        replace ha := ha.below hb
        replace hD := hD.below hb
        replace b_p := b_p.below hb
        replace b_p1 := b_p1.below hb
        replace hbel := hbel.trans (hb.mono hbel.size)
        clear hb
        have c0 := b_q.at_ 0 rfl
        have c1 := b_q.at_ 1 rfl
        have c2 := b_q.at_ 2 rfl
        go_wp2_with fail
        refine (register_any xB n (numA xB xZ) u2 HG.out).mono ?_
        rintro e v3 ⟨A, C, rfl, own, hb⟩
        clear c0 c1 c2
        have hpl : p + 1 < u2.heap.size := b_p1.lt
        have hvs := hb.size
        replace ha := ha.below hb
        replace hD := hD.below hb
        replace b_p := b_p.below hb
        replace b_p1 := b_p1.below hb
        replace b_q := b_q.below hb
        replace hbel := hbel.trans (hb.mono hbel.size)
        clear hb
        have r0 := b_p1.at_ 0 rfl
        have r1 := b_p1.at_ 1 rfl
        have f0 := b_p1.thaw 0
        have f1 := b_p1.thaw 1
        have hs := b_p1.lt
        have hbs := hbel.size
        go_wp2
        exact bodyPost_ret (v := .tuple #[.agg #[.int .i64 xB, .slice A (setA xB n (numA xB xZ)).length C], .int .i64 0]) (by simp [results, go_sem, r0, r1]) rfl
          (regC_ok HR.out rfl ((own.setCell (p := ⟨p + 1, 0, none⟩) (.inl (by simp; omega)) _).setCell (p := ⟨p + 1, 1, none⟩) (.inl (by simp; omega)) _) (by have := hk_p; omega) (by simp) (by repeat (first | with_reducible exact hbel | with_reducible refine Below.setCell ?_ (by first | omega | (simp <;> omega)) _ | with_reducible refine Below.alloc ?_ (by first | omega | (simp <;> omega)) _ | with_reducible refine Below.drew ?_)))
end Go.Proofs.YtiogbpnnnpodkaaDoor
