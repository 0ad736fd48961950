/-
  spec: a register of its own; AccumulateAll.
-/
import Derived.Test.YtiogbpnnnpodkaaDoorCloneI
import Derived.Test.YtiogbpnnnpodkaaDoorOkS
import Derived.Test.YtiogbpnnnpodkaaDoorRegC
import Derived.Deep.Cut
import Derived.Test.YtiogbpnnnpodkaaDoorAllM
import Derived.Test.YtiogbpnnnpodkaaDoorAddA
namespace Go.Proofs.YtiogbpnnnpodkaaDoor
open Go.RowKit

set_option maxRecDepth 100000 in
set_option maxHeartbeats 4000000 in
theorem l02OwnR_any (p : Nat) (B : Int) (A : Option Addr) (C : Nat) (zs : List Int) (w : World) (ha : Rd w A zs) (hne : 0 < zs.length) (h0 : w.cell? ⟨p, 0, none⟩ = some (.int .i64 B)) (h1 : w.cell? ⟨p, 1, none⟩ = some (.slice A zs.length C)) :
    Calls Tryd.prog 78 #[.pointer (some ⟨p, 0, none⟩)] w fun e w' => ∃ D E, e = .returned (.agg #[.int .i64 B, .slice D zs.length E]) ∧ Own 2 w' w.heap.size w'.heap.size (.slice D zs.length E) zs ∧ Below w.heap.size w w' := by
  obtain ⟨r, hr⟩ : ∃ r, r = w.heap.size := ⟨_, rfl⟩
  obtain ⟨u, hu⟩ : ∃ u, u = w.alloc (.cells #[.int .i64 0, .slice none 0 0] 24) := ⟨_, rfl⟩
  have b0 : Bx u r 24 #[.int .i64 0, .slice none 0 0] := by rw [hu, hr]; exact Bx.new _ _ _
  have hbel : Below w.heap.size w u := by rw [hu]; exact (by repeat (first | exact Below.refl _ _ | refine Below.setCell ?_ (by first | omega | (simp <;> omega)) _ | refine Below.alloc ?_ (by first | omega | (simp <;> omega)) _ | refine Below.drew ?_))
  have hlr := b0.lt
  replace ha := ha.below hbel
  have k0 : ∀ w', Below u.heap.size u w' → w'.cell? ⟨p, 0, none⟩ = some (.int .i64 B) := kept_all (kept hbel h0)
  have k1 : ∀ w', Below u.heap.size u w' → w'.cell? ⟨p, 1, none⟩ = some (.slice A zs.length C) := kept_all (kept hbel h1)
  rw [← hr] at hbel
  have HU := Lib.hid hu
  have HR := Lib.hid hr
  clear hu hr h0 h1
  go_enter Tryd.func78, Tryd.ntmps78
  go_upto_region 1 with fail
  rw [← HU.out, ← HR.out]
  refine wp_region_marked (fun w' => Below u.heap.size u w') 10 (by kernel_rfl) ?_
  have hS : Below u.heap.size u u.drew := (Below.refl _ _).drew
  refine wpAnyM_take (i := 0) (v := ?_) rfl (by kernel_rfl) (by kernel_rfl) (by kernel_rfl) (by kernel_rfl) (by kernel_rfl) (fun _ _ _ h => h) hS (.inl ⟨by rfl, ?_⟩) ?_
  rotate_left 1
  · intro w' hS'; go_simp; try with_reducible rfl
  simp only [Act.put, List.setIfInBounds_toArray]
  refine wpAnyM_take (i := 1) (v := ?_) rfl (by kernel_rfl) (by kernel_rfl) (by kernel_rfl) (by kernel_rfl) (by kernel_rfl) (fun _ _ _ h => h) hS (.inl ⟨by rfl, ?_⟩) ?_
  rotate_left 1
  · intro w' hS'; go_simp; try with_reducible rfl
  simp only [Act.put]
  refine wpAnyM_take (i := 2) (v := ?_) rfl (by kernel_rfl) (by kernel_rfl) (by kernel_rfl) (by kernel_rfl) (by kernel_rfl) (fun _ _ _ h => h) hS (.inl ⟨by rfl, ?_⟩) ?_
  rotate_left 1
  · intro w' hS'; go_simp; try with_reducible rfl
  simp only [Act.put]
  refine wpAnyM_take (i := 3) (v := ?_) rfl (by kernel_rfl) (by kernel_rfl) (by kernel_rfl) (by kernel_rfl) (by kernel_rfl) (fun _ _ _ h => h) hS (.inl ⟨by rfl, ?_⟩) ?_
  rotate_left 1
  · intro w' hS'; go_simp; try with_reducible rfl
  simp only [Act.put]
  refine wpAnyM_take (i := 4) (v := ?_) rfl (by kernel_rfl) (by kernel_rfl) (by kernel_rfl) (by kernel_rfl) (by kernel_rfl) (fun _ _ _ h => h) hS (.inl ⟨by rfl, ?_⟩) ?_
  rotate_left 1
  · intro w' hS'; go_simp; try with_reducible rfl
  simp only [Act.put]
  refine wpAnyM_take (i := 5) (v := ?_) rfl (by kernel_rfl) (by kernel_rfl) (by kernel_rfl) (by kernel_rfl) (by kernel_rfl) (fun _ _ _ h => h) hS (.inl ⟨by rfl, ?_⟩) ?_
  rotate_left 1
  · intro w' hS'; go_simp; try with_reducible rfl
  simp only [Act.put]
  refine wpAnyM_take (i := 6) (v := ?_) rfl (by kernel_rfl) (by kernel_rfl) (by kernel_rfl) (by kernel_rfl) (by kernel_rfl) (fun _ _ _ h => h) hS (.inl ⟨by rfl, ?_⟩) ?_
  rotate_left 1
  · intro w' hS'; go_simp; try with_reducible rfl
  simp only [Act.put]
  refine wpAnyM_take (i := 7) (v := ?_) rfl (by kernel_rfl) (by kernel_rfl) (by kernel_rfl) (by kernel_rfl) (by kernel_rfl) (fun _ _ _ h => h) hS (.inl ⟨by rfl, ?_⟩) ?_
  rotate_left 1
  · intro w' hS'; go_simp; try with_reducible rfl
  simp only [Act.put]
  clear k0 k1
  refine wpAnyM_one (i := 8) (by kernel_rfl) rfl (by rfl) (fun K hK => ?_)
  go_simp
  refine (l00Own_any A C zs u.drew ⟨ha.len, ha.cells⟩ hne).mono ?_
  rintro e w1 ⟨D, E, rfl, ow, hb⟩
  have hS1 : Below u.heap.size u w1 := hS.trans hb
  have hs1 := hS1.size
  replace ow : Own 2 w1 u.heap.size w1.heap.size (.slice D zs.length E) zs := ow
  replace b0 := b0.below hS1
  refine hK _ _ (.inr hS1) ?_
  try simp only [Act.put, List.setIfInBounds_toArray]
  clear hK K
  refine wpAnyM_one (i := 9) (by kernel_rfl) rfl (by rfl) (fun K hK => ?_)
  go_simp
  refine hK _ _ (.inr hS1) ?_
  try simp only [Act.put, List.setIfInBounds_toArray]
  clear hK K
  have c0 := b0.at_ 0 rfl
  have c1 := b0.at_ 1 rfl
  have f0 := b0.thaw 0
  have f1 := b0.thaw 1
  refine wpAnyM_one (i := 10) (by kernel_rfl) rfl (by rfl) (fun K hK => ?_)
  go_simp
  obtain ⟨w8, hw8⟩ : ∃ v, v = (w1.setCell ⟨r, 0, none⟩ (.int .i64 B)).setCell ⟨r, 1, none⟩ (.slice D zs.length E) := ⟨_, rfl⟩
  rw [← hw8]
  have b9 : Bx w8 r 24 #[.int .i64 B, .slice D zs.length E] := by rw [hw8]; exact (b0.set_ 0 _).set_ 1 _
  have t9 : Touch r (r + 1) w1 w8 := by rw [hw8]; exact ((Touch.refl _ _ _).setCell (by simp) (by simp) _).setCell (by simp) (by simp) _
  have hs9 := t9.size
  have ow9 := ow.touch t9 (.inr (by omega))
  have hb9 : Below r w w8 := (hbel.trans (hS1.mono (by omega))).trans (t9.below (by omega) (by omega))
  clear hw8 c0 c1 f0 f1
  refine hK _ _ (.inl rfl) ?_
  try simp only [Act.put, List.setIfInBounds_toArray]
  clear hK K
  refine wpAnyM_done (by kernel_rfl) ?_ _
  have c0 := b9.at_ 0 rfl
  have c1 := b9.at_ 1 rfl
  go_wp2_with fail
  refine bodyPost_ret (v := .agg #[.int .i64 B, .slice D zs.length E]) (by simp [results, Tryd.results78, go_sem, c0, c1]) rfl ?_
  have hr := HR.out
  exact ⟨D, E, rfl, ow9.wide (by omega) (by omega), by rw [← hr]; exact hb9⟩

/-- A number added to what the box holds. -/
theorem l09Add_set (q n : Nat) (B s x : Int) (A : Option Addr) (C lo hi : Nat) (w : World) (hF : fullB B (n : Int) = true) (hs : -(cntA B (n : Int) / 2) ≤ s ∧ s ≤ cntA B (n : Int) - 1 + -(cntA B (n : Int) / 2))
    (bq : Bx w q 24 #[.int .i64 B, .slice A n C]) (ow : Own 2 w lo hi (.slice A n C) (setA B (n : Int) s)) (hx1 : -1000000000000 ≤ x) (hx2 : x ≤ 1000000000000) :
    Calls Tryd.prog 77 #[.pointer (some ⟨q, 0, none⟩), .int .i64 x] w fun e w' => ∃ A' C', e = .returned (.tuple #[.agg #[.int .i64 B, .slice A' n C'], .bool (!inA (cntA B (n : Int)) (s + x))]) ∧
      Own 2 w' w.heap.size w'.heap.size (.slice A' n C') (setA B (n : Int) (shn (cntA B (n : Int)) (s + x))) ∧ Below w.heap.size w w' := by
  obtain ⟨h1, h2⟩ := accB_set hF s
  have h3 := numA_at hF hs
  have h4 := setA_shn hF (s + x)
  have h5 := (accB_set hF (s + x)).2
  have hb1 : w.cell? ⟨q, 1, none⟩ = some (.slice A (setA B (n : Int) s).length C) := by rw [h2]; exact bq.at_ 1 rfl
  have hr : Rd w A (setA B (n : Int) s) := ow.rd
  have := l09Add_any q B A C (setA B (n : Int) s) x w h1 hr (bq.at_ 0 rfl) hb1 hx1 hx2
  rw [h2, h3] at this
  rw [h4]
  simp only [h5] at this
  exact this

set_option maxRecDepth 100000 in
set_option maxHeartbeats 8000000 in
theorem specAccumulateAll (xB : Int) (xA : Option Addr) (xC : Nat) (xZ : List Int) (lA : Option Addr) (lC : Nat) (lZ : List Int) (w : World) (ha : Rd w xA xZ) (_ : All64 xZ) (_ : I64 xB) (hlst : Rd w lA lZ) (_ : All64 lZ) :
    Calls Tryd.prog 27 #[.agg #[.int .i64 xB, .slice xA xZ.length xC], .slice lA lZ.length lC] w (RegLisL (accR xB xZ lZ) w) := by
  have R := Tryd.results27
  have hbel : Below w.heap.size w w := Below.refl _ _
  have hll := hlst.len
  have HLL := Lib.hid hll
  have HL0 := Lib.hid hlst
  cases h : accB xB xZ with
  | false =>
    have HR := Lib.hid (show accR xB xZ lZ = (0, [], [], 1) by simp [accR, h])
    have H := Lib.hid h
    clear h
    go_enter Tryd.func27, Tryd.ntmps27
    go_wp2_with fail
    obtain ⟨p, hp⟩ : ∃ g, g = w.heap.size := ⟨_, rfl⟩
    have hk_p : w.heap.size ≤ p := Nat.le_of_eq hp.symm
    obtain ⟨u, hu⟩ : ∃ V, V = (w.alloc (.cells #[.int .i64 xB, .slice xA xZ.length xC] 24)).alloc (.cells #[.int .i64 0, .slice none 0 0] 24) := ⟨_, rfl⟩
    have b_p : Bx u p 24 #[.int .i64 xB, .slice xA xZ.length xC] := by rw [hu, hp]; exact (Bx.new _ _ _).alloc _
    have b_p1 : Bx u (p + 1) 24 #[.int .i64 0, .slice none 0 0] := by rw [hu, hp]; simpa using Bx.new (w.alloc (.cells #[.int .i64 xB, .slice xA xZ.length xC] 24)) #[.int .i64 0, .slice none 0 0] 24
    have hb : Below w.heap.size w u := by rw [hu]; exact ((Below.refl _ _).alloc (Nat.le_refl _) _).alloc (by simp) _
    rw [← hp, ← hu]
    clear hu hp
    replace ha := ha.below hb
    replace hbel := hbel.trans (hb.mono hbel.size)
    clear hb
    refine (l09Ok_at p xB xA xC xZ u H.out ha (b_p.at_ 0 rfl) (b_p.at_ 1 rfl)).mono ?_
    rintro e v ⟨rfl, hb⟩
    replace ha := ha.below hb
    replace b_p := b_p.below hb
    replace b_p1 := b_p1.below hb
    replace hbel := hbel.trans (hb.mono hbel.size)
    clear hb
    have r0 := b_p1.at_ 0 rfl
    have r1 := b_p1.at_ 1 rfl
    have f0 := b_p1.thaw 0
    have f1 := b_p1.thaw 1
    have hs := b_p1.lt
    have hbs := hbel.size
    go_wp2
    exact bodyPost_ret (v := .tuple #[.agg #[.int .i64 0, .slice none 0 0], .slice none 0 0, .int .i64 1]) (by simp [results, go_sem, r0, r1]) rfl
      (regLisL_err HR.out rfl (by repeat (first | with_reducible exact hbel | with_reducible refine Below.setCell ?_ (by first | omega | (simp <;> omega)) _ | with_reducible refine Below.alloc ?_ (by first | omega | (simp <;> omega)) _ | with_reducible refine Below.drew ?_)))
  | true =>
    have H := Lib.hid h
    have hlen := (okB_spec (accB_spec h).1).2.2.2.1
    have hlen0 := (okB_spec (accB_spec h).1).2.2.1
    obtain ⟨n, hn⟩ : ∃ n, n = xZ.length := ⟨_, rfl⟩
    have HN := Lib.hid hn
    have HF := Lib.hid (show fullB xB (n : Int) = true by rw [hn]; exact accB_full h)
    have HA := Lib.hid (fun k => runA_in (N := cntA xB (n : Int)) (s := numA xB xZ) (by have := cntA_bd HF.out; omega) (by rw [hn]; exact numA_in h) lZ k)
    have HS := Lib.hid (show setA xB (n : Int) (numA xB xZ) = xZ by rw [hn]; exact setA_num h)
    have HE1 := Lib.hid (fun hm : mostB lZ = false => show accR xB xZ lZ = (0, [], [], 2) by simp [accR, h, hm])
    have HE2 := Lib.hid (fun hm : mostB lZ = true => show accR xB xZ lZ = (xB, setA xB (n : Int) (runA (cntA xB (n : Int)) (numA xB xZ) lZ lZ.length).1, (runA (cntA xB (n : Int)) (numA xB xZ) lZ lZ.length).2, 0) by simp [accR, h, hm, hn])
    obtain ⟨s0, hs0⟩ : ∃ s, s = numA xB xZ := ⟨_, rfl⟩
    obtain ⟨N, hN⟩ : ∃ N, N = cntA xB (n : Int) := ⟨_, rfl⟩
    rw [← hs0, ← hN] at HA HE2
    rw [← hs0] at HS
    have HNN := Lib.hid hN
    clear h hs0 hN hn
    go_enter Tryd.func27, Tryd.ntmps27
    go_wp2_with fail
    obtain ⟨p, hp⟩ : ∃ g, g = w.heap.size := ⟨_, rfl⟩
    have hk_p : w.heap.size ≤ p := Nat.le_of_eq hp.symm
    obtain ⟨u, hu⟩ : ∃ V, V = (w.alloc (.cells #[.int .i64 xB, .slice xA xZ.length xC] 24)).alloc (.cells #[.int .i64 0, .slice none 0 0] 24) := ⟨_, rfl⟩
    have b_p : Bx u p 24 #[.int .i64 xB, .slice xA xZ.length xC] := by rw [hu, hp]; exact (Bx.new _ _ _).alloc _
    have b_p1 : Bx u (p + 1) 24 #[.int .i64 0, .slice none 0 0] := by rw [hu, hp]; simpa using Bx.new (w.alloc (.cells #[.int .i64 xB, .slice xA xZ.length xC] 24)) #[.int .i64 0, .slice none 0 0] 24
    have hb : Below w.heap.size w u := by rw [hu]; exact ((Below.refl _ _).alloc (Nat.le_refl _) _).alloc (by simp) _
    rw [← hp, ← hu]
    clear hu hp
    replace ha := ha.below hb
    replace hlst := hlst.below hb
    replace hbel := hbel.trans (hb.mono hbel.size)
    clear hb
    refine (l09Ok_at p xB xA xC xZ u H.out ha (b_p.at_ 0 rfl) (b_p.at_ 1 rfl)).mono ?_
    rintro e v ⟨rfl, hb1⟩
    replace ha := ha.below hb1
    replace hlst := hlst.below hb1
    replace b_p := b_p.below hb1
    replace b_p1 := b_p1.below hb1
    replace hbel := hbel.trans (hb1.mono hbel.size)
    clear hb1
    have hpv : p + 1 < v.heap.size := b_p1.lt
    have r0 := b_p1.at_ 0 rfl
    have r1 := b_p1.at_ 1 rfl
    have f0 := b_p1.thaw 0
    have f1 := b_p1.thaw 1
    have hs := b_p1.lt
    have hbs := hbel.size
    go_wp2_with fail
    go_loop [7] (fun i => ∃ k : Nat, k ≤ lZ.length ∧ i = .int .i64 k ∧ Hid (∀ j, j < k → inB (nth lZ j) (-1000000000000) 1000000000000 = true)) (fun i => lZ.length - (intOf i).toNat)
    case atStart => exact ⟨0, Nat.zero_le _, rfl, Lib.hid (fun j hj => by omega)⟩
    case round =>
      obtain ⟨k, hk, rfl, HT⟩ := hrel
      by_cases hlt : k < lZ.length
      · obtain ⟨q, off, rfl, hc⟩ := hlst.at_ hlt
        cases hd : inB (nth lZ k) (-1000000000000) 1000000000000 with
        | true =>
          have HI := Lib.hid (fun w => l09Most_at (v := true) (nth lZ k) w hd)
          have HT' := Lib.hid (show ∀ j, j < k + 1 → inB (nth lZ j) (-1000000000000) 1000000000000 = true from fun j hj => by
            by_cases e : j = k
            · subst e; exact hd
            · exact HT.out j (by omega))
          clear hd r0 r1 f0 f1
          go_wp2_with (go_at_call 76; refine (HI.out _).mono ?_; rintro e w1 ⟨rfl, hw⟩; subst w1)
          go_round
          case rel => exact ⟨k + 1, by omega, by go_num, HT'⟩
          case measure => (simp [intOf]) <;> omega
        | false =>
          have HI := Lib.hid (fun w => l09Most_at (v := false) (nth lZ k) w hd)
          have HR := Lib.hid (HE1.out (mostB_not hlt hd))
          clear hd
          go_wp2_with (go_at_call 76; refine (HI.out _).mono ?_; rintro e w1 ⟨rfl, hw⟩; subst w1)
          exact bodyPost_ret (v := .tuple #[.agg #[.int .i64 0, .slice none 0 0], .slice none 0 0, .int .i64 2]) (by simp [results, go_sem, r0, r1]) rfl
            (regLisL_err HR.out rfl (by repeat (first | with_reducible exact hbel | with_reducible refine Below.setCell ?_ (by first | omega | (simp <;> omega)) _ | with_reducible refine Below.alloc ?_ (by first | omega | (simp <;> omega)) _ | with_reducible refine Below.drew ?_)))
      · obtain rfl : k = lZ.length := by omega
        have hm := mostB_all HT.out
        have HR := Lib.hid (HE2.out hm)
        have HM := Lib.hid (fun k hk => mostB_at hm (k := k) hk)
        clear hm HT hlt r0 r1 f0 f1 hs hbs
        go_wp2_with fail
        refine (l02OwnR_any p xB xA xC xZ v ha (by omega) (b_p.at_ 0 rfl) (b_p.at_ 1 rfl)).mono ?_
        rintro e v1 ⟨A0, C0, rfl, ow0, hb1⟩
        have hv1 := hb1.size
        replace ha := ha.below hb1
        replace hlst := hlst.below hb1
        replace b_p := b_p.below hb1
        replace b_p1 := b_p1.below hb1
        replace hbel := hbel.trans (hb1.mono hbel.size)
        clear hb1
        go_upto_region 9 with fail
        obtain ⟨q, hq⟩ : ∃ g, g = v1.heap.size := ⟨_, rfl⟩
        have hk_q : v1.heap.size ≤ q := Nat.le_of_eq hq.symm
        obtain ⟨v2, hv2⟩ : ∃ V, V = v1.alloc (.cells #[.int .i64 xB, .slice A0 xZ.length C0] 24) := ⟨_, rfl⟩
        have b_q : Bx v2 q 24 #[.int .i64 xB, .slice A0 xZ.length C0] := by rw [hv2, hq]; exact Bx.new _ _ _
        have hb : Below v1.heap.size v1 v2 := by rw [hv2]; exact (Below.refl _ _).alloc (Nat.le_refl _) _
        rw [← hq, ← hv2]
        clear hv2 hq
        replace ha := ha.below hb
        replace hlst := hlst.below hb
        replace b_p := b_p.below hb
        replace b_p1 := b_p1.below hb
        replace ow0 := ow0.below hb
        replace hbel := hbel.trans (hb.mono hbel.size)
        clear hb
        have hq2 := b_q.lt
        have hp2 := b_p1.lt
        have hbs := hbel.size
        rw [← HN.out] at ow0 b_q ⊢
        have hvq : v.heap.size ≤ q := by omega
        obtain ⟨z0, hz0⟩ : ∃ z, z = v.heap.size := ⟨_, rfl⟩
        obtain ⟨z2, hz2⟩ : ∃ z, z = v2.heap.size := ⟨_, rfl⟩
        rw [← HS.out] at ow0
        have hzq : z0 ≤ q ∧ q < z2 := by omega
        rw [← hz0] at ow0
        have hp0 : p + 1 < z0 := by omega
        have hwz : w.heap.size ≤ q := by omega
        have HB2 := Lib.hid hbel
        have HP := Lib.hid b_p1
        clear hbel b_p1 b_p ha
        go_wp2_with fail
        go_loopw [9, 10, 11, 12] (fun l i _ _ wr => ∃ (k : Nat) (A : Option Addr) (C : Nat) (D : Option Addr) (E lo hi : Nat), k ≤ lZ.length ∧ i = .int .i64 k ∧ l = .slice D (runA N s0 lZ k).2.length E ∧ Bx wr q 24 #[.int .i64 xB, .slice A n C] ∧
          Own 2 wr lo hi (.slice A n C) (setA xB (n : Int) (runA N s0 lZ k).1) ∧ z0 ≤ lo ∧ hi ≤ wr.heap.size ∧ (hi ≤ q ∨ q < lo) ∧ Own 2 wr z2 wr.heap.size (.slice D (runA N s0 lZ k).2.length E) (runA N s0 lZ k).2 ∧ Below q v2 wr ∧ z2 ≤ wr.heap.size) (fun _ i _ _ _ => lZ.length - (intOf i).toNat)
        case atStart => exact ⟨0, A0, C0, _, _, z0, v1.heap.size, Nat.zero_le _, rfl, rfl, b_q.alloc _, by simpa [runA] using ow0.alloc _, Nat.le_refl _, by simp; omega, .inl hk_q, by simpa [runA, hz2] using (own_lit9 2 v2).wide (Nat.le_refl _) (by simp), (Below.refl _ _).alloc (by omega) _, by simp; omega⟩
        case round =>
          obtain ⟨j, A, C, D, E, lo, hi, hj, rfl, rfl, bq, owr, hlo, hhi, hdis, owl, hbw, hzw⟩ := hrel
          have hqw := bq.lt
          have hl1 := runA_len N s0 lZ j
          have hwr : Below w.heap.size w wr := HB2.out.trans (hbw.mono hwz)
          by_cases hlt : j < lZ.length
          · obtain ⟨a, off, rfl, hc0⟩ := HL0.out.at_ hlt
            have hc := kept hwr hc0
            have hx := HM.out j hlt
            have hl2 := runA_len N s0 lZ (j + 1)
            have HW := Lib.hid (l09Add_set q n xB (runA N s0 lZ j).1 (nth lZ j) A C lo hi wr HF.out (by rw [← HNN.out]; exact HA.out j) bq owr hx.1 hx.2)
            rw [← HNN.out, ← runA_one] at HW
            clear hc0
            cases hv : inA N ((runA N s0 lZ j).1 + nth lZ j) with
            | true =>
              have HBL := Lib.hid (runA_none hv)
              rw [hv] at HW
              clear hv
              go_wp2_with fail
              refine HW.out.mono ?_
              rintro e w3 ⟨A', C', rfl, ow3, hb3⟩
              have hs3 := hb3.size
              replace bq := bq.below hb3
              replace owl := owl.below hb3
              replace hbw := hbw.trans (hb3.mono (by omega))
              clear HW owr hb3 hc
              go_upto_region 14 with fail
              obtain ⟨V4, hV4⟩ : ∃ V, V = w3.alloc (.cells #[.int .i64 xB, .slice A' n C'] 24) := ⟨_, rfl⟩
              obtain ⟨g, hg⟩ : ∃ g, g = w3.heap.size := ⟨_, rfl⟩
              have b11 : Bx V4 g 24 #[.int .i64 xB, .slice A' n C'] := by rw [hV4, hg]; exact Bx.new _ _ _
              have hb : Below w3.heap.size w3 V4 := by rw [hV4]; exact (Below.refl _ _).alloc (Nat.le_refl _) _
              rw [← hV4, ← hg]
              have hs4 := hb.size
              replace bq := bq.below hb
              replace owl := owl.below hb
              replace ow3 := ow3.below hb
              replace hbw := hbw.trans (hb.mono (by omega))
              clear hV4 hb hg
              have c0 := bq.at_ 0 rfl
              have c1 := bq.at_ 1 rfl
              have f0 := bq.thaw 0
              have f1 := bq.thaw 1
              have d0 := b11.at_ 0 rfl
              have d1 := b11.at_ 1 rfl
              have hqV := bq.lt
              have hgV := b11.lt
              go_wp2
              go_roundw
              case rel => exact ⟨j + 1, A', C', D, E, wr.heap.size, w3.heap.size, by omega, by go_num, by rw [HBL.out], by simpa using (bq.set_ 0 (.int .i64 xB)).set_ 1 (.slice A' n C'), (ow3.setCell (p := ⟨q, 0, none⟩) (.inl hqw) _).setCell (p := ⟨q, 1, none⟩) (.inl hqw) _, by omega, by simp; omega, .inr hqw,
                by rw [HBL.out]; exact ((owl.setCell (p := ⟨q, 0, none⟩) (.inl (by simp; omega)) _).setCell (p := ⟨q, 1, none⟩) (.inl (by simp; omega)) _).wide (Nat.le_refl _) (by simp; omega), (hbw.setCell (p := ⟨q, 0, none⟩) (Nat.le_refl _) _).setCell (p := ⟨q, 1, none⟩) (Nat.le_refl _) _, by simp; omega⟩
              case measure => (simp [intOf]) <;> omega
            | false =>
              have HBL := Lib.hid (runA_bell hv)
              rw [hv] at HW
              clear hv
              go_wp2_with fail
              refine HW.out.mono ?_
              rintro e w3 ⟨A', C', rfl, ow3, hb3⟩
              have hs3 := hb3.size
              replace bq := bq.below hb3
              replace owl := owl.below hb3
              replace hbw := hbw.trans (hb3.mono (by omega))
              clear HW owr hb3 hc
              go_upto_region 14 with fail
              obtain ⟨V4, hV4⟩ : ∃ V, V = w3.alloc (.cells #[.int .i64 xB, .slice A' n C'] 24) := ⟨_, rfl⟩
              obtain ⟨g, hg⟩ : ∃ g, g = w3.heap.size := ⟨_, rfl⟩
              have b11 : Bx V4 g 24 #[.int .i64 xB, .slice A' n C'] := by rw [hV4, hg]; exact Bx.new _ _ _
              have hb : Below w3.heap.size w3 V4 := by rw [hV4]; exact (Below.refl _ _).alloc (Nat.le_refl _) _
              rw [← hV4, ← hg]
              have hs4 := hb.size
              replace bq := bq.below hb
              replace owl := owl.below hb
              replace ow3 := ow3.below hb
              replace hbw := hbw.trans (hb.mono (by omega))
              clear hV4 hb hg
              have c0 := bq.at_ 0 rfl
              have c1 := bq.at_ 1 rfl
              have f0 := bq.thaw 0
              have f1 := bq.thaw 1
              have d0 := b11.at_ 0 rfl
              have d1 := b11.at_ 1 rfl
              have hqV := bq.lt
              have hgV := b11.lt
              go_upto_region 15 with fail
              obtain ⟨V5, hV5⟩ : ∃ V, V = (V4.setCell ⟨q, 0, none⟩ (.int .i64 xB)).setCell ⟨q, 1, none⟩ (.slice A' n C') := ⟨_, rfl⟩
              replace bq : Bx V5 q 24 #[.int .i64 xB, .slice A' n C'] := by rw [hV5]; simpa using (bq.set_ 0 (.int .i64 xB)).set_ 1 (.slice A' n C')
              replace ow3 : Own 2 V5 wr.heap.size w3.heap.size (.slice A' n C') (setA xB (n : Int) (runA N s0 lZ (j + 1)).1) := by rw [hV5]; exact (ow3.setCell (p := ⟨q, 0, none⟩) (.inl hqw) _).setCell (p := ⟨q, 1, none⟩) (.inl hqw) _
              replace owl : Own 2 V5 z2 wr.heap.size (.slice D (runA N s0 lZ j).2.length E) (runA N s0 lZ j).2 := by rw [hV5]; exact (owl.setCell (p := ⟨q, 0, none⟩) (.inl (by simp; omega)) _).setCell (p := ⟨q, 1, none⟩) (.inl (by simp; omega)) _
              replace hbw : Below q v2 V5 := by rw [hV5]; exact (hbw.setCell (p := ⟨q, 0, none⟩) (Nat.le_refl _) _).setCell (p := ⟨q, 1, none⟩) (Nat.le_refl _) _
              have hs5 : V5.heap.size = V4.heap.size := by rw [hV5]; simp
              rw [← hV5]
              have HS5 := Lib.hid hs5
              have hs6 : w3.heap.size ≤ V5.heap.size := by omega
              have hs7 : wr.heap.size ≤ V5.heap.size := by omega
              clear hV5 hs5 c0 c1 f0 f1 d0 d1 hqV hgV b11
              go_wp2_with (at_builtin; go_must (refine wpList_appI rfl (.tmp 47) (.tmp 49) 22 2 rfl Tryd.underlying22 info_int64 rfl (owl.alloc _) rfl ⟨V5.heap.size, 0, none⟩ 1 (j : Int) rfl (cell_new1 V5 _ _) (by omega) (by simp; omega) ?_); intro D' E' w6 ow6 ht6)
              have hs8 := ht6.size
              simp only [World.size_alloc] at hs8
              replace bq := (bq.alloc _).touch ht6 (by omega)
              replace ow3 := (ow3.alloc _).touch ht6 (by omega)
              rw [← HBL.out] at ow6
              have HL9 := Lib.hid (congrArg List.length HBL.out)
              go_roundw
              case rel => exact ⟨j + 1, A', C', D', E', wr.heap.size, w3.heap.size, by omega, by go_num, by rw [HL9.out]; simp, bq, ow3, by omega, by omega, .inr hqw,
                by rw [HL9.out]; simpa using ow6, (hbw.alloc (by omega) _).trans (ht6.below (by omega) (by simp; omega)), by omega⟩
              case measure => (simp [intOf]) <;> omega
          · obtain rfl : j = lZ.length := by omega
            have bp := (HP.out.below (show Below v2.heap.size v2 v2 from Below.refl _ _))
            replace bp : Bx wr (p + 1) 24 #[.int .i64 0, .slice none 0 0] := bp.lo hbw (by omega)
            have c0 := bq.at_ 0 rfl
            have c1 := bq.at_ 1 rfl
            have r0 := bp.at_ 0 rfl
            have r1 := bp.at_ 1 rfl
            have f0 := bp.thaw 0
            have f1 := bp.thaw 1
            have hs := bp.lt
            have hbs := hwr.size
            go_wp2
            exact bodyPost_ret (v := .tuple #[.agg #[.int .i64 xB, .slice A n C], .slice D (runA N s0 lZ lZ.length).2.length E, .int .i64 0]) (by simp [results, go_sem, r0, r1]) rfl
              (regLisL_ok HR.out (accB_set HF.out _).2 rfl rfl ((owr.setCell (p := ⟨p + 1, 0, none⟩) (.inl (by simp; omega)) _).setCell (p := ⟨p + 1, 1, none⟩) (.inl (by simp; omega)) _)
                ((owl.setCell (p := ⟨p + 1, 0, none⟩) (.inl (by simp; omega)) _).setCell (p := ⟨p + 1, 1, none⟩) (.inl (by simp; omega)) _) (by omega) (by simp) (by omega) (by simpa using hhi) (by repeat (first | with_reducible exact hwr | with_reducible refine Below.setCell ?_ (by first | omega | (simp <;> omega)) _ | with_reducible refine Below.alloc ?_ (by first | omega | (simp <;> omega)) _ | with_reducible refine Below.drew ?_)))
end Go.Proofs.YtiogbpnnnpodkaaDoor
