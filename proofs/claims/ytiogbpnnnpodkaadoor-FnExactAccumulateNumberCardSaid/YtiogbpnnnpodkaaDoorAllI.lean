/-
  impl: the closure that adds numbers one after the other; AccumulateAll.
-/
import Derived.Test.YtiogbpnnnpodkaaDoorShnI
import Derived.Test.YtiogbpnnnpodkaaDoorIsI
import Derived.Test.YtiogbpnnnpodkaaDoorAllM
import Derived.Deep.Cut
import Derived.Test.YtiogbpnnnpodkaaDoorRgsI
import Derived.Test.YtiogbpnnnpodkaaDoorWithin
namespace Go.Proofs.YtiogbpnnnpodkaaDoor
open Go.RowKit

/-- The closure. -/
def accF (c : Nat) : Value := .func (.func 124) #[] #[.pointer (some ⟨c, 0, none⟩), .pointer (some ⟨c + 1, 0, none⟩)]

set_option maxHeartbeats 1000000 in
theorem accumulating_any (B n N s : Int) (w : World) :
    Calls Tryd.prog 80 #[.agg #[.int .i64 B, .int .i64 n, .int .i64 N], .int .i64 s] w fun e w' => e = .returned (accF w.heap.size) ∧
      Bx w' w.heap.size 81 #[.int .i64 B, .int .i64 n, .int .i64 N] ∧ Bx w' (w.heap.size + 1) 2 #[.int .i64 s] ∧ Below w.heap.size w w' := by
  go_enter Tryd.func80, Tryd.ntmps80
  go_wp2
  go_ret
  refine ⟨rfl, (Bx.new _ _ _).alloc _, ?_, (by repeat (first | exact Below.refl _ _ | refine Below.setCell ?_ (by first | omega | (simp <;> omega)) _ | refine Below.alloc ?_ (by first | omega | (simp <;> omega)) _ | refine Below.drew ?_))⟩
  simpa using Bx.new (w.alloc (.cells #[.int .i64 B, .int .i64 n, .int .i64 N] 81)) #[.int .i64 s] 2

/-- What the closure tells of the bell. -/
def bellO (a : Addr) (i : Bool) : Value := match i with | true => .nilIface | false => bellV a

set_option maxHeartbeats 4000000 in
theorem accStep_any (a : Addr) (B n N s x : Int) (c : Nat) (w : World) (h1 : 1 ≤ N) (h2 : N ≤ 1000000000001) (hs1 : -1000000000001 ≤ s) (hs2 : s ≤ 1000000000001) (hx1 : -1000000000000 ≤ x) (hx2 : x ≤ 1000000000000) (hl : BellAt w a)
    (b1 : Bx w c 81 #[.int .i64 B, .int .i64 n, .int .i64 N]) (b2 : Bx w (c + 1) 2 #[.int .i64 s]) :
    Calls Tryd.prog 124 #[.int .i64 x, .pointer (some ⟨c, 0, none⟩), .pointer (some ⟨c + 1, 0, none⟩)] w fun e w' => e = .returned (.tuple #[.int .i64 (shn N (s + x)), bellO a (inA N (s + x))]) ∧
      Bx w' c 81 #[.int .i64 B, .int .i64 n, .int .i64 N] ∧ Bx w' (c + 1) 2 #[.int .i64 (shn N (s + x))] ∧ Touch (c + 1) (c + 2) w w' := by
  have R := Tryd.results124
  obtain ⟨y, hy⟩ : ∃ y, y = s + x := ⟨_, rfl⟩
  rw [← hy]
  have hw1 : IntKind.i64.wrap (s + x) = y := by rw [← hy]; exact IntWalk.i64_in _ (by omega)
  have hw2 : wrap64 (s + x) = y := by rw [← hy]; unfold wrap64; omega
  have hy64 : I64 y := i64_of (by omega) (by omega)
  have hcz := b2.lt
  clear hy
  have c0 := b1.at_ 0 rfl
  have c1 := b1.at_ 1 rfl
  have c2 := b1.at_ 2 rfl
  have d0 := b2.at_ 0 rfl
  cases hi : inA N y with
  | true =>
    have hsy := (shn_eq h1 y).2 hi
    rw [hsy]
    have HC := Lib.hid (shown_in B n N y w h1 h2 hy64 hi)
    clear hi hsy
    go_enter Tryd.func124, Tryd.ntmps124
    go_wp2_with fail
    refine HC.out.mono ?_
    rintro e w1 ⟨rfl, hb⟩
    replace b1 := b1.below hb
    replace b2 := b2.below hb
    have hsz := hb.size
    clear c0 c1 c2 d0 HC
    have d0 := b2.at_ 0 rfl
    have df := b2.thaw 0
    go_wp2
    exact bodyPost_ret (v := .tuple #[.int .i64 y, .nilIface]) (by simp [results, go_sem]) rfl
      ⟨rfl, b1.far (by simp) _, by simpa using b2.set_ 0 (.int .i64 y), Touch.setCell (Below.touch hb) (p := ⟨c + 1, 0, none⟩) (Nat.le_refl _) (by simp) _⟩
  | false =>
    have HC := Lib.hid (shown_out B n N y a w h1 h2 hy64 hi hl)
    clear hi
    obtain ⟨z, hz⟩ : ∃ z, z = shn N y := ⟨_, rfl⟩
    rw [← hz] at HC ⊢
    clear hz
    go_enter Tryd.func124, Tryd.ntmps124
    go_wp2_with fail
    refine HC.out.mono ?_
    rintro e w1 ⟨rfl, hb⟩
    replace b1 := b1.below hb
    replace b2 := b2.below hb
    have hsz := hb.size
    clear c0 c1 c2 d0 HC
    have d0 := b2.at_ 0 rfl
    have df := b2.thaw 0
    go_wp2
    exact bodyPost_ret (v := .tuple #[.int .i64 z, bellV a]) (by simp [results, go_sem]) rfl
      ⟨rfl, b1.far (by simp) _, by simpa using b2.set_ 0 (.int .i64 z), Touch.setCell (Below.touch hb) (p := ⟨c + 1, 0, none⟩) (Nat.le_refl _) (by simp) _⟩

theorem is_bell (a : Addr) (i : Bool) (w : World) :
    Calls Tryd.prog 70 #[bellO a i, bellV a] w fun e w' => e = .returned (.bool (!i)) ∧ w' = w := by
  cases i with
  | true => exact is_nil a w
  | false => exact is_same a w

theorem rangeB_most (l : List Int) : rangeB (-1000000000000) 1000000000000 l = mostB l := by
  unfold rangeB mostB
  rw [Bool.eq_iff_iff]
  simp [inB]
theorem numA_small' {B : Int} {zs : List Int} (h : accB B zs = true) : -1000000000001 ≤ numA B zs ∧ numA B zs ≤ 1000000000001 := by
  have h1 := numA_in h
  have h2 := cntA_bd (accB_full h)
  omega

set_option maxRecDepth 100000 in
set_option maxHeartbeats 8000000 in
theorem accAll_any (a : Addr) (xB : Int) (xA : Option Addr) (xC : Nat) (xZ : List Int) (lA : Option Addr) (lC : Nat) (lZ : List Int) (w : World) (ha : Rd w xA xZ) (z : All64 xZ) (b : I64 xB) (hlst : Rd w lA lZ) (hl : BellAt w a) :
    Calls Tryd.prog 29 #[.agg #[.int .i64 xB, .slice xA xZ.length xC], .slice lA lZ.length lC] w (RegLisC (accR xB xZ lZ) w) := by
  have R := Tryd.results29
  have hbel : Below w.heap.size w w := Below.refl _ _
  have hll := hlst.len
  have HL0 := Lib.hid hlst
  have HBA := Lib.hid hl
  cases h : accB xB xZ with
  | false =>
    have HR := Lib.hid (show accR xB xZ lZ = (0, [], [], 1) by simp [accR, h])
    have HO := Lib.hid (fun u (ha : Rd u xA xZ) => accOf_no xB xA xC xZ u ha z b h)
    clear h
    go_enter Tryd.func29, Tryd.ntmps29
    go_wp2_with fail
    obtain ⟨p, hp⟩ : ∃ g, g = w.heap.size := ⟨_, rfl⟩
    have hk_p : w.heap.size ≤ p := Nat.le_of_eq hp.symm
    obtain ⟨u, hu⟩ : ∃ V, V = (w.alloc (.cells #[.int .i64 xB, .slice xA xZ.length xC] 24)).alloc (.cells #[.int .i64 0, .slice none 0 0] 24) := ⟨_, rfl⟩
    have b_p : Bx u p 24 #[.int .i64 xB, .slice xA xZ.length xC] := by rw [hu, hp]; exact (Bx.new _ _ _).alloc _
    have b_p1 : Bx u (p + 1) 24 #[.int .i64 0, .slice none 0 0] := by rw [hu, hp]; simpa using Bx.new (w.alloc (.cells #[.int .i64 xB, .slice xA xZ.length xC] 24)) #[.int .i64 0, .slice none 0 0] 24
    have hb : Below w.heap.size w u := by rw [hu]; exact ((Below.refl _ _).alloc (Nat.le_refl _) _).alloc (by simp) _
    rw [← hp, ← hu]
    clear hu hp
    replace ha := ha.below hb
    replace hbel := hbel.trans (hb.mono hbel.size)
    clear hb
    refine (HO.out u ha).mono ?_
    rintro e v ⟨rfl, hb⟩
    replace ha := ha.below hb
    replace b_p := b_p.below hb
    replace b_p1 := b_p1.below hb
    replace hbel := hbel.trans (hb.mono hbel.size)
    clear hb
    go_upto_region 2 with fail
    obtain ⟨q, hq⟩ : ∃ g, g = v.heap.size := ⟨_, rfl⟩
    have hk_q : v.heap.size ≤ q := Nat.le_of_eq hq.symm
    obtain ⟨v2, hv2⟩ : ∃ V, V = v.alloc (.cells #[.int .i64 0, .int .i64 0, .int .i64 0] 81) := ⟨_, rfl⟩
    have b_q : Bx v2 q 81 #[.int .i64 0, .int .i64 0, .int .i64 0] := by rw [hv2, hq]; exact Bx.new _ _ _
    have hb : Below v.heap.size v v2 := by rw [hv2]; exact (Below.refl _ _).alloc (Nat.le_refl _) _
    rw [← hq, ← hv2]
    clear hv2 hq
    replace ha := ha.below hb
    replace b_p := b_p.below hb
    replace b_p1 := b_p1.below hb
    replace hbel := hbel.trans (hb.mono hbel.size)
    clear hb
    have r0 := b_p1.at_ 0 rfl
    have r1 := b_p1.at_ 1 rfl
    have f0 := b_p1.thaw 0
    have f1 := b_p1.thaw 1
    have hs := b_p1.lt
    have hbs := hbel.size
    go_wp2
    exact bodyPost_ret (v := .tuple #[.agg #[.int .i64 0, .slice none 0 0], .slice none 0 0, .int .i64 1]) (by simp [results, go_sem, r0, r1]) rfl
      (regLisC_err HR.out rfl (by repeat (first | with_reducible exact hbel | with_reducible refine Below.setCell ?_ (by first | omega | (simp <;> omega)) _ | with_reducible refine Below.alloc ?_ (by first | omega | (simp <;> omega)) _ | with_reducible refine Below.drew ?_)))
  | true =>
    have hlen := (okB_spec (accB_spec h).1).2.2.2.1
    have hlen0 := (okB_spec (accB_spec h).1).2.2.1
    have hF := accB_full h
    have HF := Lib.hid hF
    have hc := cntA_bd hF
    have hsm := numA_small' h
    have HO := Lib.hid (fun u (ha : Rd u xA xZ) (hl : BellAt u a) => accOf_ok a xB xA xC xZ u ha z b h hl)
    have HA := Lib.hid (fun k => runA_in (N := cntA xB xZ.length) (s := numA xB xZ) (by omega) (numA_in h) lZ k)
    have HG := Lib.hid (fun (u : World) (s : Int) => register_any xB xZ.length s u hF)
    cases hm : mostB lZ with
    | false =>
      have HR := Lib.hid (show accR xB xZ lZ = (0, [], [], 2) by simp [accR, h, hm])
      have HW := Lib.hid (fun (u : World) (hr : Rd u lA lZ) => within_any (-1000000000000) 1000000000000 lA lC lZ u hr)
      rw [rangeB_most, hm] at HW
      clear h hm hF
      go_enter Tryd.func29, Tryd.ntmps29
      go_wp2_with fail
      obtain ⟨p, hp⟩ : ∃ g, g = w.heap.size := ⟨_, rfl⟩
      have hk_p : w.heap.size ≤ p := Nat.le_of_eq hp.symm
      obtain ⟨u, hu⟩ : ∃ V, V = (w.alloc (.cells #[.int .i64 xB, .slice xA xZ.length xC] 24)).alloc (.cells #[.int .i64 0, .slice none 0 0] 24) := ⟨_, rfl⟩
      have b_p : Bx u p 24 #[.int .i64 xB, .slice xA xZ.length xC] := by rw [hu, hp]; exact (Bx.new _ _ _).alloc _
      have b_p1 : Bx u (p + 1) 24 #[.int .i64 0, .slice none 0 0] := by rw [hu, hp]; simpa using Bx.new (w.alloc (.cells #[.int .i64 xB, .slice xA xZ.length xC] 24)) #[.int .i64 0, .slice none 0 0] 24
      have hb : Below w.heap.size w u := by rw [hu]; exact ((Below.refl _ _).alloc (Nat.le_refl _) _).alloc (by simp) _
      rw [← hp, ← hu]
      clear hu hp
      replace ha := ha.below hb
      replace hlst := hlst.below hb
      replace hl := hl.below hb
      replace hbel := hbel.trans (hb.mono hbel.size)
      clear hb
      refine (HO.out u ha hl).mono ?_
      rintro e v ⟨rfl, hb⟩
      replace ha := ha.below hb
      replace hlst := hlst.below hb
      replace hl := hl.below hb
      replace b_p := b_p.below hb
      replace b_p1 := b_p1.below hb
      replace hbel := hbel.trans (hb.mono hbel.size)
      clear hb
      go_upto_region 2 with fail
      obtain ⟨q, hq⟩ : ∃ g, g = v.heap.size := ⟨_, rfl⟩
      have hk_q : v.heap.size ≤ q := Nat.le_of_eq hq.symm
      obtain ⟨v2, hv2⟩ : ∃ V, V = v.alloc (.cells #[.int .i64 xB, .int .i64 xZ.length, .int .i64 (cntA xB xZ.length)] 81) := ⟨_, rfl⟩
      have b_q : Bx v2 q 81 #[.int .i64 xB, .int .i64 xZ.length, .int .i64 (cntA xB xZ.length)] := by rw [hv2, hq]; exact Bx.new _ _ _
      have hb : Below v.heap.size v v2 := by rw [hv2]; exact (Below.refl _ _).alloc (Nat.le_refl _) _
      rw [← hq, ← hv2]
      clear hv2 hq
      replace ha := ha.below hb
      replace hlst := hlst.below hb
      replace hl := hl.below hb
      replace b_p := b_p.below hb
      replace b_p1 := b_p1.below hb
      replace hbel := hbel.trans (hb.mono hbel.size)
      clear hb
      go_wp2_with fail
      refine (HW.out v2 hlst).mono ?_
      rintro e v3 ⟨rfl, hw⟩
      subst v3
      have r0 := b_p1.at_ 0 rfl
      have r1 := b_p1.at_ 1 rfl
      have f0 := b_p1.thaw 0
      have f1 := b_p1.thaw 1
      have hs := b_p1.lt
      have hbs := hbel.size
      go_wp2
      exact bodyPost_ret (v := .tuple #[.agg #[.int .i64 0, .slice none 0 0], .slice none 0 0, .int .i64 2]) (by simp [results, go_sem, r0, r1]) rfl
        (regLisC_err HR.out rfl (by repeat (first | with_reducible exact hbel | with_reducible refine Below.setCell ?_ (by first | omega | (simp <;> omega)) _ | with_reducible refine Below.alloc ?_ (by first | omega | (simp <;> omega)) _ | with_reducible refine Below.drew ?_)))
    | true =>
      have HR := Lib.hid (show accR xB xZ lZ = (xB, setA xB xZ.length (runA (cntA xB xZ.length) (numA xB xZ) lZ lZ.length).1, (runA (cntA xB xZ.length) (numA xB xZ) lZ lZ.length).2, 0) by simp [accR, h, hm])
      have HW := Lib.hid (fun (u : World) (hr : Rd u lA lZ) => within_any (-1000000000000) 1000000000000 lA lC lZ u hr)
      rw [rangeB_most, hm] at HW
      have HM := Lib.hid (fun k hk => mostB_at hm (k := k) hk)
      obtain ⟨s0, hs0⟩ : ∃ s, s = numA xB xZ := ⟨_, rfl⟩
      obtain ⟨N, hN⟩ : ∃ N, N = cntA xB xZ.length := ⟨_, rfl⟩
      rw [← hs0, ← hN] at HA HR
      rw [← hs0] at hsm
      rw [← hN] at hc
      have HO' := HO.out
      rw [← hs0, ← hN] at HO'
      have HO2 := Lib.hid HO'
      have HG' := HG.out
      rw [← hN] at HG'
      have HG2 := Lib.hid HG'
      clear h hm hF hs0 hN HO HO' HG HG'
      go_enter Tryd.func29, Tryd.ntmps29
      go_wp2_with fail
      obtain ⟨p, hp⟩ : ∃ g, g = w.heap.size := ⟨_, rfl⟩
      have hk_p : w.heap.size ≤ p := Nat.le_of_eq hp.symm
      obtain ⟨u, hu⟩ : ∃ V, V = (w.alloc (.cells #[.int .i64 xB, .slice xA xZ.length xC] 24)).alloc (.cells #[.int .i64 0, .slice none 0 0] 24) := ⟨_, rfl⟩
      have b_p : Bx u p 24 #[.int .i64 xB, .slice xA xZ.length xC] := by rw [hu, hp]; exact (Bx.new _ _ _).alloc _
      have b_p1 : Bx u (p + 1) 24 #[.int .i64 0, .slice none 0 0] := by rw [hu, hp]; simpa using Bx.new (w.alloc (.cells #[.int .i64 xB, .slice xA xZ.length xC] 24)) #[.int .i64 0, .slice none 0 0] 24
      have hb : Below w.heap.size w u := by rw [hu]; exact ((Below.refl _ _).alloc (Nat.le_refl _) _).alloc (by simp) _
      rw [← hp, ← hu]
      clear hu hp
      replace ha := ha.below hb
      replace hlst := hlst.below hb
      replace hl := hl.below hb
      replace hbel := hbel.trans (hb.mono hbel.size)
      clear hb
      refine (HO2.out u ha hl).mono ?_
      rintro e v ⟨rfl, hb⟩
      replace ha := ha.below hb
      replace hlst := hlst.below hb
      replace hl := hl.below hb
      replace b_p := b_p.below hb
      replace b_p1 := b_p1.below hb
      replace hbel := hbel.trans (hb.mono hbel.size)
      clear hb
      have hpv : p + 1 < v.heap.size := b_p1.lt
      go_upto_region 2 with fail
      obtain ⟨q, hq⟩ : ∃ g, g = v.heap.size := ⟨_, rfl⟩
      have hk_q : v.heap.size ≤ q := Nat.le_of_eq hq.symm
      obtain ⟨v2, hv2⟩ : ∃ V, V = v.alloc (.cells #[.int .i64 xB, .int .i64 xZ.length, .int .i64 N] 81) := ⟨_, rfl⟩
      have b_q : Bx v2 q 81 #[.int .i64 xB, .int .i64 xZ.length, .int .i64 N] := by rw [hv2, hq]; exact Bx.new _ _ _
      have hb : Below v.heap.size v v2 := by rw [hv2]; exact (Below.refl _ _).alloc (Nat.le_refl _) _
      rw [← hq, ← hv2]
      clear hv2 hq
      replace ha := ha.below hb
      replace hlst := hlst.below hb
      replace hl := hl.below hb
      replace b_p := b_p.below hb
      replace b_p1 := b_p1.below hb
      replace hbel := hbel.trans (hb.mono hbel.size)
      clear hb
      go_wp2_with fail
      refine (HW.out v2 hlst).mono ?_
      rintro e v3 ⟨rfl, hw⟩
      subst v3
      have c0 := b_q.at_ 0 rfl
      have c1 := b_q.at_ 1 rfl
      have c2 := b_q.at_ 2 rfl
      go_wp2_with fail
      refine (accumulating_any xB xZ.length N s0 v2).mono ?_
      rintro e v3 ⟨rfl, bc, bs, hb⟩
      have hv2 : q < v2.heap.size := b_q.lt
      clear c0 c1 c2
      replace ha := ha.below hb
      replace hlst := hlst.below hb
      replace hl := hl.below hb
      replace b_p := b_p.below hb
      replace b_p1 := b_p1.below hb
      replace b_q := b_q.below hb
      replace hbel := hbel.trans (hb.mono hbel.size)
      clear hb
      obtain ⟨c, hcc⟩ : ∃ c, c = v2.heap.size := ⟨_, rfl⟩
      rw [← hcc] at bc bs ⊢
      simp only [accF]
      have hqc : q < c := by omega
      have hpc : p + 1 < q := by omega
      have hwp := hk_p
      have hc3 : c + 1 < v3.heap.size := bs.lt
      have HP := Lib.hid b_p1
      have HQ := Lib.hid b_q
      have HB3 := Lib.hid hbel
      obtain ⟨z3, hz3⟩ : ∃ z, z = v3.heap.size := ⟨_, rfl⟩
      have hz3' : c + 1 < z3 := by omega
      have hwz : w.heap.size ≤ p := hk_p
      clear hcc b_p1 b_q b_p hbel ha hlst
      go_wp2_with fail
      go_loopw [8, 10, 12, 13, 14, 15, 34] (fun s l _ _ _ _ i wr => ∃ (k : Nat) (D : Option Addr) (E : Nat), k ≤ lZ.length ∧ i = .int .i64 k ∧ s = .int .i64 (runA N s0 lZ k).1 ∧ l = .slice D (runA N s0 lZ k).2.length E ∧
        Bx wr c 81 #[.int .i64 xB, .int .i64 xZ.length, .int .i64 N] ∧ Bx wr (c + 1) 2 #[.int .i64 (runA N s0 lZ k).1] ∧
        Own 2 wr z3 wr.heap.size (.slice D (runA N s0 lZ k).2.length E) (runA N s0 lZ k).2 ∧ Below c v3 wr ∧ z3 ≤ wr.heap.size) (fun _ _ _ _ _ _ i _ => lZ.length - (intOf i).toNat)
      case atStart => exact ⟨0, none, 0, Nat.zero_le _, rfl, rfl, rfl, bc, bs, own_nil _ _ _ _, Below.refl _ _, by omega⟩
      case round =>
        obtain ⟨j, D, E, hj, rfl, rfl, rfl, bc, bs, owl, hbw, hzw⟩ := hrel
        have hwr : Below w.heap.size w wr := HB3.out.trans (hbw.mono (by omega))
        have hl1 := runA_len N s0 lZ j
        have hbell := HBA.out.below hwr
        by_cases hlt : j < lZ.length
        · obtain ⟨ab, off, rfl, hc0⟩ := HL0.out.at_ hlt
          have hcl := kept hwr hc0
          have hx := HM.out j hlt
          have hAj := HA.out j
          have HW2 := Lib.hid (accStep_any a xB xZ.length N (runA N s0 lZ j).1 (nth lZ j) c wr (by omega) (by omega) (by omega) (by omega) hx.1 hx.2 hbell bc bs)
          rw [← runA_one] at HW2
          clear hc0
          cases hv : inA N ((runA N s0 lZ j).1 + nth lZ j) with
          | true =>
            have HBL := Lib.hid (runA_none hv)
            rw [hv] at HW2
            clear hv
            go_wp2_with fail
            refine HW2.out.mono ?_
            rintro e w3 ⟨rfl, bc3, bs3, ht3⟩
            have hs3 := ht3.size
            replace owl := owl.touch ht3 (by omega)
            have hb3 : Below c wr w3 := ht3.below (by omega) (by omega)
            replace hbw := hbw.trans hb3
            have hbell3 : BellAt w3 a := HBA.out.below (HB3.out.trans (hbw.mono (by omega)))
            have g0 : w3.cell? ⟨0, 0, none⟩ = some (bellV a) := hbell3
            clear hbell3 hbell hb3 ht3 hcl HW2 bc bs
            go_wp2_with fail
            refine (is_bell a true w3).mono ?_
            rintro e w4 ⟨rfl, hw⟩
            subst w4
            clear g0
            go_wp2
            go_roundw
            case rel => exact ⟨j + 1, D, E, by omega, by go_num, rfl, by rw [HBL.out], bc3, bs3, by rw [HBL.out]; exact owl.wide (Nat.le_refl _) hs3, hbw, by omega⟩
            case measure => (simp [intOf]) <;> omega
          | false =>
            have HBL := Lib.hid (runA_bell hv)
            rw [hv] at HW2
            clear hv
            go_wp2_with fail
            refine HW2.out.mono ?_
            rintro e w3 ⟨rfl, bc3, bs3, ht3⟩
            have hs3 := ht3.size
            replace owl := owl.touch ht3 (by omega)
            have hb3 : Below c wr w3 := ht3.below (by omega) (by omega)
            replace hbw := hbw.trans hb3
            have hbell3 : BellAt w3 a := HBA.out.below (HB3.out.trans (hbw.mono (by omega)))
            have g0 : w3.cell? ⟨0, 0, none⟩ = some (bellV a) := hbell3
            clear hbell3 hbell hb3 ht3 hcl HW2 bc bs
            go_wp2_with fail
            refine (is_bell a false w3).mono ?_
            rintro e w4 ⟨rfl, hw⟩
            subst w4
            clear g0
            go_wp2_with (at_builtin; go_must (refine wpList_appI rfl (.tmp 48) (.tmp 50) 22 2 rfl Tryd.underlying22 info_int64 rfl (owl.alloc _) rfl ⟨w3.heap.size, 0, none⟩ 1 (j : Int) rfl (cell_new1 w3 _ _) (by omega) (by simp; omega) ?_); intro D' E' w6 ow6 ht6)
            have hs8 := ht6.size
            simp only [World.size_alloc] at hs8
            replace bc3 := (bc3.alloc _).touch ht6 (by omega)
            replace bs3 := (bs3.alloc _).touch ht6 (by omega)
            rw [← HBL.out] at ow6
            have HL9 := Lib.hid (congrArg List.length HBL.out)
            go_roundw
            case rel => exact ⟨j + 1, D', E', by omega, by go_num, rfl, by rw [HL9.out]; simp, bc3, bs3, by rw [HL9.out]; simpa using ow6, (hbw.alloc (by omega) _).trans (ht6.below (by omega) (by simp; omega)), by omega⟩
            case measure => (simp [intOf]) <;> omega
        · obtain rfl : j = lZ.length := by omega
          have bq : Bx wr q 81 #[.int .i64 xB, .int .i64 xZ.length, .int .i64 N] := HQ.out.lo hbw hqc
          have c0 := bq.at_ 0 rfl
          have c1 := bq.at_ 1 rfl
          have c2 := bq.at_ 2 rfl
          go_wp2_with fail
          refine (HG2.out wr (runA N s0 lZ lZ.length).1).mono ?_
          rintro e w5 ⟨A, C, rfl, ow, hb5⟩
          have hs5 := hb5.size
          have bp : Bx w5 (p + 1) 24 #[.int .i64 0, .slice none 0 0] := (HP.out.lo hbw (by omega)).below hb5
          replace owl := owl.below hb5
          replace hwr := hwr.trans (hb5.mono hwr.size)
          clear c0 c1 c2 hb5
          have r0 := bp.at_ 0 rfl
          have r1 := bp.at_ 1 rfl
          have f0 := bp.thaw 0
          have f1 := bp.thaw 1
          have hs := bp.lt
          have hbs := hwr.size
          go_wp2
          exact bodyPost_ret (v := .tuple #[.agg #[.int .i64 xB, .slice A (setA xB xZ.length (runA N s0 lZ lZ.length).1).length C], .slice D (runA N s0 lZ lZ.length).2.length E, .int .i64 0]) (by simp [results, go_sem, r0, r1]) rfl
            (regLisC_ok HR.out rfl rfl rfl ((ow.setCell (p := ⟨p + 1, 0, none⟩) (.inl (by simp; omega)) _).setCell (p := ⟨p + 1, 1, none⟩) (.inl (by simp; omega)) _)
              ((owl.setCell (p := ⟨p + 1, 0, none⟩) (.inl (by simp; omega)) _).setCell (p := ⟨p + 1, 1, none⟩) (.inl (by simp; omega)) _) (by omega) (Nat.le_refl _) (by omega) (by simp) (by simp; omega) (by repeat (first | with_reducible exact hwr | with_reducible refine Below.setCell ?_ (by first | omega | (simp <;> omega)) _ | with_reducible refine Below.alloc ?_ (by first | omega | (simp <;> omega)) _ | with_reducible refine Below.drew ?_)))

theorem implAccumulateAll (xB : Int) (xA : Option Addr) (xC : Nat) (xZ : List Int) (lA : Option Addr) (lC : Nat) (lZ : List Int) (w : World) (ha : Rd w xA xZ) (z : All64 xZ) (b : I64 xB) (hlst : Rd w lA lZ) (_ : All64 lZ) (hD : BellD w) :
    Calls Tryd.prog 29 #[.agg #[.int .i64 xB, .slice xA xZ.length xC], .slice lA lZ.length lC] w (RegLisC (accR xB xZ lZ) w) :=
  hD.elim fun a hl => accAll_any a xB xA xC xZ lA lC lZ w ha z b hlst hl
end Go.Proofs.YtiogbpnnnpodkaaDoor
