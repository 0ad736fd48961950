/-
  impl.factorsOf, product, RatioOf, OutputTurns.
-/
import Derived.Test.YtaefgkhbgljkoaaRats
import Derived.Test.YtaefgkhbgljkoaaRedI
import Derived.Test.YtaefgkhbgljkoaaTrainI
import Derived.Test.YtaefgkhbgljkoaaGearPairS
import Derived.Test.YtaefgkhbgljkoaaFractionS
namespace Go.Proofs.Ytaefgkhbgljkoaa
open Go.RowKit

set_option maxHeartbeats 1000000 in
theorem factor_any (x : Int × Int) (w : World) (h : teethB x = true) :
    Calls Try.prog 95 #[.agg #[.int .i64 x.1, .int .i64 x.2]] w fun e w' => e = .returned (.agg #[.int .i64 (fac x).num, .int .i64 ((fac x).den : Int)]) ∧ Below w.heap.size w w' := by
  obtain ⟨⟨h1, h2⟩, h3, h4⟩ := teethB_true h
  have hw1 : IntKind.i64.wrap (-x.1) = -x.1 := IntWalk.i64_in _ (by omega)
  have HR := Lib.hid (fun w => reduced_at (-x.1) x.2 w (by omega) (by omega) (by omega))
  obtain ⟨u, hu⟩ : ∃ u, u = (w.alloc (.cells #[.int .i64 x.1, .int .i64 x.2] 76)).alloc (.cells #[.int .i64 0, .int .i64 0] 27) := ⟨_, rfl⟩
  have hbel : Below w.heap.size w u := by rw [hu]; exact (by repeat (first | exact Below.refl _ _ | refine Below.setCell ?_ (by first | omega | (simp <;> omega)) _ | refine Below.alloc ?_ (by first | omega | (simp <;> omega)) _ | refine Below.drew ?_))
  have bx : Bx u (w.heap.size + 1) 27 #[.int .i64 0, .int .i64 0] := by rw [hu]; simpa using Bx.new (w.alloc (.cells #[.int .i64 x.1, .int .i64 x.2] 76)) #[.int .i64 0, .int .i64 0] 27
  have HU := Lib.hid hu
  clear hu
  go_enter Try.func95, Try.ntmps95
  go_wp2_with fail
  rw [← HU.out]
  refine (HR.out u).mono ?_
  rintro e w1 ⟨rfl, hb1⟩
  replace bx := bx.below hb1
  have hz := bx.lt
  have c0 := bx.at_ 0 rfl
  have c1 := bx.at_ 1 rfl
  have f0 := bx.thaw 0
  have f1 := bx.thaw 1
  have hb := hbel.trans (hb1.mono hbel.size)
  have bz := (bx.set_ 0 (.int .i64 (red (-x.1) x.2.toNat).num)).set_ 1 (.int .i64 ((red (-x.1) x.2.toNat).den : Int))
  have r0 := bz.at_ 0 rfl
  have r1 := bz.at_ 1 rfl
  go_wp2
  exact bodyPost_ret (v := .agg #[.int .i64 (red (-x.1) x.2.toNat).num, .int .i64 ((red (-x.1) x.2.toNat).den : Int)]) (by simp [results, Try.results95, go_sem, r0, r1]) rfl ⟨rfl, (by repeat (first | exact hb | refine Below.setCell ?_ (by first | omega | (simp <;> omega)) _ | refine Below.alloc ?_ (by first | omega | (simp <;> omega)) _ | refine Below.drew ?_))⟩

set_option maxHeartbeats 1000000 in
theorem factorsOf_any (a : Option Addr) (c : Nat) (xs : List (Int × Int)) (w : World) (ha : RdF pairF w a xs) (ht : ∀ x ∈ xs, teethB x = true) :
    Calls Try.prog 60 #[.slice a xs.length c] w fun e w' => ∃ A C, e = .returned (.slice A xs.length C) ∧ OwnF pairF 27 w' w.heap.size w'.heap.size (.slice A xs.length C) (frs (xs.map fac)) ∧ Below w.heap.size w w' := by
  have hx := ha.len
  go_enter Try.func60, Try.ntmps60
  go_wp2_with (at_make; refine wpList_makeF pairF rfl _ _ _ 27 rfl Try.underlying71 _ 16 info_Fraction rfl (by omega) xs.length rfl rfl (by omega) ?_; intro w1 hown1 hb1)
  go_loopw [11] (fun i wr => ∃ k : Nat, k ≤ xs.length ∧ i = .int .i64 k ∧ OwnF pairF 27 wr w.heap.size (w.heap.size + 1) (.slice (some ⟨w.heap.size, 0, none⟩) xs.length xs.length) (padF pairF xs.length (frs ((xs.take k).map fac))) ∧ Below w.heap.size w wr) (fun i _ => xs.length - (intOf i).toNat)
  case atStart => exact ⟨0, Nat.zero_le _, rfl, by simpa [frs] using ownF_first hown1, hb1⟩
  case round =>
    obtain ⟨k, hk, rfl, hown, hbel⟩ := hrel
    have hsz := hbel.size
    have hfl : (frs ((xs.take k).map fac)).length = k := by rw [frs_len, List.length_map, List.length_take]; omega
    by_cases hlt : k < xs.length
    · obtain ⟨b, off, rfl, p0, p1⟩ := (ha.below hbel).at2 hlt
      have hz := hown.blk
      obtain ⟨u, hu⟩ : ∃ u, u = wr.alloc (.cells #[.int .i64 (elt pairF xs k).1, .int .i64 (elt pairF xs k).2] 76) := ⟨_, rfl⟩
      have hbu : Below wr.heap.size wr u := by rw [hu]; exact (by repeat (first | exact Below.refl _ _ | refine Below.setCell ?_ (by first | omega | (simp <;> omega)) _ | refine Below.alloc ?_ (by first | omega | (simp <;> omega)) _ | refine Below.drew ?_))
      have HU := Lib.hid hu
      clear hu
      have HT := Lib.hid (ht _ (elt_mem (F := pairF) hlt))
      have HL := Lib.hid hfl
      clear hfl
      go_wp2_with fail
      rw [← HU.out]
      refine (factor_any (elt pairF xs k) u HT.out).mono ?_
      rintro e w2 ⟨rfl, hb2⟩
      replace hown := hown.below (hbu.trans (hb2.mono hbu.size))
      replace hbel := hbel.trans ((hbu.trans (hb2.mono hbu.size)).mono hbel.size)
      have hl2 : k < (padF pairF xs.length (frs ((xs.take k).map fac))).length := by rw [padF_len (by rw [HL.out]; omega)]; exact hlt
      obtain ⟨g0, g1⟩ := hown.get2 hl2
      have f0 := hown.thaw (k * 2)
      have f1 := hown.thaw (k * 2 + 1)
      have HP := Lib.hid (hown.put2 hl2 ((fac (elt pairF xs k)).num, ((fac (elt pairF xs k)).den : Int)))
      clear hl2
      go_wp2
      go_roundw
      case rel =>
        refine ⟨k + 1, by omega, by go_num, ?_, (by repeat (first | exact hbel | refine Below.setCell ?_ (by first | omega | (simp <;> omega)) _ | refine Below.alloc ?_ (by first | omega | (simp <;> omega)) _ | refine Below.drew ?_))⟩
        have h3 := HP.out
        have h4 := padF_set (F := pairF) (n := xs.length) (xs := frs ((xs.take k).map fac)) (by rw [HL.out]; exact hlt) (frP (fac (elt pairF xs k)))
        rw [HL.out] at h4
        rw [show frs ((xs.take (k + 1)).map fac) = frs ((xs.take k).map fac) ++ [frP (fac (elt pairF xs k))] by rw [takeE_succ (F := pairF) hlt]; simp [frs], ← h4]
        exact h3
      case measure => (simp [intOf]) <;> omega
    · obtain rfl : k = xs.length := by omega
      have HE := Lib.hid (show padF pairF xs.length (frs ((xs.take xs.length).map fac)) = frs (xs.map fac) by rw [List.take_of_length_le (Nat.le_refl _)]; exact padF_all (by simp [frs]))
      clear hfl
      rw [HE.out] at hown
      go_wp2
      go_ret
      exact ⟨_, _, rfl, hown.wide (Nat.le_refl _) hown.blk.2.2, hbel⟩

set_option maxHeartbeats 2000000 in
theorem product_any (a : Option Addr) (c n : Nat) (qs : List Rat) (w : World) (hn : n = qs.length) (ha : RdF pairF w a (frs qs)) (hf : FitQ qs) :
    Calls Try.prog 59 #[.slice a n c] w fun e w' => e = .returned (.agg #[.int .i64 (prodQ qs).num, .int .i64 ((prodQ qs).den : Int)]) ∧ Below w.heap.size w w' := by
  subst hn
  have hx := ha.len
  rw [frs_len] at hx
  go_enter Try.func59, Try.ntmps59
  go_wp2
  go_loopw [3, 4, 9] (fun x y i wr => ∃ k : Nat, k ≤ qs.length ∧ i = .int .i64 k ∧ x = .int .i64 (prodQ (qs.take k)).num ∧ y = .int .i64 ((prodQ (qs.take k)).den : Int) ∧ Bx wr w.heap.size 27 #[.int .i64 0, .int .i64 0] ∧ Below w.heap.size w wr) (fun _ _ i _ => qs.length - (intOf i).toNat)
  case atStart => exact ⟨0, Nat.zero_le _, rfl, rfl, rfl, Bx.new _ _ _, (by repeat (first | exact Below.refl _ _ | refine Below.setCell ?_ (by first | omega | (simp <;> omega)) _ | refine Below.alloc ?_ (by first | omega | (simp <;> omega)) _ | refine Below.drew ?_))⟩
  case round =>
    obtain ⟨k, hk, rfl, rfl, rfl, bx, hbel⟩ := hrel
    have hsz := hbel.size
    have hzl := bx.lt
    by_cases hlt : k < qs.length
    · obtain ⟨b, off, rfl, p0, p1⟩ := (ha.below hbel).at2 (by rw [frs_len]; exact hlt)
      rw [frs_at hlt] at p0 p1
      simp only at p0 p1
      obtain ⟨h1, h2⟩ := hf k hlt
      obtain ⟨N, hN⟩ : ∃ N, N = (prodQ (qs.take k)).num * (qat qs k).num := ⟨_, rfl⟩
      obtain ⟨D, hD⟩ : ∃ D, D = (prodQ (qs.take k)).den * (qat qs k).den := ⟨_, rfl⟩
      have hm : ((prodQ (qs.take k)).den : Int) * ((qat qs k).den : Int) = (D : Int) := by rw [hD]; rfl
      have hD0 : 0 < D := by rw [hD]; exact Nat.mul_pos (den_pos _) (den_pos _)
      rw [← hN] at h1
      rw [← hD] at h2
      have e1 : IntKind.i64.wrap ((prodQ (qs.take k)).num * (qat qs k).num) = N := by rw [← hN]; exact IntWalk.i64_in _ (by omega)
      have e2 : IntKind.i64.wrap (((prodQ (qs.take k)).den : Int) * ((qat qs k).den : Int)) = (D : Int) := by rw [hm]; exact IntWalk.i64_in _ (by omega)
      have HP := Lib.hid (show red N D = prodQ (qs.take (k + 1)) by rw [hN, hD, red_mul, prodQ_take hlt])
      have HR := Lib.hid (fun w => reduced_any N D w h1 hD0 h2)
      clear hN hD hm hD0 h1 h2
      obtain ⟨u, hu⟩ : ∃ u, u = wr.alloc (.cells #[.int .i64 (qat qs k).num, .int .i64 ((qat qs k).den : Int)] 27) := ⟨_, rfl⟩
      have hbu : Below wr.heap.size wr u := by rw [hu]; exact (by repeat (first | exact Below.refl _ _ | refine Below.setCell ?_ (by first | omega | (simp <;> omega)) _ | refine Below.alloc ?_ (by first | omega | (simp <;> omega)) _ | refine Below.drew ?_))
      have HU := Lib.hid hu
      clear hu
      go_wp2_with fail
      rw [← HU.out]
      refine (HR.out u).mono ?_
      rintro e w2 ⟨rfl, m, hw2⟩
      have hb2 : Below u.heap.size u w2 := by rw [hw2]; exact bel_drewN (Below.refl _ _) m
      clear hw2
      have hb3 := hbu.trans (hb2.mono hbu.size)
      replace bx := bx.below hb3
      replace hbel := hbel.trans (hb3.mono hbel.size)
      rw [HP.out]
      go_wp2
      go_roundw
      case rel => exact ⟨k + 1, by omega, by go_num, rfl, rfl, bx, hbel⟩
      case measure => (simp [intOf]) <;> omega
    · obtain rfl : k = qs.length := by omega
      have c0 := bx.at_ 0 rfl
      have c1 := bx.at_ 1 rfl
      have f0 := bx.thaw 0
      have f1 := bx.thaw 1
      have HT := Lib.hid (show qs.take qs.length = qs from List.take_of_length_le (Nat.le_refl _))
      rw [HT.out]
      have bz := (bx.set_ 0 (.int .i64 (prodQ qs).num)).set_ 1 (.int .i64 ((prodQ qs).den : Int))
      have r0 := bz.at_ 0 rfl
      have r1 := bz.at_ 1 rfl
      go_wp2
      exact bodyPost_ret (v := .agg #[.int .i64 (prodQ qs).num, .int .i64 ((prodQ qs).den : Int)]) (by simp [results, Try.results59, go_sem, r0, r1]) rfl ⟨rfl, (by repeat (first | exact hbel | refine Below.setCell ?_ (by first | omega | (simp <;> omega)) _ | refine Below.alloc ?_ (by first | omega | (simp <;> omega)) _ | refine Below.drew ?_))⟩

/-- A fraction and a code. -/
theorem ret_frac {R : (Int × Int) × Int} {x y c : Int} (h : R = ((x, y), c)) : Ending.returned (.tuple #[.agg #[.int .i64 x, .int .i64 y], .int .i64 c]) = .returned (.tuple #[.agg #[.int .i64 R.1.1, .int .i64 R.1.2], .int .i64 R.2]) := by subst h; rfl

set_option maxHeartbeats 2000000 in
theorem implRatioOf (a : Option Addr) (c : Nat) (xs : List (Int × Int)) (w : World) (ha : RdF pairF w a xs) (hz : All2 xs) :
    Calls Try.prog 19 #[.slice a xs.length c] w fun e w' => e = .returned (.tuple #[.agg #[.int .i64 (ratR xs).1.1, .int .i64 (ratR xs).1.2], .int .i64 (ratR xs).2]) ∧ Below w.heap.size w w' := by
  have hbel : Below w.heap.size w (w.alloc (.cells #[.int .i64 0, .int .i64 0] 27)) := (by repeat (first | exact Below.refl _ _ | refine Below.setCell ?_ (by first | omega | (simp <;> omega)) _ | refine Below.alloc ?_ (by first | omega | (simp <;> omega)) _ | refine Below.drew ?_))
  have bx := Bx.new w #[.int .i64 0, .int .i64 0] 27
  cases ht : trainB xs with
  | false =>
    have HR := Lib.hid (ratR_bad ht)
    have HV := Lib.hid (implValidTrain_at a c xs _ ht (ha.below hbel) hz)
    clear ht
    go_enter Try.func19, Try.ntmps19
    go_wp2_with (go_at_call 37; refine HV.out.mono ?_; rintro e w1 ⟨rfl, hb1⟩; have bx1 := bx.below hb1; have hz1 := bx1.lt; have c0 := bx1.at_ 0 rfl; have c1 := bx1.at_ 1 rfl; have f0 := bx1.thaw 0; have f1 := bx1.thaw 1; have r0 := ((bx1.set_ 0 (.int .i64 0)).set_ 1 (.int .i64 0)).at_ 0 rfl; have r1 := ((bx1.set_ 0 (.int .i64 0)).set_ 1 (.int .i64 0)).at_ 1 rfl; have hb := hbel.trans (hb1.mono hbel.size))
    exact bodyPost_ret (v := .tuple #[.agg #[.int .i64 0, .int .i64 0], .int .i64 1]) (by simp [results, Try.results19, go_sem, r0, r1]) rfl ⟨ret_frac HR.out, (by repeat (first | exact hb | refine Below.setCell ?_ (by first | omega | (simp <;> omega)) _ | refine Below.alloc ?_ (by first | omega | (simp <;> omega)) _ | refine Below.drew ?_))⟩
  | true =>
    have HR := Lib.hid (ratR_ok ht)
    have HV := Lib.hid (implValidTrain_at a c xs _ ht (ha.below hbel) hz)
    have HA := Lib.hid (train_of ht)
    have HQ := Lib.hid (prodQ_fac xs)
    clear ht
    go_enter Try.func19, Try.ntmps19
    go_wp2_with (first | (go_at_call 37; refine HV.out.mono ?_; rintro e w1 ⟨rfl, hb1⟩; have bx1 := bx.below hb1; have hb := hbel.trans (hb1.mono hbel.size)) | (go_at_call 60; refine (factorsOf_any a c xs _ (ha.below hb) HA.out.all).mono ?_; rintro e w2 ⟨A, C, rfl, own, hb2⟩; have rd := own.rd; have bx2 := bx1.below hb2; have hb3 := hb.trans (hb2.mono hb.size)) | (go_at_call 59; refine (product_any A C _ (xs.map fac) _ (by simp) rd (fit_fac HA.out)).mono ?_; rintro e w3 ⟨rfl, hb4⟩; rw [HQ.out]; have bx3 := bx2.below hb4; have hz1 := bx3.lt; have c0 := bx3.at_ 0 rfl; have c1 := bx3.at_ 1 rfl; have f0 := bx3.thaw 0; have f1 := bx3.thaw 1; have r0 := ((bx3.set_ 0 (.int .i64 (ratQ xs).num)).set_ 1 (.int .i64 ((ratQ xs).den : Int))).at_ 0 rfl; have r1 := ((bx3.set_ 0 (.int .i64 (ratQ xs).num)).set_ 1 (.int .i64 ((ratQ xs).den : Int))).at_ 1 rfl; have hb5 := hb3.trans (hb4.mono hb3.size)))
    exact bodyPost_ret (v := .tuple #[.agg #[.int .i64 (ratQ xs).num, .int .i64 ((ratQ xs).den : Int)], .int .i64 0]) (by simp [results, Try.results19, go_sem, r0, r1]) rfl ⟨ret_frac HR.out, (by repeat (first | exact hb5 | refine Below.setCell ?_ (by first | omega | (simp <;> omega)) _ | refine Below.alloc ?_ (by first | omega | (simp <;> omega)) _ | refine Below.drew ?_))⟩

theorem rdF_at2 {w : World} {g : Nat} {x y : Int × Int} (h0 : w.cell? ⟨g, 0, none⟩ = some (.int .i64 x.1)) (h1 : w.cell? ⟨g, 1, none⟩ = some (.int .i64 x.2)) (h2 : w.cell? ⟨g, 2, none⟩ = some (.int .i64 y.1)) (h3 : w.cell? ⟨g, 3, none⟩ = some (.int .i64 y.2)) : RdF pairF w (some ⟨g, 0, none⟩) [x, y] :=
  ⟨by simp, fun _ => ⟨_, 0, rfl, fun i z hz j v hv => by
    have hi : i < 2 := by have := (List.getElem?_eq_some_iff.1 hz).1; simpa using this
    match i, hi, hz with
    | 0, _, hz => simp at hz; subst hz; match j, hv with
      | 0, hv => simp [pairF] at hv; subst hv; exact h0
      | 1, hv => simp [pairF] at hv; subst hv; exact h1
    | 1, _, hz => simp at hz; subst hz; match j, hv with
      | 0, hv => simp [pairF] at hv; subst hv; exact h2
      | 1, hv => simp [pairF] at hv; subst hv; exact h3⟩⟩

theorem turn_q (t : Int) : ∃ q : Rat, q.num = t ∧ q.den = 1 := ⟨⟨t, 1, by omega, Nat.gcd_one_right _⟩, rfl, rfl⟩
theorem outR_pq {p q : Rat} {t : Int} (h1 : q.num = t) (h2 : q.den = 1) : p * q = red (p.num * t) p.den := by
  rw [red, Rat.mul_def', h1, h2, Nat.mul_one]
theorem out_fit {xs : List (Int × Int)} {q : Rat} {t : Int} (hA : TrainOf xs) (h1 : q.num = t) (h2 : q.den = 1) (t0 : -1000 ≤ t) (t1 : t ≤ 1000) : FitQ [ratQ xs, q] := by
  have b := ratQ_in hA.all (k := xs.length) (Nat.le_refl _) hA.n1
  rw [List.take_of_length_le (Nat.le_refl _)] at b
  refine fit_two (by omega) (by omega) ?_ (by rw [h2]; omega)
  rw [h1, Int.natAbs_mul]
  have : (ratQ xs).num.natAbs * t.natAbs ≤ 2985984000000 * 1000 := Nat.mul_le_mul b.1 (by omega)
  omega
/-- The product of two fractions, laid into a slice of its own. -/
theorem product2_any (g c : Nat) (p q : Rat) (w : World) (h0 : w.cell? ⟨g, 0, none⟩ = some (.int .i64 p.num)) (h1 : w.cell? ⟨g, 1, none⟩ = some (.int .i64 (p.den : Int))) (h2 : w.cell? ⟨g, 2, none⟩ = some (.int .i64 q.num)) (h3 : w.cell? ⟨g, 3, none⟩ = some (.int .i64 (q.den : Int))) (hf : FitQ [p, q]) :
    Calls Try.prog 59 #[.slice (some ⟨g, 0, none⟩) 2 c] w fun e w' => e = .returned (.agg #[.int .i64 (p * q).num, .int .i64 ((p * q).den : Int)]) ∧ Below w.heap.size w w' := by
  have := product_any (some ⟨g, 0, none⟩) c 2 [p, q] w rfl (rdF_at2 (x := frP p) (y := frP q) h0 h1 h2 h3) hf
  rwa [prodQ_two] at this

set_option maxHeartbeats 4000000 in
theorem implOutputTurns (a : Option Addr) (c : Nat) (xs : List (Int × Int)) (t : Int) (w : World) (ha : RdF pairF w a xs) (hz : All2 xs) (_ : I64 t) :
    Calls Try.prog 25 #[.slice a xs.length c, .int .i64 t] w fun e w' => e = .returned (.tuple #[.agg #[.int .i64 (outR xs t).1.1, .int .i64 (outR xs t).1.2], .int .i64 (outR xs t).2]) ∧ Below w.heap.size w w' := by
  have hbel : Below w.heap.size w (w.alloc (.cells #[.int .i64 0, .int .i64 0] 27)) := (by repeat (first | exact Below.refl _ _ | refine Below.setCell ?_ (by first | omega | (simp <;> omega)) _ | refine Below.alloc ?_ (by first | omega | (simp <;> omega)) _ | refine Below.drew ?_))
  have bx := Bx.new w #[.int .i64 0, .int .i64 0] 27
  have HV := Lib.hid (implRatioOf a c xs _ (ha.below hbel) hz)
  cases ht : trainB xs with
  | false =>
    have HR := Lib.hid (outR_bad (t := t) ht)
    rw [ratR_bad ht] at HV
    clear ht
    go_enter Try.func25, Try.ntmps25
    go_wp2_with (go_at_call 19; refine HV.out.mono ?_; rintro e w1 ⟨rfl, hb1⟩; have bx1 := bx.below hb1; have hz1 := bx1.lt; have c0 := bx1.at_ 0 rfl; have c1 := bx1.at_ 1 rfl; have f0 := bx1.thaw 0; have f1 := bx1.thaw 1; have hb := hbel.trans (hb1.mono hbel.size))
    have r0 := (((bx1.set_ 0 (.int .i64 0)).set_ 1 (.int .i64 0)).alloc (.cells #[.int .i64 0, .int .i64 0] 27)).at_ 0 rfl
    have r1 := (((bx1.set_ 0 (.int .i64 0)).set_ 1 (.int .i64 0)).alloc (.cells #[.int .i64 0, .int .i64 0] 27)).at_ 1 rfl
    exact bodyPost_ret (v := .tuple #[.agg #[.int .i64 0, .int .i64 0], .int .i64 1]) (by simp [results, Try.results25, go_sem, r0, r1]) rfl ⟨ret_frac HR.out, (by repeat (first | exact hb | refine Below.setCell ?_ (by first | omega | (simp <;> omega)) _ | refine Below.alloc ?_ (by first | omega | (simp <;> omega)) _ | refine Below.drew ?_))⟩
  | true =>
    rw [ratR_ok ht] at HV
    have HA := Lib.hid (train_of ht)
    cases hi : inB t (-1000) 1000 with
    | false =>
      have HR := Lib.hid (outR_range ht hi)
      have HI := Lib.hid hi
      clear ht hi
      go_enter Try.func25, Try.ntmps25
      go_wp2_with (first | (go_at_call 19; refine HV.out.mono ?_; rintro e w1 ⟨rfl, hb1⟩; have bx1 := bx.below hb1; have hz1 := bx1.lt; have c0 := bx1.at_ 0 rfl; have c1 := bx1.at_ 1 rfl; have f0 := bx1.thaw 0; have f1 := bx1.thaw 1; have hb := hbel.trans (hb1.mono hbel.size)) | (go_at_call 67; refine (within1_at _ _ t _ _ _ (by go_simp)).mono ?_; rintro e w2 ⟨rfl, hq⟩; subst w2; rw [HI.out]))
      have r0 := ((((bx1.set_ 0 (.int .i64 0)).set_ 1 (.int .i64 0)).alloc (.cells #[.int .i64 (ratQ xs).num, .int .i64 ((ratQ xs).den : Int)] 27)).alloc (.cells #[.int .i64 t] 2)).at_ 0 rfl
      have r1 := ((((bx1.set_ 0 (.int .i64 0)).set_ 1 (.int .i64 0)).alloc (.cells #[.int .i64 (ratQ xs).num, .int .i64 ((ratQ xs).den : Int)] 27)).alloc (.cells #[.int .i64 t] 2)).at_ 1 rfl
      exact bodyPost_ret (v := .tuple #[.agg #[.int .i64 0, .int .i64 0], .int .i64 2]) (by simp [results, Try.results25, go_sem, r0, r1]) rfl ⟨ret_frac HR.out, (by repeat (first | exact hb | refine Below.setCell ?_ (by first | omega | (simp <;> omega)) _ | refine Below.alloc ?_ (by first | omega | (simp <;> omega)) _ | refine Below.drew ?_))⟩
    | true =>
      have HR := Lib.hid (outR_ok ht hi)
      have HI := Lib.hid hi
      obtain ⟨t0, t1⟩ := inB_true hi
      obtain ⟨q, q1, q2⟩ := turn_q t
      have HF := Lib.hid (out_fit (train_of ht) q1 q2 t0 t1)
      have HQ := Lib.hid (outR_pq (p := ratQ xs) q1 q2)
      have HU := Lib.hid (fun (u : World) (g c : Nat) => product2_any g c (ratQ xs) q u)
      rw [q1, q2] at HU
      clear ht hi q1 q2
      go_enter Try.func25, Try.ntmps25
      go_wp2_with (first | (go_at_call 19; refine HV.out.mono ?_; rintro e w1 ⟨rfl, hb1⟩; have bx1 := bx.below hb1; have hz1 := bx1.lt; have hb := hbel.trans (hb1.mono hbel.size)) | (go_at_call 67; refine (within1_at _ _ t _ _ _ (by go_simp)).mono ?_; rintro e w2 ⟨rfl, hq⟩; subst w2; rw [HI.out]))
      obtain ⟨u, hu⟩ : ∃ u, u = ((w1.alloc (.cells #[.int .i64 (ratQ xs).num, .int .i64 ((ratQ xs).den : Int)] 27)).alloc (.cells #[.int .i64 t] 2)).alloc (.cells #[.int .i64 (ratQ xs).num, .int .i64 ((ratQ xs).den : Int), .int .i64 t, .int .i64 1] 27) := ⟨_, rfl⟩
      rw [← hu]
      have bu : Bx u (w1.heap.size + 1 + 1) 27 #[.int .i64 (ratQ xs).num, .int .i64 ((ratQ xs).den : Int), .int .i64 t, .int .i64 1] := by
        rw [hu]; simpa using Bx.new ((w1.alloc (.cells #[.int .i64 (ratQ xs).num, .int .i64 ((ratQ xs).den : Int)] 27)).alloc (.cells #[.int .i64 t] 2)) #[.int .i64 (ratQ xs).num, .int .i64 ((ratQ xs).den : Int), .int .i64 t, .int .i64 1] 27
      have hbu : Below w1.heap.size w1 u := by rw [hu]; exact (by repeat (first | exact Below.refl _ _ | refine Below.setCell ?_ (by first | omega | (simp <;> omega)) _ | refine Below.alloc ?_ (by first | omega | (simp <;> omega)) _ | refine Below.drew ?_))
      clear hu
      refine (HU.out u _ _ (bu.at_ 0 rfl) (bu.at_ 1 rfl) (bu.at_ 2 rfl) (bu.at_ 3 rfl) HF.out).mono ?_
      rintro e w3 ⟨rfl, hb3⟩
      have hb4 := hbu.trans (hb3.mono hbu.size)
      have hb5 := hb.trans (hb4.mono hb.size)
      have bx3 := bx1.below hb4
      have hz3 := bx3.lt
      rw [HQ.out]
      have c0 := bx3.at_ 0 rfl
      have c1 := bx3.at_ 1 rfl
      have f0 := bx3.thaw 0
      have f1 := bx3.thaw 1
      have bz := (bx3.set_ 0 (.int .i64 (red ((ratQ xs).num * t) (ratQ xs).den).num)).set_ 1 (.int .i64 ((red ((ratQ xs).num * t) (ratQ xs).den).den : Int))
      have r0 := bz.at_ 0 rfl
      have r1 := bz.at_ 1 rfl
      go_wp2
      exact bodyPost_ret (v := .tuple #[.agg #[.int .i64 (red ((ratQ xs).num * t) (ratQ xs).den).num, .int .i64 ((red ((ratQ xs).num * t) (ratQ xs).den).den : Int)], .int .i64 0]) (by simp [results, Try.results25, go_sem, r0, r1]) rfl ⟨ret_frac HR.out, (by repeat (first | exact hb5 | refine Below.setCell ?_ (by first | omega | (simp <;> omega)) _ | refine Below.alloc ?_ (by first | omega | (simp <;> omega)) _ | refine Below.drew ?_))⟩
end Go.Proofs.Ytaefgkhbgljkoaa
