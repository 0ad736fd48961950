/-
  spec.l04Ratio, RatioOf, OutputTurns, LeastTurns.
-/
import Derived.Test.YtaefgkhbgljkoaaGcdS
import Derived.Test.YtaefgkhbgljkoaaTrainS
import Derived.Test.YtaefgkhbgljkoaaOrd
import Derived.Deep.Cut
namespace Go.Proofs.Ytaefgkhbgljkoaa
open Go.RowKit

set_option maxHeartbeats 4000000 in
theorem l04Ratio_any (a : Option Addr) (c : Nat) (xs : List (Int × Int)) (w : World) (ha : RdF pairF w a xs) (ht : ∀ x ∈ xs, teethB x = true) (h6 : xs.length ≤ 6) :
    Calls Try.prog 62 #[.slice a xs.length c] w fun e w' => e = .returned (.agg #[.int .i64 (ratQ xs).num, .int .i64 ((ratQ xs).den : Int)]) ∧ Below w.heap.size w w' := by
  have hx := ha.len
  go_enter Try.func62, Try.ntmps62
  go_wp2
  go_loopw [4] (fun i wr => ∃ k : Nat, k ≤ xs.length ∧ i = .int .i64 k ∧ Bx wr w.heap.size 27 #[.int .i64 0, .int .i64 0] ∧ Bx wr (w.heap.size + 1) 27 #[.int .i64 (ratQ (xs.take k)).num, .int .i64 ((ratQ (xs.take k)).den : Int)] ∧ Below w.heap.size w wr) (fun i _ => xs.length - (intOf i).toNat)
  case atStart =>
    refine ⟨0, Nat.zero_le _, rfl, ?_, ?_, (by repeat (first | exact Below.refl _ _ | refine Below.setCell ?_ (by first | omega | (simp <;> omega)) _ | refine Below.alloc ?_ (by first | omega | (simp <;> omega)) _ | refine Below.drew ?_))⟩
    · exact (Bx.new w _ _).alloc _
    · simpa [ratQ_nil] using Bx.new (w.alloc (.cells #[.int .i64 0, .int .i64 0] 27)) #[.int .i64 1, .int .i64 1] 27
  case round =>
    obtain ⟨k, hk, rfl, bx, by_, hbel⟩ := hrel
    have hsz := hbel.size
    have hzl := by_.lt
    by_cases hlt : k < xs.length
    · obtain ⟨b, off, rfl, p0, p1⟩ := (ha.below hbel).at2 hlt
      have htk := ht _ (elt_mem (F := pairF) hlt)
      obtain ⟨⟨t1, t2⟩, t3, t4⟩ := teethB_true htk
      obtain ⟨b1, b2⟩ := ratQ_in' ht (k := k) (by omega) (by omega)
      obtain ⟨q, hq⟩ : ∃ q, q = ratQ (xs.take k) := ⟨_, rfl⟩
      rw [← hq] at by_ b1 b2
      obtain ⟨x, hxx⟩ : ∃ x, x = elt pairF xs k := ⟨_, rfl⟩
      rw [← hxx] at p0 p1 t1 t2 t3 t4
      have HS := Lib.hid (show ratQ (xs.take (k + 1)) = q * fac x by rw [hq, hxx, ratQ_take hlt])
      have d0 := den_pos q
      obtain ⟨N, hN⟩ : ∃ N, N = -q.num * x.1 := ⟨_, rfl⟩
      obtain ⟨D, hD⟩ : ∃ D, D = (q.den : Int) * x.2 := ⟨_, rfl⟩
      have n1 : N.natAbs ≤ 24883200000 * 120 := by rw [hN, Int.natAbs_mul, Int.natAbs_neg]; exact Nat.mul_le_mul b1 (by omega)
      have D0 : 0 < D := by rw [hD]; exact Int.mul_pos (by omega) (by omega)
      have D1 : D ≤ 24883200000 * 120 := by rw [hD]; exact Int.mul_le_mul (by omega) t4 (by omega) (by omega)
      have e0 : IntKind.i64.wrap (-q.num) = -q.num := IntWalk.i64_in _ (by omega)
      have e1 : IntKind.i64.wrap (-q.num * x.1) = N := by rw [← hN]; exact IntWalk.i64_in _ (by omega)
      have e2 : IntKind.i64.wrap ((q.den : Int) * x.2) = D := by rw [← hD]; exact IntWalk.i64_in _ (by omega)
      have HP := Lib.hid (show red N D.toNat = q * fac x by
        rw [hN, show D.toNat = q.den * x.2.toNat by rw [hD]; obtain ⟨m, hm⟩ := Int.eq_ofNat_of_zero_le (show 0 ≤ x.2 by omega); rw [hm]; rfl]
        exact red_neg q x)
      have HM := Lib.hid (fun w => make_any N D w (by omega) D0 (by omega))
      clear hN hD n1 D0 D1 hq hxx htk b1 b2
      have k0 := kept_all (by_.at_ 0 rfl)
      have k1 := kept_all (by_.at_ 1 rfl)
      have k2 := kept_all p0
      have k3 := kept_all p1
      go_upto_region 5 with fail
      refine wp_region_marked (fun w' => Below wr.heap.size wr w') 18 (by kernel_rfl) ?_
      have hS : Below wr.heap.size wr wr.drew := (Below.refl _ _).drew
      refine wpAnyM_take (i := 0) (v := ?_) rfl (by kernel_rfl) (by kernel_rfl) (by kernel_rfl) (by kernel_rfl) (by kernel_rfl) (fun _ _ _ h => h) hS (.inl ⟨by rfl, ?_⟩) ?_
      rotate_left 1
      · intro w' hS'; go_simp; try with_reducible rfl
      simp only [Act.put, List.setIfInBounds_toArray]
      refine wpAnyM_take (i := 1) (v := ?_) rfl (by kernel_rfl) (by kernel_rfl) (by kernel_rfl) (by kernel_rfl) (by kernel_rfl) (fun _ _ _ h => h) hS (.inl ⟨by rfl, ?_⟩) ?_
      rotate_left 1
      · intro w' hS'; go_simp; try with_reducible rfl
      simp only [Act.put]
      refine wpAnyM_take (i := 2) (v := ?_) rfl (by kernel_rfl) (by kernel_rfl) (by kernel_rfl) (by kernel_rfl) (by kernel_rfl) (fun _ _ _ h => h) hS (.inl ⟨by rfl, ?_⟩) ?_
      rotate_left 1
      · intro w' hS'; go_simp; try with_reducible rfl
      simp only [Act.put]
      refine wpAnyM_take (i := 3) (v := ?_) rfl (by kernel_rfl) (by kernel_rfl) (by kernel_rfl) (by kernel_rfl) (by kernel_rfl) (fun _ _ _ h => h) hS (.inl ⟨by rfl, ?_⟩) ?_
      rotate_left 1
      · intro w' hS'; go_simp; try with_reducible rfl
      simp only [Act.put]
      refine wpAnyM_take (i := 4) (v := ?_) rfl (by kernel_rfl) (by kernel_rfl) (by kernel_rfl) (by kernel_rfl) (by kernel_rfl) (fun _ _ _ h => h) hS (.inl ⟨by rfl, ?_⟩) ?_
      rotate_left 1
      · intro w' hS'; go_simp; try with_reducible rfl
      simp only [Act.put]
      refine wpAnyM_take (i := 5) (v := ?_) rfl (by kernel_rfl) (by kernel_rfl) (by kernel_rfl) (by kernel_rfl) (by kernel_rfl) (fun _ _ _ h => h) hS (.inl ⟨by rfl, ?_⟩) ?_
      rotate_left 1
      · intro w' hS'; go_simp; try with_reducible rfl
      simp only [Act.put]
      refine wpAnyM_take (i := 6) (v := ?_) rfl (by kernel_rfl) (by kernel_rfl) (by kernel_rfl) (by kernel_rfl) (by kernel_rfl) (fun _ _ _ h => h) hS (.inl ⟨by rfl, ?_⟩) ?_
      rotate_left 1
      · intro w' hS'; go_simp; try with_reducible rfl
      simp only [Act.put]
      refine wpAnyM_take (i := 7) (v := ?_) rfl (by kernel_rfl) (by kernel_rfl) (by kernel_rfl) (by kernel_rfl) (by kernel_rfl) (fun _ _ _ h => h) hS (.inl ⟨by rfl, ?_⟩) ?_
      rotate_left 1
      · intro w' hS'; go_simp; try with_reducible rfl
      simp only [Act.put]
      refine wpAnyM_take (i := 8) (v := ?_) rfl (by kernel_rfl) (by kernel_rfl) (by kernel_rfl) (by kernel_rfl) (by kernel_rfl) (fun _ _ _ h => h) hS (.inl ⟨by rfl, ?_⟩) ?_
      rotate_left 1
      · intro w' hS'; go_simp; try with_reducible rfl
      simp only [Act.put]
      refine wpAnyM_take (i := 9) (v := ?_) rfl (by kernel_rfl) (by kernel_rfl) (by kernel_rfl) (by kernel_rfl) (by kernel_rfl) (fun _ _ _ h => h) hS (.inl ⟨by rfl, ?_⟩) ?_
      rotate_left 1
      · intro w' hS'; go_simp; try with_reducible rfl
      simp only [Act.put]
      refine wpAnyM_take (i := 10) (v := ?_) rfl (by kernel_rfl) (by kernel_rfl) (by kernel_rfl) (by kernel_rfl) (by kernel_rfl) (fun _ _ _ h => h) hS (.inl ⟨by rfl, ?_⟩) ?_
      rotate_left 1
      · intro w' hS'; go_simp; try with_reducible rfl
      simp only [Act.put]
      refine wpAnyM_take (i := 11) (v := ?_) rfl (by kernel_rfl) (by kernel_rfl) (by kernel_rfl) (by kernel_rfl) (by kernel_rfl) (fun _ _ _ h => h) hS (.inl ⟨by rfl, ?_⟩) ?_
      rotate_left 1
      · intro w' hS'; go_simp; try with_reducible rfl
      simp only [Act.put]
      refine wpAnyM_take (i := 12) (v := ?_) rfl (by kernel_rfl) (by kernel_rfl) (by kernel_rfl) (by kernel_rfl) (by kernel_rfl) (fun _ _ _ h => h) hS (.inl ⟨by rfl, ?_⟩) ?_
      rotate_left 1
      · intro w' hS'; go_simp; try with_reducible rfl
      simp only [Act.put]
      refine wpAnyM_take (i := 13) (v := ?_) rfl (by kernel_rfl) (by kernel_rfl) (by kernel_rfl) (by kernel_rfl) (by kernel_rfl) (fun _ _ _ h => h) hS (.inl ⟨by rfl, ?_⟩) ?_
      rotate_left 1
      · intro w' hS'; go_simp; try with_reducible rfl
      simp only [Act.put]
      refine wpAnyM_take (i := 14) (v := ?_) rfl (by kernel_rfl) (by kernel_rfl) (by kernel_rfl) (by kernel_rfl) (by kernel_rfl) (fun _ _ _ h => h) hS (.inl ⟨by rfl, ?_⟩) ?_
      rotate_left 1
      · intro w' hS'; go_simp; try with_reducible rfl
      simp only [Act.put]
      refine wpAnyM_take (i := 15) (v := ?_) rfl (by kernel_rfl) (by kernel_rfl) (by kernel_rfl) (by kernel_rfl) (by kernel_rfl) (fun _ _ _ h => h) hS (.inl ⟨by rfl, ?_⟩) ?_
      rotate_left 1
      · intro w' hS'; go_simp; try with_reducible rfl
      simp only [Act.put]
      refine wpAnyM_take (i := 16) (v := ?_) rfl (by kernel_rfl) (by kernel_rfl) (by kernel_rfl) (by kernel_rfl) (by kernel_rfl) (fun _ _ _ h => h) hS (.inl ⟨by rfl, ?_⟩) ?_
      rotate_left 1
      · intro w' hS'; go_simp; try with_reducible rfl
      simp only [Act.put]
      clear k0 k1 k2 k3
      refine wpAnyM_one (i := 17) (by kernel_rfl) rfl (by rfl) (fun K hK => ?_)
      go_simp
      refine (HM.out wr.drew).mono ?_
      rintro e w2 ⟨rfl, hb2⟩
      rw [HP.out]
      replace hS : Below wr.heap.size wr w2 := hS.trans (hb2.mono (by simp))
      have hbx := bx.below hS
      have hby := by_.below hS
      have c0 := hby.at_ 0 rfl
      have c1 := hby.at_ 1 rfl
      have f0 := hby.thaw 0
      have f1 := hby.thaw 1
      refine hK _ _ (.inr hS) ?_
      try simp only [Act.put, List.setIfInBounds_toArray]
      clear hK K
      refine wpAnyM_one (i := 18) (by kernel_rfl) rfl (by rfl) (fun K hK => ?_)
      go_simp
      refine hK _ _ (.inl rfl) ?_
      clear hK K
      refine wpAnyM_done (by kernel_rfl) ?_ _
      have hbel2 := hbel.trans (hS.mono hbel.size)
      have hs2 := hbel2.size
      go_wp2
      go_roundw
      case rel =>
        refine ⟨k + 1, by omega, by go_num, (hbx.far (by simp) _).far (by simp) _, ?_, (by repeat (first | exact hbel2 | refine Below.setCell ?_ (by first | omega | (simp <;> omega)) _ | refine Below.alloc ?_ (by first | omega | (simp <;> omega)) _ | refine Below.drew ?_))⟩
        rw [HS.out]
        exact (hby.set_ 0 (.int .i64 (q * fac x).num)).set_ 1 (.int .i64 ((q * fac x).den : Int))
      case measure => (simp [intOf]) <;> omega
    · obtain rfl : k = xs.length := by omega
      rw [List.take_of_length_le (Nat.le_refl _)] at by_
      have c0 := bx.at_ 0 rfl
      have c1 := bx.at_ 1 rfl
      have f0 := bx.thaw 0
      have f1 := bx.thaw 1
      have d0 := by_.at_ 0 rfl
      have d1 := by_.at_ 1 rfl
      have bz := (bx.set_ 0 (.int .i64 (ratQ xs).num)).set_ 1 (.int .i64 ((ratQ xs).den : Int))
      have r0 := bz.at_ 0 rfl
      have r1 := bz.at_ 1 rfl
      go_wp2
      exact bodyPost_ret (v := .agg #[.int .i64 (ratQ xs).num, .int .i64 ((ratQ xs).den : Int)]) (by simp [results, Try.results62, go_sem, r0, r1]) rfl ⟨rfl, (by repeat (first | exact hbel | refine Below.setCell ?_ (by first | omega | (simp <;> omega)) _ | refine Below.alloc ?_ (by first | omega | (simp <;> omega)) _ | refine Below.drew ?_))⟩

/-- A fraction and a code. -/
theorem ret_fracS {R : (Int × Int) × Int} {x y c : Int} (h : R = ((x, y), c)) : Ending.returned (.tuple #[.agg #[.int .i64 x, .int .i64 y], .int .i64 c]) = .returned (.tuple #[.agg #[.int .i64 R.1.1, .int .i64 R.1.2], .int .i64 R.2]) := by subst h; rfl

set_option maxHeartbeats 2000000 in
theorem specRatioOf (a : Option Addr) (c : Nat) (xs : List (Int × Int)) (w : World) (ha : RdF pairF w a xs) (_ : All2 xs) :
    Calls Try.prog 20 #[.slice a xs.length c] w fun e w' => e = .returned (.tuple #[.agg #[.int .i64 (ratR xs).1.1, .int .i64 (ratR xs).1.2], .int .i64 (ratR xs).2]) ∧ Below w.heap.size w w' := by
  have hbel : Below w.heap.size w (w.alloc (.cells #[.int .i64 0, .int .i64 0] 27)) := (by repeat (first | exact Below.refl _ _ | refine Below.setCell ?_ (by first | omega | (simp <;> omega)) _ | refine Below.alloc ?_ (by first | omega | (simp <;> omega)) _ | refine Below.drew ?_))
  have bx := Bx.new w #[.int .i64 0, .int .i64 0] 27
  cases ht : trainB xs with
  | false =>
    have HR := Lib.hid (ratR_bad ht)
    have HV := Lib.hid (l04Ok_at a c xs _ ht (ha.below hbel))
    clear ht
    go_enter Try.func20, Try.ntmps20
    go_wp2_with (go_at_call 61; refine HV.out.mono ?_; rintro e w1 ⟨rfl, hb1⟩; have bx1 := bx.below hb1; have hz1 := bx1.lt; have c0 := bx1.at_ 0 rfl; have c1 := bx1.at_ 1 rfl; have f0 := bx1.thaw 0; have f1 := bx1.thaw 1; have r0 := ((bx1.set_ 0 (.int .i64 0)).set_ 1 (.int .i64 0)).at_ 0 rfl; have r1 := ((bx1.set_ 0 (.int .i64 0)).set_ 1 (.int .i64 0)).at_ 1 rfl; have hb := hbel.trans (hb1.mono hbel.size))
    exact bodyPost_ret (v := .tuple #[.agg #[.int .i64 0, .int .i64 0], .int .i64 1]) (by simp [results, Try.results20, go_sem, r0, r1]) rfl ⟨ret_fracS HR.out, (by repeat (first | exact hb | refine Below.setCell ?_ (by first | omega | (simp <;> omega)) _ | refine Below.alloc ?_ (by first | omega | (simp <;> omega)) _ | refine Below.drew ?_))⟩
  | true =>
    have HR := Lib.hid (ratR_ok ht)
    have HV := Lib.hid (l04Ok_at a c xs _ ht (ha.below hbel))
    have HA := Lib.hid (train_of ht)
    clear ht
    go_enter Try.func20, Try.ntmps20
    go_wp2_with (first | (go_at_call 61; refine HV.out.mono ?_; rintro e w1 ⟨rfl, hb1⟩; have bx1 := bx.below hb1; have hb := hbel.trans (hb1.mono hbel.size)) | (go_at_call 62; refine (l04Ratio_any a c xs _ (ha.below hb) HA.out.all HA.out.n1).mono ?_; rintro e w3 ⟨rfl, hb4⟩; have bx3 := bx1.below hb4; have hz1 := bx3.lt; have c0 := bx3.at_ 0 rfl; have c1 := bx3.at_ 1 rfl; have f0 := bx3.thaw 0; have f1 := bx3.thaw 1; have r0 := ((bx3.set_ 0 (.int .i64 (ratQ xs).num)).set_ 1 (.int .i64 ((ratQ xs).den : Int))).at_ 0 rfl; have r1 := ((bx3.set_ 0 (.int .i64 (ratQ xs).num)).set_ 1 (.int .i64 ((ratQ xs).den : Int))).at_ 1 rfl; have hb5 := hb.trans (hb4.mono hb.size)))
    exact bodyPost_ret (v := .tuple #[.agg #[.int .i64 (ratQ xs).num, .int .i64 ((ratQ xs).den : Int)], .int .i64 0]) (by simp [results, Try.results20, go_sem, r0, r1]) rfl ⟨ret_fracS HR.out, (by repeat (first | exact hb5 | refine Below.setCell ?_ (by first | omega | (simp <;> omega)) _ | refine Below.alloc ?_ (by first | omega | (simp <;> omega)) _ | refine Below.drew ?_))⟩

set_option maxHeartbeats 4000000 in
theorem specOutputTurns (a : Option Addr) (c : Nat) (xs : List (Int × Int)) (t : Int) (w : World) (ha : RdF pairF w a xs) (_ : All2 xs) (_ : I64 t) :
    Calls Try.prog 40 #[.slice a xs.length c, .int .i64 t] w fun e w' => e = .returned (.tuple #[.agg #[.int .i64 (outR xs t).1.1, .int .i64 (outR xs t).1.2], .int .i64 (outR xs t).2]) ∧ Below w.heap.size w w' := by
  have hbel : Below w.heap.size w (w.alloc (.cells #[.int .i64 0, .int .i64 0] 27)) := (by repeat (first | exact Below.refl _ _ | refine Below.setCell ?_ (by first | omega | (simp <;> omega)) _ | refine Below.alloc ?_ (by first | omega | (simp <;> omega)) _ | refine Below.drew ?_))
  have bx := Bx.new w #[.int .i64 0, .int .i64 0] 27
  cases ht : trainB xs with
  | false =>
    have HR := Lib.hid (outR_bad (t := t) ht)
    have HV := Lib.hid (l04Ok_at a c xs _ ht (ha.below hbel))
    clear ht
    go_enter Try.func40, Try.ntmps40
    go_wp2_with (go_at_call 61; refine HV.out.mono ?_; rintro e w1 ⟨rfl, hb1⟩; have bx1 := bx.below hb1; have hz1 := bx1.lt; have c0 := bx1.at_ 0 rfl; have c1 := bx1.at_ 1 rfl; have f0 := bx1.thaw 0; have f1 := bx1.thaw 1; have r0 := ((bx1.set_ 0 (.int .i64 0)).set_ 1 (.int .i64 0)).at_ 0 rfl; have r1 := ((bx1.set_ 0 (.int .i64 0)).set_ 1 (.int .i64 0)).at_ 1 rfl; have hb := hbel.trans (hb1.mono hbel.size))
    exact bodyPost_ret (v := .tuple #[.agg #[.int .i64 0, .int .i64 0], .int .i64 1]) (by simp [results, Try.results40, go_sem, r0, r1]) rfl ⟨ret_fracS HR.out, (by repeat (first | exact hb | refine Below.setCell ?_ (by first | omega | (simp <;> omega)) _ | refine Below.alloc ?_ (by first | omega | (simp <;> omega)) _ | refine Below.drew ?_))⟩
  | true =>
    have HV := Lib.hid (l04Ok_at a c xs _ ht (ha.below hbel))
    have HA := Lib.hid (train_of ht)
    cases hi : inB t (-1000) 1000 with
    | false =>
      have HR := Lib.hid (outR_range ht hi)
      have HI := Lib.hid hi
      clear ht hi
      go_enter Try.func40, Try.ntmps40
      go_wp2_with (first | (go_at_call 61; refine HV.out.mono ?_; rintro e w1 ⟨rfl, hb1⟩; have bx1 := bx.below hb1; have hz1 := bx1.lt; have c0 := bx1.at_ 0 rfl; have c1 := bx1.at_ 1 rfl; have f0 := bx1.thaw 0; have f1 := bx1.thaw 1; have r0 := ((bx1.set_ 0 (.int .i64 0)).set_ 1 (.int .i64 0)).at_ 0 rfl; have r1 := ((bx1.set_ 0 (.int .i64 0)).set_ 1 (.int .i64 0)).at_ 1 rfl; have hb := hbel.trans (hb1.mono hbel.size)) | (go_at_call 78; refine (l00In_any _ _ _ _).mono ?_; rintro e w2 ⟨rfl, hq⟩; subst w2; rw [HI.out]))
      exact bodyPost_ret (v := .tuple #[.agg #[.int .i64 0, .int .i64 0], .int .i64 2]) (by simp [results, Try.results40, go_sem, r0, r1]) rfl ⟨ret_fracS HR.out, (by repeat (first | exact hb | refine Below.setCell ?_ (by first | omega | (simp <;> omega)) _ | refine Below.alloc ?_ (by first | omega | (simp <;> omega)) _ | refine Below.drew ?_))⟩
    | true =>
      have HR := Lib.hid (outR_ok ht hi)
      have HI := Lib.hid hi
      obtain ⟨t0, t1⟩ := inB_true hi
      have hA := train_of ht
      have b := ratQ_in hA.all (k := xs.length) (Nat.le_refl _) hA.n1
      rw [List.take_of_length_le (Nat.le_refl _)] at b
      have d0 := den_pos (ratQ xs)
      obtain ⟨N, hN⟩ : ∃ N, N = (ratQ xs).num * t := ⟨_, rfl⟩
      have n1 : N.natAbs ≤ 2985984000000 * 1000 := by rw [hN, Int.natAbs_mul]; exact Nat.mul_le_mul b.1 (by omega)
      have e1 : IntKind.i64.wrap ((ratQ xs).num * t) = N := by rw [← hN]; exact IntWalk.i64_in _ (by omega)
      have HM := Lib.hid (fun w => make_any N ((ratQ xs).den : Int) w (by omega) (by omega) (by omega))
      rw [Int.toNat_natCast] at HM
      have HN := Lib.hid hN
      clear ht hi hA b d0 n1 hN
      go_enter Try.func40, Try.ntmps40
      go_wp2_with (first | (go_at_call 61; refine HV.out.mono ?_; rintro e w1 ⟨rfl, hb1⟩; have bx1 := bx.below hb1; have hb := hbel.trans (hb1.mono hbel.size)) | (go_at_call 78; refine (l00In_any _ _ _ _).mono ?_; rintro e w2 ⟨rfl, hq⟩; subst w2; rw [HI.out]) | (go_at_call 62; refine (l04Ratio_any a c xs _ (ha.below hb) HA.out.all HA.out.n1).mono ?_; rintro e w3 ⟨rfl, hb4⟩; have bx3 := bx1.below hb4; have hz3 := bx3.lt; have hb5 := hb.trans (hb4.mono hb.size)) | (go_at_call 79; refine (HM.out _).mono ?_; rintro e w5 ⟨rfl, hb6⟩; have bx5 := (bx3.alloc (.cells #[.int .i64 (ratQ xs).num, .int .i64 ((ratQ xs).den : Int)] 27)).below hb6; have hz1 := bx5.lt; have c0 := bx5.at_ 0 rfl; have c1 := bx5.at_ 1 rfl; have f0 := bx5.thaw 0; have f1 := bx5.thaw 1; have r0 := ((bx5.set_ 0 (.int .i64 (red N (ratQ xs).den).num)).set_ 1 (.int .i64 ((red N (ratQ xs).den).den : Int))).at_ 0 rfl; have r1 := ((bx5.set_ 0 (.int .i64 (red N (ratQ xs).den).num)).set_ 1 (.int .i64 ((red N (ratQ xs).den).den : Int))).at_ 1 rfl; have hb7 : Below w.heap.size w w5 := hb5.trans (((Below.refl _ _).alloc (by have := hb5.size; omega) _).trans (hb6.mono (by have := hb5.size; simp; omega)))))
      exact bodyPost_ret (v := .tuple #[.agg #[.int .i64 (red N (ratQ xs).den).num, .int .i64 ((red N (ratQ xs).den).den : Int)], .int .i64 0]) (by simp [results, Try.results40, go_sem, r0, r1]) rfl ⟨ret_fracS (by rw [HR.out, HN.out]), (by repeat (first | exact hb7 | refine Below.setCell ?_ (by first | omega | (simp <;> omega)) _ | refine Below.alloc ?_ (by first | omega | (simp <;> omega)) _ | refine Below.drew ?_))⟩
end Go.Proofs.Ytaefgkhbgljkoaa
