/-
  LeastTurns, by the program and by the model.
-/
import Derived.Test.YtaefgkhbgljkoaaRatI
import Derived.Test.YtaefgkhbgljkoaaRatS
namespace Go.Proofs.Ytaefgkhbgljkoaa
open Go.RowKit

theorem fit_step {xs : List (Int × Int)} (h : TrainOf xs) {k : Nat} (hk : k < xs.length) : FitQ [ratQ (xs.take k), fac (elt pairF xs k)] := by
  have b := ratQ_in h.all (k := k) (by omega) (by have := h.n1; omega)
  have ht := h.all _ (elt_mem (F := pairF) hk)
  have c1 := fac_num_le ht
  have c2 := fac_den_le ht
  have m1 := Nat.mul_le_mul b.1 c1
  have m2 := Nat.mul_le_mul b.2 c2
  exact fit_two (by omega) (by omega) (by rw [Int.natAbs_mul]; omega) (by omega)
theorem lcm_bd {xs : List (Int × Int)} (h : TrainOf xs) {k : Nat} (hk : k < xs.length) : Nat.lcm (lcmTo xs k) (ratQ (xs.take (k + 1))).den = lcmTo xs (k + 1) ∧
    (0 < lcmTo xs k ∧ lcmTo xs k ≤ 9000000000000000000) ∧ (ratQ (xs.take (k + 1))).den ≤ 9000000000000000000 ∧ Nat.lcm (lcmTo xs k) (ratQ (xs.take (k + 1))).den ≤ 9000000000000000000 := by
  have h6 := h.n1
  have b1 := lcmTo_bd h.all (k := k) (by omega) (by omega)
  have b2 := lcmTo_bd h.all (k := k + 1) (by omega) (by omega)
  have b3 := ratQ_in h.all (k := k + 1) (by omega) (by omega)
  have e : Nat.lcm (lcmTo xs k) (ratQ (xs.take (k + 1))).den = lcmTo xs (k + 1) := rfl
  rw [e]
  exact ⟨rfl, ⟨by omega, by omega⟩, by omega, by omega⟩

set_option maxHeartbeats 4000000 in
theorem implLeastTurns (a : Option Addr) (c : Nat) (xs : List (Int × Int)) (w : World) (ha : RdF pairF w a xs) (hz : All2 xs) :
    Calls Try.prog 24 #[.slice a xs.length c] w fun e w' => e = .returned (.tuple #[.int .i64 (leastR xs).1, .int .i64 (leastR xs).2]) ∧ Below w.heap.size w w' := by
  have hx := ha.len
  have HV := Lib.hid (implValidTrain a c xs w ha hz)
  cases ht : trainB xs with
  | false =>
    have HR := Lib.hid (leastR_bad ht)
    rw [ht] at HV
    clear ht
    go_enter Try.func24, Try.ntmps24
    go_wp2_with (go_at_call 37; refine HV.out.mono ?_; rintro e w1 ⟨rfl, hb1⟩)
    exact bodyPost_ret (v := .tuple #[.int .i64 0, .int .i64 1]) (by simp [results, Try.results24, go_sem]) rfl ⟨ret_two HR.out, hb1⟩
  | true =>
    have HR := Lib.hid (leastR_ok ht)
    have HA := Lib.hid (train_of ht)
    rw [ht] at HV
    clear ht
    have HP := Lib.hid (fun u => product_any none 0 0 [] u rfl ⟨by simp [frs], fun h => absurd rfl h⟩ fit_nil)
    rw [show prodQ [] = ratQ (xs.take 0) from rfl] at HP
    go_enter Try.func24, Try.ntmps24
    go_wp2_with (first | (go_at_call 37; refine HV.out.mono ?_; rintro e w1 ⟨rfl, hb1⟩) | (go_at_call 59; refine (HP.out _).mono ?_; rintro e w2 ⟨rfl, hb2⟩; have hb3 := hb1.trans (hb2.mono hb1.size)))
    obtain ⟨u, hu⟩ : ∃ u, u = w2.alloc (.cells #[.int .i64 (ratQ []).num, .int .i64 ((ratQ []).den : Int)] 27) := ⟨_, rfl⟩
    rw [← hu]
    have bx : Bx u w2.heap.size 27 #[.int .i64 (ratQ []).num, .int .i64 ((ratQ []).den : Int)] := by rw [hu]; exact Bx.new _ _ _
    have hbu : Below w2.heap.size w2 u := by rw [hu]; exact (by repeat (first | exact Below.refl _ _ | refine Below.setCell ?_ (by first | omega | (simp <;> omega)) _ | refine Below.alloc ?_ (by first | omega | (simp <;> omega)) _ | refine Below.drew ?_))
    clear hu
    have hs2 := hb3.size
    have hbelu := hb3.trans (hbu.mono hs2)
    refine (factorsOf_any a c xs u (ha.below hbelu) HA.out.all).mono ?_
    rintro e w3 ⟨A, C, rfl, own, hb4⟩
    have hzu := bx.lt
    replace bx := bx.below hb4
    have hbel3 := hbelu.trans (hb4.mono hbelu.size)
    obtain ⟨B, hB⟩ : ∃ B, B = w2.heap.size := ⟨_, rfl⟩
    obtain ⟨L, hL⟩ : ∃ L, L = u.heap.size := ⟨_, rfl⟩
    obtain ⟨H, hH⟩ : ∃ H, H = w3.heap.size := ⟨_, rfl⟩
    rw [← hB] at bx hs2 hzu ⊢
    rw [← hL, ← hH] at own
    rw [← hL] at hzu
    have hLH : L ≤ H := by rw [hL, hH]; exact hb4.size
    have hHw : H ≤ w3.heap.size := by rw [hH]; exact Nat.le_refl _
    clear hB hL hH hb4 hbu hbelu hb1 hb2 hb3
    go_wp2
    go_loopw [4, 15] (fun l i wr => ∃ k : Nat, k ≤ xs.length ∧ i = .int .i64 k ∧ l = .int .i64 (lcmTo xs k : Int) ∧ Bx wr B 27 #[.int .i64 (ratQ (xs.take k)).num, .int .i64 ((ratQ (xs.take k)).den : Int)] ∧ OwnF pairF 27 wr L H (.slice A xs.length C) (frs (xs.map fac)) ∧ H ≤ wr.heap.size ∧ Below w.heap.size w wr) (fun _ i _ => xs.length - (intOf i).toNat)
    case atStart => exact ⟨0, Nat.zero_le _, rfl, rfl, bx, own, hHw, hbel3⟩
    case round =>
      clear bx own hHw hbel3
      obtain ⟨k, hk, rfl, rfl, bx, own, hHw, hbel⟩ := hrel
      have hBl := bx.lt
      by_cases hlt : k < xs.length
      · have hfl : k < (frs (xs.map fac)).length := by rw [frs_len, List.length_map]; exact hlt
        obtain ⟨b, off, rfl, p0, p1⟩ := own.rd.at2 hfl
        rw [frs_at (by rw [List.length_map]; exact hlt), qat_fac hlt] at p0 p1
        simp only at p0 p1
        have HF := Lib.hid (fit_step HA.out hlt)
        have HS := Lib.hid (ratQ_take hlt)
        have HL := Lib.hid (lcm_bd HA.out hlt)
        have c0 := bx.at_ 0 rfl
        have c1 := bx.at_ 1 rfl
        have f0 := bx.thaw 0
        have f1 := bx.thaw 1
        clear hfl
        go_wp2_with fail
        obtain ⟨v, hv⟩ : ∃ v, v = (wr.alloc (.cells #[.int .i64 (fac (elt pairF xs k)).num, .int .i64 ((fac (elt pairF xs k)).den : Int)] 27)).alloc (.cells #[.int .i64 (ratQ (xs.take k)).num, .int .i64 ((ratQ (xs.take k)).den : Int), .int .i64 (fac (elt pairF xs k)).num, .int .i64 ((fac (elt pairF xs k)).den : Int)] 27) := ⟨_, rfl⟩
        rw [← hv]
        have bv : Bx v (wr.heap.size + 1) 27 #[.int .i64 (ratQ (xs.take k)).num, .int .i64 ((ratQ (xs.take k)).den : Int), .int .i64 (fac (elt pairF xs k)).num, .int .i64 ((fac (elt pairF xs k)).den : Int)] := by
          rw [hv]; simpa using Bx.new (wr.alloc (.cells #[.int .i64 (fac (elt pairF xs k)).num, .int .i64 ((fac (elt pairF xs k)).den : Int)] 27)) #[.int .i64 (ratQ (xs.take k)).num, .int .i64 ((ratQ (xs.take k)).den : Int), .int .i64 (fac (elt pairF xs k)).num, .int .i64 ((fac (elt pairF xs k)).den : Int)] 27
        have hbv : Below wr.heap.size wr v := by rw [hv]; exact (by repeat (first | exact Below.refl _ _ | refine Below.setCell ?_ (by first | omega | (simp <;> omega)) _ | refine Below.alloc ?_ (by first | omega | (simp <;> omega)) _ | refine Below.drew ?_))
        clear hv
        refine (product2_any _ _ (ratQ (xs.take k)) (fac (elt pairF xs k)) v (bv.at_ 0 rfl) (bv.at_ 1 rfl) (bv.at_ 2 rfl) (bv.at_ 3 rfl) HF.out).mono ?_
        rintro e w5 ⟨rfl, hb5⟩
        rw [← HS.out]
        have hb6 := hbv.trans (hb5.mono hbv.size)
        replace bx := bx.below hb6
        replace own := own.below hb6
        replace hbel := hbel.trans (hb6.mono hbel.size)
        have hs6 := hb6.size
        have hB5 := bx.lt
        clear c0 c1 f0 f1 bv hbv hb5 hb6
        have c0 := bx.at_ 0 rfl
        have c1 := bx.at_ 1 rfl
        have f0 := bx.thaw 0
        have f1 := bx.thaw 1
        go_wp2_with fail
        obtain ⟨v6, hv6⟩ : ∃ v, v = (w5.setCell ⟨B, 0, none⟩ (.int .i64 (ratQ (xs.take (k + 1))).num)).setCell ⟨B, 1, none⟩ (.int .i64 ((ratQ (xs.take (k + 1))).den : Int)) := ⟨_, rfl⟩
        rw [← hv6]
        have bx6 : Bx v6 B 27 #[.int .i64 (ratQ (xs.take (k + 1))).num, .int .i64 ((ratQ (xs.take (k + 1))).den : Int)] := by rw [hv6]; exact (bx.set_ 0 _).set_ 1 _
        have own6 : OwnF pairF 27 v6 L H (.slice (some ⟨b, off, none⟩) xs.length C) (frs (xs.map fac)) := by rw [hv6]; exact (own.setCell (.inl hzu) _).setCell (.inl hzu) _
        have hbel6 : Below w.heap.size w v6 := by rw [hv6]; exact (hbel.setCell hs2 _).setCell hs2 _
        have hH6 : H ≤ v6.heap.size := by rw [hv6]; simp; omega
        clear hv6
        refine (multiple_any (lcmTo xs k) (ratQ (xs.take (k + 1))).den v6 HL.out.2.1.1 HL.out.2.1.2 HL.out.2.2.1 HL.out.2.2.2).mono ?_
        rintro e w7 ⟨rfl, hq⟩
        subst w7
        rw [HL.out.1]
        go_wp2
        go_roundw
        case rel => exact ⟨k + 1, by omega, by go_num, rfl, bx6, own6, hH6, hbel6⟩
        case measure => (simp [intOf]) <;> omega
      · obtain rfl : k = xs.length := by omega
        go_wp2
        exact bodyPost_ret (v := .tuple #[.int .i64 (lcmTo xs xs.length : Int), .int .i64 0]) (by simp [results, Try.results24, go_sem]) rfl ⟨ret_two HR.out, hbel⟩
end Go.Proofs.Ytaefgkhbgljkoaa
