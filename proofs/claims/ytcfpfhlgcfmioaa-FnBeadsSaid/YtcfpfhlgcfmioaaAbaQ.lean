/-
  SameAbacus, by the program and by the model.
-/
import Derived.Test.YtcfpfhlgcfmioaaAbaI
namespace Go.Proofs.Ytcfpfhlgcfmioaa
open Go.RowKit

theorem pair_ne {x y : Int × Int} (h : ¬ x = y) : (¬ x.1 = y.1) ∨ (x.1 = y.1 ∧ ¬ x.2 = y.2) := by
  by_cases h1 : x.1 = y.1
  · exact .inr ⟨h1, fun h2 => h (Prod.ext h1 h2)⟩
  · exact .inl h1

/-- The same beads and as many rods. -/
def likeB (U L W U' L' W' : Int) (n m : Nat) : Bool := decide (U = U' ∧ L = L' ∧ W = W' ∧ n = m)
theorem likeB_eq {U L W U' L' W' : Int} {xs ys : List (Int × Int)} : abaEqB U L W U' L' W' xs ys = (likeB U L W U' L' W' xs.length ys.length && decide (xs = ys)) := by
  by_cases h : xs = ys
  · subst h; simp [abaEqB, likeB]
  · simp [abaEqB, h]

set_option maxHeartbeats 1000000 in
theorem isLike_any (U L W U' L' W' : Int) (a b : Option Addr) (n m c d : Nat) (w : World) :
    Calls Try.prog 87 #[.agg #[.int .i64 U, .int .i64 L, .int .i64 W, .slice a n c], .agg #[.int .i64 U', .int .i64 L', .int .i64 W', .slice b m d]] w fun e w' =>
      e = .returned (.bool (likeB U L W U' L' W' n m)) ∧ Below w.heap.size w w' := by
  by_cases h0 : U = U'
  · have b0 : (U == U') = true := by simp [h0]
    by_cases h1 : L = L'
    · have b1 : (L == L') = true := by simp [h1]
      by_cases h2 : W = W'
      · have b2 : (W == W') = true := by simp [h2]
        by_cases h3 : n = m
        · have b3 : ((n : Int) == (m : Int)) = true := by simp [h3]
          have H := Lib.hid (show likeB U L W U' L' W' n m = true by simp [likeB, h0, h1, h2, h3])
          clear h0 h1 h2 h3
          go_enter Try.func87, Try.ntmps87
          go_wp2
          go_ret
          exact ⟨ret_bool H.out.symm, (by repeat (first | exact Below.refl _ _ | refine Below.setCell ?_ (by first | omega | (simp <;> omega)) _ | refine Below.alloc ?_ (by first | omega | (simp <;> omega)) _ | refine Below.drew ?_))⟩
        · have b3 : ((n : Int) == (m : Int)) = false := by simp; omega
          have H := Lib.hid (show likeB U L W U' L' W' n m = false by simp [likeB, h3])
          clear h0 h1 h2 h3
          go_enter Try.func87, Try.ntmps87
          go_wp2
          go_ret
          exact ⟨ret_bool H.out.symm, (by repeat (first | exact Below.refl _ _ | refine Below.setCell ?_ (by first | omega | (simp <;> omega)) _ | refine Below.alloc ?_ (by first | omega | (simp <;> omega)) _ | refine Below.drew ?_))⟩
      · have b2 : (W == W') = false := by simp [h2]
        have H := Lib.hid (show likeB U L W U' L' W' n m = false by simp [likeB, h2])
        clear h0 h1 h2
        go_enter Try.func87, Try.ntmps87
        go_wp2
        go_ret
        exact ⟨ret_bool H.out.symm, (by repeat (first | exact Below.refl _ _ | refine Below.setCell ?_ (by first | omega | (simp <;> omega)) _ | refine Below.alloc ?_ (by first | omega | (simp <;> omega)) _ | refine Below.drew ?_))⟩
    · have b1 : (L == L') = false := by simp [h1]
      have H := Lib.hid (show likeB U L W U' L' W' n m = false by simp [likeB, h1])
      clear h0 h1
      go_enter Try.func87, Try.ntmps87
      go_wp2
      go_ret
      exact ⟨ret_bool H.out.symm, (by repeat (first | exact Below.refl _ _ | refine Below.setCell ?_ (by first | omega | (simp <;> omega)) _ | refine Below.alloc ?_ (by first | omega | (simp <;> omega)) _ | refine Below.drew ?_))⟩
  · have b0 : (U == U') = false := by simp [h0]
    have H := Lib.hid (show likeB U L W U' L' W' n m = false by simp [likeB, h0])
    clear h0
    go_enter Try.func87, Try.ntmps87
    go_wp2
    go_ret
    exact ⟨ret_bool H.out.symm, (by repeat (first | exact Below.refl _ _ | refine Below.setCell ?_ (by first | omega | (simp <;> omega)) _ | refine Below.alloc ?_ (by first | omega | (simp <;> omega)) _ | refine Below.drew ?_))⟩

set_option maxHeartbeats 1000000 in
theorem l03Same_any (p q : Nat) (U L W : Int) (a : Option Addr) (c : Nat) (xs : List (Int × Int)) (U' L' W' : Int) (b : Option Addr) (d : Nat) (ys : List (Int × Int)) (w : World) (hp : AbaAt w p U L W a xs.length c) (hq : AbaAt w q U' L' W' b ys.length d) (ha : RdF pairF w a xs) (hb : RdF pairF w b ys) :
    Calls Try.prog 90 #[.pointer (some ⟨p, 0, none⟩), .pointer (some ⟨q, 0, none⟩)] w fun e w' =>
      e = .returned (.bool (abaEqB U L W U' L' W' xs ys)) ∧ ∃ n, w' = w.drewN n := by
  have hx1 := ha.len
  have hy1 := hb.len
  obtain ⟨c0, c1, c2, c3⟩ := hp
  obtain ⟨d0, d1, d2, d3⟩ := hq
  by_cases hl : U = U' ∧ L = L' ∧ W = W' ∧ xs.length = ys.length
  · obtain ⟨h0, h1, h2, h3⟩ := hl
    have b0 : (U != U') = false := by simp [h0]
    have b1 : (L != L') = false := by simp [h1]
    have b2 : (W != W') = false := by simp [h2]
    have b3 : ((xs.length : Int) != (ys.length : Int)) = false := by simp [h3]
    have HL := Lib.hid h3
    have H := Lib.hid (show abaEqB U L W U' L' W' xs ys = decide (xs = ys) by simp [abaEqB, h0, h1, h2])
    clear h0 h1 h2 h3
    go_enter Try.func90, Try.ntmps90
    go_wp2
    go_quiet (fail)
    go_wp2
    go_loopw [5] (fun i wr => ∃ k n : Nat, k ≤ xs.length ∧ i = .int .i64 k ∧ Hid (wr = w.drewN n) ∧ Hid (xs.take k = ys.take k)) (fun i _ => xs.length - (intOf i).toNat)
    case atStart => exact ⟨0, _, Nat.zero_le _, rfl, Lib.hid rfl, Lib.hid (by simp)⟩
    case round =>
      obtain ⟨k, n, hk, rfl, HW, HT⟩ := hrel
      have hbw : Below w.heap.size w wr := by rw [HW.out]; exact bel_drewN (Below.refl _ _) n
      have e0 := kept hbw c3
      have e1 := kept hbw d3
      by_cases hlt : k < xs.length
      · have hlt' : k < ys.length := by rw [← HL.out]; exact hlt
        obtain ⟨b1, o1, rfl, p0, p1⟩ := (ha.below hbw).at2 hlt
        obtain ⟨b2, o2, rfl, q0, q1⟩ := (hb.below hbw).at2 hlt'
        by_cases he : elt pairF xs k = elt pairF ys k
        · rw [← he] at q0 q1
          have HE := Lib.hid he
          clear he
          go_wp2
          go_quiet (fail)
          go_wp2
          go_roundw
          case rel => exact ⟨k + 1, _, by omega, by go_num, Lib.hid (by rw [HW.out, drewN_drewN]), Lib.hid (takeE_snoc (F := pairF) hlt HL.out HT.out HE.out)⟩
          case measure => (simp [intOf]) <;> omega
        · have HE := Lib.hid he
          rcases pair_ne he with h1 | ⟨h1, h2⟩
          · have e1 : ((elt pairF xs k).1 == (elt pairF ys k).1) = false := by simp [h1]
            clear he h1
            go_wp2
            go_quiet (fail)
            go_wp2
            go_ret
            exact ⟨ret_bool (H.out.trans (decide_eq_false (neE_of_at HE.out))).symm, _, by rw [HW.out, drewN_drewN]⟩
          · have e2 : ((elt pairF xs k).2 == (elt pairF ys k).2) = false := by simp [h2]
            rw [← h1] at q0
            clear he h1 h2
            go_wp2
            go_quiet (fail)
            go_wp2
            go_ret
            exact ⟨ret_bool (H.out.trans (decide_eq_false (neE_of_at HE.out))).symm, _, by rw [HW.out, drewN_drewN]⟩
      · obtain rfl : k = xs.length := by omega
        go_wp2
        go_ret
        exact ⟨ret_bool (H.out.trans (decide_eq_true (takeE_all HL.out HT.out))).symm, _, HW.out⟩
  · have H := Lib.hid (show abaEqB U L W U' L' W' xs ys = false by rw [abaEqB, decide_eq_false_iff_not]; rintro ⟨h0, h1, h2, h3⟩; exact hl ⟨h0, h1, h2, by rw [h3]⟩)
    by_cases h0 : U = U'
    · have b0 : (U != U') = false := by simp [h0]
      by_cases h1 : L = L'
      · have b1 : (L != L') = false := by simp [h1]
        by_cases h2 : W = W'
        · have b2 : (W != W') = false := by simp [h2]
          have b3 : ((xs.length : Int) != (ys.length : Int)) = true := by simp; omega
          clear hl h0 h1 h2
          go_enter Try.func90, Try.ntmps90
          go_wp2
          go_quiet (fail)
          go_wp2
          go_ret
          exact ⟨ret_bool H.out.symm, _, rfl⟩
        · have b2 : (W != W') = true := by simp [h2]
          clear hl h0 h1 h2
          go_enter Try.func90, Try.ntmps90
          go_wp2
          go_quiet (fail)
          go_wp2
          go_ret
          exact ⟨ret_bool H.out.symm, _, rfl⟩
      · have b1 : (L != L') = true := by simp [h1]
        clear hl h0 h1
        go_enter Try.func90, Try.ntmps90
        go_wp2
        go_quiet (fail)
        go_wp2
        go_ret
        exact ⟨ret_bool H.out.symm, _, rfl⟩
    · have b0 : (U != U') = true := by simp [h0]
      clear hl h0
      go_enter Try.func90, Try.ntmps90
      go_wp2
      go_quiet (fail)
      go_wp2
      go_ret
      exact ⟨ret_bool H.out.symm, _, rfl⟩

set_option maxHeartbeats 400000 in
theorem specSameAbacus (U L W : Int) (a : Option Addr) (c : Nat) (xs : List (Int × Int)) (U' L' W' : Int) (b : Option Addr) (d : Nat) (ys : List (Int × Int)) (w : World) (ha : RdF pairF w a xs) (_ : I64 U) (_ : I64 L) (_ : I64 W) (_ : All2 xs) (hb : RdF pairF w b ys) (_ : I64 U') (_ : I64 L') (_ : I64 W') (_ : All2 ys) :
    Calls Try.prog 27 #[.agg #[.int .i64 U, .int .i64 L, .int .i64 W, .slice a xs.length c], .agg #[.int .i64 U', .int .i64 L', .int .i64 W', .slice b ys.length d]] w fun e w' =>
      e = .returned (.bool (abaEqB U L W U' L' W' xs ys)) ∧ Below w.heap.size w w' := by
  have hbel : Below w.heap.size w ((w.alloc (.cells #[.int .i64 U, .int .i64 L, .int .i64 W, .slice a xs.length c] 26)).alloc (.cells #[.int .i64 U', .int .i64 L', .int .i64 W', .slice b ys.length d] 26)) := (by repeat (first | exact Below.refl _ _ | refine Below.setCell ?_ (by first | omega | (simp <;> omega)) _ | refine Below.alloc ?_ (by first | omega | (simp <;> omega)) _ | refine Below.drew ?_))
  go_enter Try.func27, Try.ntmps27
  go_wp2_with fail
  refine (l03Same_any w.heap.size (w.heap.size + 1) U L W a c xs U' L' W' b d ys _ ⟨by go_simp, by go_simp, by go_simp, by go_simp⟩ ⟨by go_simp, by go_simp, by go_simp, by go_simp⟩ (ha.below hbel) (hb.below hbel)).mono ?_
  rintro e w1 ⟨rfl, n, rfl⟩
  go_wp2
  go_ret
  exact ⟨rfl, bel_drewN hbel _⟩
end Go.Proofs.Ytcfpfhlgcfmioaa
