/-
  laws.toAbacus, szAbacus, eqAbacus, markAbacus, heldAbacus.
-/
import Derived.Test.YtmnnciiiifjjcaaRodS
import Derived.Test.YtmnnciiiifjjcaaAba
namespace Go.Proofs.Ytmnnciiiifjjcaa
open Go.RowKit


set_option maxHeartbeats 1000000 in
theorem toAbacus_any (U L W : Int) (a : Option Addr) (c : Nat) (rs : List (Int × Int)) (w : World) (ha : RdF pairF w a rs) :
    Calls Try.prog 48 #[.agg #[.int .i64 U, .int .i64 L, .int .i64 W, .slice a rs.length c]] w fun e w' => ∃ A C, e = .returned (.agg #[.int .i64 U, .int .i64 L, .int .i64 W, .slice A rs.length C]) ∧
      OwnF pairF 76 w' w.heap.size w'.heap.size (.slice A rs.length C) rs ∧ Below w.heap.size w w' := by
  go_enter Try.func48, Try.ntmps48
  go_wp2_with fail
  refine (toRodS_any a c rs _ ?_).mono ?_
  · exact ha.below ((((Below.refl _ _).alloc (Nat.le_refl _) _).alloc (by simp) _).alloc (by simp; omega) _)
  rintro e w1 ⟨A, C, rfl, hown, hb⟩
  obtain ⟨hc, hf⟩ := bcell hb
  have hz : w.heap.size + 2 < w1.heap.size := by have := hb.size; simp at this; omega
  go_wp2
  exact bodyPost_ret (v := .agg #[.int .i64 U, .int .i64 L, .int .i64 W, .slice A rs.length C]) (by simp [results, Try.results48, go_sem, hc]) rfl
    ⟨A, C, rfl, (show OwnF pairF 76 _ (w.heap.size + 3) w1.heap.size _ _ from (((((by simpa using hown : OwnF pairF 76 w1 (w.heap.size + 3) w1.heap.size (.slice A rs.length C) rs).setCell (.inl (by simp)) _).setCell (.inl (by simp)) _).setCell (.inl (by simp)) _).setCell (.inl (by simp)) _).setCell (.inl (by simp)) _).wide (by omega) (by simp),
      (by repeat (first | exact ((((Below.refl _ _).alloc (Nat.le_refl _) _).alloc (by simp) _).alloc (by simp <;> omega) _).trans (hb.mono (by simp <;> omega)) | refine Below.setCell ?_ (by first | omega | (simp <;> omega)) _ | refine Below.alloc ?_ (by first | omega | (simp <;> omega)) _ | refine Below.drew ?_))⟩

set_option maxHeartbeats 400000 in
theorem szAbacus_any (U L W : Int) (a : Option Addr) (n c : Nat) (left : Int) (w : World) (hn : n ≤ 9223372036854775807) (hl : 0 ≤ left) (hl' : left ≤ 1048576) :
    Calls Try.prog 47 #[.agg #[.int .i64 U, .int .i64 L, .int .i64 W, .slice a n c], .int .i64 left] w fun e w' => e = .returned (.int .i64 (leftOf n left)) ∧ Below w.heap.size w w' := by
  by_cases h : leftOf n left < 0
  · go_enter Try.func47, Try.ntmps47
    go_wp2_with fail
    refine (szRodS_any a n c left _ hn hl hl').mono ?_
    rintro e w1 ⟨rfl, rfl⟩
    go_wp2
    go_ret
    exact ⟨ret_int (by unfold leftOf at h ⊢; split at h <;> simp_all), (Below.refl _ _).alloc (Nat.le_refl _) _⟩
  · go_enter Try.func47, Try.ntmps47
    go_wp2_with fail
    refine (szRodS_any a n c left _ hn hl hl').mono ?_
    rintro e w1 ⟨rfl, rfl⟩
    go_wp2
    go_ret
    exact ⟨rfl, (Below.refl _ _).alloc (Nat.le_refl _) _⟩

set_option maxHeartbeats 1000000 in
theorem eqAbacus_any (U L W U' L' W' : Int) (a b : Option Addr) (c d : Nat) (xs ys : List (Int × Int)) (w : World) (ha : RdF pairF w a xs) (hb : RdF pairF w b ys) :
    Calls Try.prog 49 #[.agg #[.int .i64 U, .int .i64 L, .int .i64 W, .slice a xs.length c], .agg #[.int .i64 U', .int .i64 L', .int .i64 W', .slice b ys.length d]] w fun e w' =>
      e = .returned (.bool (abaEqB U L W U' L' W' xs ys)) ∧ Below w.heap.size w w' := by
  have hbel : Below w.heap.size w ((w.alloc (.cells #[.int .i64 U, .int .i64 L, .int .i64 W, .slice a xs.length c] 26)).alloc (.cells #[.int .i64 U', .int .i64 L', .int .i64 W', .slice b ys.length d] 26)) :=
    ((Below.refl _ _).alloc (Nat.le_refl _) _).alloc (by simp) _
  by_cases h0 : U = U'
  · have b0 : (U != U') = false := by simp [h0]
    have H0 := Lib.hid h0
    clear h0
    by_cases h1 : L = L'
    · have b1 : (L != L') = false := by simp [h1]
      have H1 := Lib.hid h1
      clear h1
      by_cases h2 : W = W'
      · have b2 : (W != W') = false := by simp [h2]
        have H2 := Lib.hid h2
        clear h2
        go_enter Try.func49, Try.ntmps49
        go_wp2_with fail
        refine (eqRodS_any a b c d xs ys _ (ha.below hbel) (hb.below hbel)).mono ?_
        rintro e w1 ⟨rfl, hb1⟩
        by_cases he : xs = ys
        · have hd : decide (xs = ys) = true := decide_eq_true he
          have HE := Lib.hid he
          clear he
          go_wp2
          go_ret
          exact ⟨ret_bool (by simp [abaEqB, H0.out, H1.out, H2.out, HE.out]), hbel.trans (hb1.mono hbel.size)⟩
        · have hd : decide (xs = ys) = false := decide_eq_false he
          have HE := Lib.hid he
          clear he
          go_wp2
          go_ret
          exact ⟨ret_bool (by simp [abaEqB, HE.out]), hbel.trans (hb1.mono hbel.size)⟩
      · have b2 : (W != W') = true := by simp [h2]
        have H2 := Lib.hid h2
        clear h2
        go_enter Try.func49, Try.ntmps49
        go_wp2
        go_ret
        exact ⟨ret_bool (by simp [abaEqB, H2.out]), hbel⟩
    · have b1 : (L != L') = true := by simp [h1]
      have H1 := Lib.hid h1
      clear h1
      go_enter Try.func49, Try.ntmps49
      go_wp2
      go_ret
      exact ⟨ret_bool (by simp [abaEqB, H1.out]), hbel⟩
  · have b0 : (U != U') = true := by simp [h0]
    have H0 := Lib.hid h0
    clear h0
    go_enter Try.func49, Try.ntmps49
    go_wp2
    go_ret
    exact ⟨ret_bool (by simp [abaEqB, H0.out]), hbel⟩

set_option maxHeartbeats 400000 in
theorem markAbacus_any (t : TypeId) (lo hi : Nat) (U L W : Int) (A : Option Addr) (C : Nat) (k : Int) (xs : List (Int × Int)) (w : World) (ho : OwnF pairF t w lo hi (.slice A xs.length C) xs) (h0 : 0 ≤ k) (h1 : k ≤ 1000000000000) :
    Calls Try.prog 51 #[.agg #[.int .i64 U, .int .i64 L, .int .i64 W, .slice A xs.length C], .int .i64 k] w fun e w' => e = .returned (.int .i64 (k + 2 * (xs.length : Int))) ∧
      OwnF pairF t w' lo hi (.slice A xs.length C) (seq2 k xs.length) ∧ Touch lo hi w w' := by
  go_enter Try.func51, Try.ntmps51
  go_wp2_with fail
  refine (markRodS_any t lo hi A C k xs _ (ho.alloc _) h0 h1).mono ?_
  rintro e w1 ⟨rfl, ho1, ht1⟩
  go_wp2
  go_ret
  exact ⟨rfl, ho1, ((Touch.refl _ _ _).alloc _).trans ht1⟩

set_option maxHeartbeats 400000 in
theorem heldAbacus_any (U L W : Int) (A : Option Addr) (C : Nat) (k : Int) (n : Nat) (w : World) (ha : RdF pairF w A (seq2 k n)) (h0 : 0 ≤ k) (h1 : k ≤ 1000000000000) :
    Calls Try.prog 53 #[.agg #[.int .i64 U, .int .i64 L, .int .i64 W, .slice A n C], .int .i64 k] w fun e w' => e = .returned (.int .i64 (k + 2 * (n : Int))) ∧ Below w.heap.size w w' := by
  have hn := ha.len
  rw [seq2_len] at hn
  have hbel : Below w.heap.size w (w.alloc (.cells #[.int .i64 U, .int .i64 L, .int .i64 W, .slice A n C] 26)) := (Below.refl _ _).alloc (Nat.le_refl _) _
  go_enter Try.func53, Try.ntmps53
  go_wp2_with fail
  refine (heldRodS_any A C k n _ (ha.below hbel) h0 h1).mono ?_
  rintro e w1 ⟨rfl, rfl⟩
  go_wp2
  go_ret
  exact ⟨rfl, hbel⟩
end Go.Proofs.Ytmnnciiiifjjcaa
