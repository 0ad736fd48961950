/-
  spec.l03Kind, l03Ok: whether an abacus is valid, by the model.
-/
import Derived.Test.YtcfpfhlgcfmioaaInS
import Derived.Test.YtcfpfhlgcfmioaaAba
import Derived.IntWalk
namespace Go.Proofs.Ytcfpfhlgcfmioaa
open Go.RowKit

/-- Where an abacus lies. -/
structure AbaAt (w : World) (p : Nat) (U L W : Int) (a : Option Addr) (n c : Nat) : Prop where
  c0 : w.cell? ⟨p, 0, none⟩ = some (.int .i64 U)
  c1 : w.cell? ⟨p, 1, none⟩ = some (.int .i64 L)
  c2 : w.cell? ⟨p, 2, none⟩ = some (.int .i64 W)
  c3 : w.cell? ⟨p, 3, none⟩ = some (.slice a n c)
theorem AbaAt.below {w w' : World} {p : Nat} {U L W : Int} {a : Option Addr} {n c : Nat} (h : AbaAt w p U L W a n c) (hb : Below w.heap.size w w') : AbaAt w' p U L W a n c :=
  ⟨kept hb h.c0, kept hb h.c1, kept hb h.c2, kept hb h.c3⟩
theorem AbaAt.drewN {w : World} {p : Nat} {U L W : Int} {a : Option Addr} {n c : Nat} (h : AbaAt w p U L W a n c) (k : Nat) : AbaAt (w.drewN k) p U L W a n c := ⟨h.c0, h.c1, h.c2, h.c3⟩
theorem AbaAt.far {w : World} {p : Nat} {U L W : Int} {a : Option Addr} {n c : Nat} (h : AbaAt w p U L W a n c) {q : Addr} (hq : p ≠ q.block) (u : Value) : AbaAt (w.setCell q u) p U L W a n c :=
  ⟨cell_far h.c0 hq u, cell_far h.c1 hq u, cell_far h.c2 hq u, cell_far h.c3 hq u⟩
theorem AbaAt.of_box {w : World} {p : Nat} {U L W : Int} {a : Option Addr} {n c : Nat} {t : TypeId} (h : Bx w p t #[.int .i64 U, .int .i64 L, .int .i64 W, .slice a n c]) : AbaAt w p U L W a n c :=
  ⟨h.at_ 0 rfl, h.at_ 1 rfl, h.at_ 2 rfl, h.at_ 3 rfl⟩
theorem AbaAt.kept_ {w w' : World} {L0 p : Nat} {U L W : Int} {a : Option Addr} {n c : Nat} (h : AbaAt w p U L W a n c) (hb : Below L0 w w') (hp : p < L0) : AbaAt w' p U L W a n c :=
  ⟨kept_lo h.c0 hp _ hb, kept_lo h.c1 hp _ hb, kept_lo h.c2 hp _ hb, kept_lo h.c3 hp _ hb⟩

theorem mul_bd {U W : Int} (h1 : 0 ≤ U) (h2 : U ≤ 4) (h3 : 1 ≤ W) (h4 : W ≤ 10) : 0 ≤ U * W ∧ U * W ≤ 40 :=
  ⟨Int.mul_nonneg h1 (by omega), by have : U * W ≤ 4 * 10 := Int.mul_le_mul h2 h4 (by omega) (by omega); omega⟩

set_option maxHeartbeats 1000000 in
theorem l03Kind_any (p : Nat) (U L W : Int) (a : Option Addr) (n c : Nat) (w : World) (h : AbaAt w p U L W a n c) :
    Calls Try.prog 122 #[.pointer (some ⟨p, 0, none⟩)] w fun e w' => e = .returned (.bool (kindB U L W)) ∧ ∃ k, w' = w.drewN k := by
  obtain ⟨c0, c1, c2, c3⟩ := h
  clear c3
  by_cases hk : (0 ≤ U ∧ U ≤ 4) ∧ (1 ≤ L ∧ L ≤ 12) ∧ (1 ≤ W ∧ W ≤ 10)
  · obtain ⟨⟨u0, u1⟩, ⟨l0, l1⟩, w0, w1⟩ := hk
    have i0 := inB_yes u0 u1
    have i1 := inB_yes l0 l1
    have i2 := inB_yes w0 w1
    obtain ⟨m0, m1⟩ := mul_bd u0 u1 w0 w1
    have hw1 : IntKind.i64.wrap (W - 1) = W - 1 := IntWalk.i64_in _ (by omega)
    have hw2 : IntKind.i64.wrap (U * W) = U * W := IntWalk.i64_in _ (by omega)
    have hw3 : IntKind.i64.wrap (U * W + L) = U * W + L := IntWalk.i64_in _ (by omega)
    by_cases h1 : W - 1 ≤ L
    · have d1 : decide (W - 1 ≤ L) = true := decide_eq_true h1
      have H := Lib.hid (show kindB U L W = decide (9 ≤ U * W + L) by simp only [kindB, u0, u1, l0, l1, w0, w1, h1, true_and])
      clear h1
      go_enter Try.func122, Try.ntmps122
      go_wp2_with (go_at_call 76; refine (l00In_any _ _ _ _).mono ?_; rintro e w1 ⟨rfl, hq⟩; subst w1)
      go_quiet (fail)
      go_wp2
      go_ret
      exact ⟨ret_bool H.out.symm, _, rfl⟩
    · have d1 : decide (W - 1 ≤ L) = false := decide_eq_false h1
      have H := Lib.hid (show kindB U L W = false by simp only [kindB, h1, false_and, and_false, decide_false])
      clear h1
      go_enter Try.func122, Try.ntmps122
      go_wp2_with (go_at_call 76; refine (l00In_any _ _ _ _).mono ?_; rintro e w1 ⟨rfl, hq⟩; subst w1)
      go_quiet (fail)
      go_wp2
      go_ret
      exact ⟨ret_bool H.out.symm, _, rfl⟩
  · have H := Lib.hid (show kindB U L W = false by rw [kindB, decide_eq_false]; omega)
    have hc : (U < 0 ∨ 4 < U) ∨ ((0 ≤ U ∧ U ≤ 4) ∧ (L < 1 ∨ 12 < L)) ∨ ((0 ≤ U ∧ U ≤ 4) ∧ (1 ≤ L ∧ L ≤ 12) ∧ (W < 1 ∨ 10 < W)) := by omega
    clear hk
    rcases hc with h0 | ⟨h0, h1⟩ | ⟨h0, h1, h2⟩
    · have i0 := inB_no h0
      clear h0
      go_enter Try.func122, Try.ntmps122
      go_wp2_with (go_at_call 76; refine (l00In_any _ _ _ _).mono ?_; rintro e w1 ⟨rfl, hq⟩; subst w1)
      go_ret
      exact ⟨ret_bool H.out.symm, 0, rfl⟩
    · have i0 := inB_yes h0.1 h0.2
      have i1 := inB_no h1
      clear h0 h1
      go_enter Try.func122, Try.ntmps122
      go_wp2_with (go_at_call 76; refine (l00In_any _ _ _ _).mono ?_; rintro e w1 ⟨rfl, hq⟩; subst w1)
      go_ret
      exact ⟨ret_bool H.out.symm, 0, rfl⟩
    · have i0 := inB_yes h0.1 h0.2
      have i1 := inB_yes h1.1 h1.2
      have i2 := inB_no h2
      clear h0 h1 h2
      go_enter Try.func122, Try.ntmps122
      go_wp2_with (go_at_call 76; refine (l00In_any _ _ _ _).mono ?_; rintro e w1 ⟨rfl, hq⟩; subst w1)
      go_ret
      exact ⟨ret_bool H.out.symm, 0, rfl⟩

set_option maxHeartbeats 2000000 in
theorem l03Ok_any (p : Nat) (U L W : Int) (a : Option Addr) (c : Nat) (rs : List (Int × Int)) (w : World) (h : AbaAt w p U L W a rs.length c) (ha : RdF pairF w a rs) :
    Calls Try.prog 75 #[.pointer (some ⟨p, 0, none⟩)] w fun e w' => e = .returned (.bool (abaB U L W rs)) ∧ ∃ k, w' = w.drewN k := by
  have hx := ha.len
  have HK := Lib.hid (l03Kind_any p U L W a rs.length c w h)
  cases hk : kindB U L W with
  | false =>
    have H := Lib.hid (abaB_kind (rs := rs) hk)
    rw [hk] at HK
    clear hk
    go_enter Try.func75, Try.ntmps75
    go_wp2_with (go_at_call 122; refine HK.out.mono ?_; rintro e w1 ⟨rfl, k, rfl⟩)
    go_ret
    exact ⟨ret_bool H.out.symm, _, rfl⟩
  | true =>
    rw [hk] at HK
    cases hn : numB rs.length with
    | false =>
      have H := Lib.hid (abaB_num (U := U) (L := L) (W := W) hn)
      have hn' : (rs.length : Int) < 1 ∨ 10 < (rs.length : Int) := by have := numB_false hn; omega
      have i0 := inB_no hn'
      obtain ⟨c0, c1, c2, c3⟩ := h
      clear hk hn hn'
      go_enter Try.func75, Try.ntmps75
      go_wp2_with (first | (go_at_call 122; refine HK.out.mono ?_; rintro e w1 ⟨rfl, k, rfl⟩) | (go_at_call 76; refine (l00In_any _ _ _ _).mono ?_; rintro e w1 ⟨rfl, hq⟩; subst w1))
      go_ret
      exact ⟨ret_bool H.out.symm, _, rfl⟩
    | true =>
      have H := Lib.hid (abaB_rods (U := U) (L := L) (W := W) hk hn)
      have hn' := numB_true hn
      have i0 : inB (rs.length : Int) 1 10 = true := inB_yes (by omega) (by omega)
      obtain ⟨c0, c1, c2, c3⟩ := h
      clear hk hn
      go_enter Try.func75, Try.ntmps75
      go_wp2_with (first | (go_at_call 122; refine HK.out.mono ?_; rintro e w1 ⟨rfl, k, rfl⟩) | (go_at_call 76; refine (l00In_any _ _ _ _).mono ?_; rintro e w1 ⟨rfl, hq⟩; subst w1))
      go_loopw [3] (fun i wr => ∃ j m : Nat, j ≤ rs.length ∧ i = .int .i64 j ∧ Hid (wr = w.drewN m) ∧ Hid (∀ r ∈ rs.take j, rodB U L r = true)) (fun i _ => rs.length - (intOf i).toNat)
      case atStart => exact ⟨0, _, Nat.zero_le _, rfl, Lib.hid rfl, Lib.hid (by simp)⟩
      case round =>
        obtain ⟨j, m, hj, rfl, HW, HT⟩ := hrel
        have hb : Below w.heap.size w wr := by rw [HW.out]; exact bel_drewN (Below.refl _ _) m
        have e0 := kept hb c0
        have e1 := kept hb c1
        have e2 := kept hb c2
        have e3 := kept hb c3
        have ha' := ha.below hb
        clear hb
        by_cases hlt : j < rs.length
        · obtain ⟨b, off, rfl, p0, p1⟩ := ha'.at2 hlt
          cases hr : rodB U L (elt pairF rs j) with
          | true =>
            have hr' := rodB_true hr
            have j0 := inB_yes hr'.1 hr'.2.1
            have j1 := inB_yes hr'.2.2.1 hr'.2.2.2
            have HT' := Lib.hid (allE_succ (F := pairF) (p := fun r => rodB U L r = true) hlt HT.out hr)
            clear hr hr'
            go_wp2
            go_quiet ((go_at_call 76; exact Calls.quiet_of_same (l00In_any _ _ _ _)))
            go_wp2
            go_roundw
            case rel => exact ⟨j + 1, _, by omega, by go_num, Lib.hid (by rw [HW.out, drewN_drewN]), HT'⟩
            case measure => (simp [intOf]) <;> omega
          | false =>
            have HF := Lib.hid (rodsB_bad hlt hr)
            have hr' : ((elt pairF rs j).1 < 0 ∨ U < (elt pairF rs j).1) ∨ ((0 ≤ (elt pairF rs j).1 ∧ (elt pairF rs j).1 ≤ U) ∧ ((elt pairF rs j).2 < 0 ∨ L < (elt pairF rs j).2)) := by have := rodB_false hr; omega
            clear hr
            rcases hr' with h0 | ⟨h0, h1⟩
            · have j0 := inB_no h0
              clear h0
              go_wp2
              go_quiet ((go_at_call 76; exact Calls.quiet_of_same (l00In_any _ _ _ _)))
              go_wp2
              go_ret
              exact ⟨ret_bool (by rw [H.out, HF.out]), _, by rw [HW.out, drewN_drewN]⟩
            · have j0 := inB_yes h0.1 h0.2
              have j1 := inB_no h1
              clear h0 h1
              go_wp2
              go_quiet ((go_at_call 76; exact Calls.quiet_of_same (l00In_any _ _ _ _)))
              go_wp2
              go_ret
              exact ⟨ret_bool (by rw [H.out, HF.out]), _, by rw [HW.out, drewN_drewN]⟩
        · obtain rfl : j = rs.length := by omega
          have HF := Lib.hid (rodsB_allT HT.out)
          go_wp2
          go_ret
          exact ⟨ret_bool (by rw [H.out, HF.out]), _, HW.out⟩

theorem l03Ok_at (p : Nat) (U L W : Int) (a : Option Addr) (c : Nat) (rs : List (Int × Int)) (w : World) {b : Bool} (hb : abaB U L W rs = b) (h : AbaAt w p U L W a rs.length c) (ha : RdF pairF w a rs) :
    Calls Try.prog 75 #[.pointer (some ⟨p, 0, none⟩)] w fun e w' => e = .returned (.bool b) ∧ Below w.heap.size w w' := by
  subst hb
  refine (l03Ok_any p U L W a c rs w h ha).mono ?_
  rintro e w' ⟨rfl, k, rfl⟩
  exact ⟨rfl, bel_drewN (Below.refl _ _) k⟩
end Go.Proofs.Ytcfpfhlgcfmioaa
