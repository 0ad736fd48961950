/-
  impl.ValidAbacus and what it calls; spec.ValidAbacus.
-/
import Derived.Test.YtcfpfhlgcfmioaaAbaS
import Derived.Test.YtcfpfhlgcfmioaaRodS
import Derived.Shelf.Abstract
namespace Go.Proofs.Ytcfpfhlgcfmioaa
open Go.RowKit Go.Shelf

set_option maxHeartbeats 1000000 in
theorem hasValidBeads_any (U L W : Int) (a : Option Addr) (n c : Nat) (w : World) (_ : I64 W) :
    Calls Try.prog 127 #[.agg #[.int .i64 U, .int .i64 L, .int .i64 W, .slice a n c]] w fun e w' => e = .returned (.bool (kindB U L W)) ∧ Below w.heap.size w w' := by
  cases hk : kindB U L W with
  | true =>
    obtain ⟨u0, u1, l0, l1, w0, w1, lw, nine⟩ := kindB_true hk
    obtain ⟨m0, m1⟩ := mul_bd u0 u1 w0 w1
    clear hk
    go_enter Try.func127, Try.ntmps127
    go_wp2
    go_ret
    exact ⟨ret_bool (by first | rfl | (rw [decide_eq_true_eq]; omega) | (rw [eq_comm, decide_eq_true_eq]; omega) | (simp <;> omega)), (by repeat (first | exact Below.refl _ _ | refine Below.setCell ?_ (by first | omega | (simp <;> omega)) _ | refine Below.alloc ?_ (by first | omega | (simp <;> omega)) _ | refine Below.drew ?_))⟩
  | false =>
    rcases kindB_false hk with h | h | h | h | h | h | h | ⟨u0, u1, l0, l1, w0, w1, lw, nine⟩
    · clear hk
      go_enter Try.func127, Try.ntmps127
      go_wp2
      go_ret
      exact ⟨rfl, (by repeat (first | exact Below.refl _ _ | refine Below.setCell ?_ (by first | omega | (simp <;> omega)) _ | refine Below.alloc ?_ (by first | omega | (simp <;> omega)) _ | refine Below.drew ?_))⟩
    · obtain ⟨h1, h2⟩ := h
      clear hk
      go_enter Try.func127, Try.ntmps127
      go_wp2
      go_ret
      exact ⟨rfl, (by repeat (first | exact Below.refl _ _ | refine Below.setCell ?_ (by first | omega | (simp <;> omega)) _ | refine Below.alloc ?_ (by first | omega | (simp <;> omega)) _ | refine Below.drew ?_))⟩
    · obtain ⟨h1, h2, h3⟩ := h
      clear hk
      go_enter Try.func127, Try.ntmps127
      go_wp2
      go_ret
      exact ⟨rfl, (by repeat (first | exact Below.refl _ _ | refine Below.setCell ?_ (by first | omega | (simp <;> omega)) _ | refine Below.alloc ?_ (by first | omega | (simp <;> omega)) _ | refine Below.drew ?_))⟩
    · obtain ⟨h1, h2, h3, h4⟩ := h
      clear hk
      go_enter Try.func127, Try.ntmps127
      go_wp2
      go_ret
      exact ⟨rfl, (by repeat (first | exact Below.refl _ _ | refine Below.setCell ?_ (by first | omega | (simp <;> omega)) _ | refine Below.alloc ?_ (by first | omega | (simp <;> omega)) _ | refine Below.drew ?_))⟩
    · obtain ⟨h1, h2, h3, h4, h5⟩ := h
      clear hk
      go_enter Try.func127, Try.ntmps127
      go_wp2
      go_ret
      exact ⟨rfl, (by repeat (first | exact Below.refl _ _ | refine Below.setCell ?_ (by first | omega | (simp <;> omega)) _ | refine Below.alloc ?_ (by first | omega | (simp <;> omega)) _ | refine Below.drew ?_))⟩
    · obtain ⟨h1, h2, h3, h4, h5, h6⟩ := h
      clear hk
      go_enter Try.func127, Try.ntmps127
      go_wp2
      go_ret
      exact ⟨rfl, (by repeat (first | exact Below.refl _ _ | refine Below.setCell ?_ (by first | omega | (simp <;> omega)) _ | refine Below.alloc ?_ (by first | omega | (simp <;> omega)) _ | refine Below.drew ?_))⟩
    · obtain ⟨u0, u1, l0, l1, w0, w1, lw⟩ := h
      clear hk
      go_enter Try.func127, Try.ntmps127
      go_wp2
      go_ret
      exact ⟨ret_bool (by simp <;> omega), (by repeat (first | exact Below.refl _ _ | refine Below.setCell ?_ (by first | omega | (simp <;> omega)) _ | refine Below.alloc ?_ (by first | omega | (simp <;> omega)) _ | refine Below.drew ?_))⟩
    · obtain ⟨m0, m1⟩ := mul_bd u0 u1 w0 w1
      clear hk
      go_enter Try.func127, Try.ntmps127
      go_wp2
      go_ret
      exact ⟨ret_bool (by first | rfl | (rw [decide_eq_false_iff_not]; omega) | (rw [eq_comm, decide_eq_false_iff_not]; omega) | (simp <;> omega)), (by repeat (first | exact Below.refl _ _ | refine Below.setCell ?_ (by first | omega | (simp <;> omega)) _ | refine Below.alloc ?_ (by first | omega | (simp <;> omega)) _ | refine Below.drew ?_))⟩

set_option maxHeartbeats 1000000 in
theorem hasBeadsOf_any (U L W : Int) (a : Option Addr) (n c : Nat) (r : Int × Int) (w : World) :
    Calls Try.prog 128 #[.agg #[.int .i64 U, .int .i64 L, .int .i64 W, .slice a n c], .agg #[.int .i64 r.1, .int .i64 r.2]] w fun e w' => e = .returned (.bool (rodB U L r)) ∧ Below w.heap.size w w' := by
  cases hk : rodB U L r with
  | true =>
    obtain ⟨h1, h2, h3, h4⟩ := rodB_true hk
    clear hk
    go_enter Try.func128, Try.ntmps128
    go_wp2
    go_ret
    exact ⟨ret_bool (by first | rfl | (rw [decide_eq_true_eq]; omega) | (rw [eq_comm, decide_eq_true_eq]; omega) | (simp <;> omega)), (by repeat (first | exact Below.refl _ _ | refine Below.setCell ?_ (by first | omega | (simp <;> omega)) _ | refine Below.alloc ?_ (by first | omega | (simp <;> omega)) _ | refine Below.drew ?_))⟩
  | false =>
    rcases rodB_false hk with h | ⟨h1, h2⟩ | ⟨h1, h2, h3⟩ | ⟨h1, h2, h3, h4⟩
    · have d : decide (0 ≤ r.1) = false := decide_eq_false (by omega)
      clear hk
      go_enter Try.func128, Try.ntmps128
      go_wp2
      go_ret
      exact ⟨rfl, (by repeat (first | exact Below.refl _ _ | refine Below.setCell ?_ (by first | omega | (simp <;> omega)) _ | refine Below.alloc ?_ (by first | omega | (simp <;> omega)) _ | refine Below.drew ?_))⟩
    · have d : decide (r.1 ≤ U) = false := decide_eq_false (by omega)
      clear hk
      go_enter Try.func128, Try.ntmps128
      go_wp2
      go_ret
      exact ⟨rfl, (by repeat (first | exact Below.refl _ _ | refine Below.setCell ?_ (by first | omega | (simp <;> omega)) _ | refine Below.alloc ?_ (by first | omega | (simp <;> omega)) _ | refine Below.drew ?_))⟩
    · have d : decide (0 ≤ r.2) = false := decide_eq_false (by omega)
      clear hk
      go_enter Try.func128, Try.ntmps128
      go_wp2
      go_ret
      exact ⟨rfl, (by repeat (first | exact Below.refl _ _ | refine Below.setCell ?_ (by first | omega | (simp <;> omega)) _ | refine Below.alloc ?_ (by first | omega | (simp <;> omega)) _ | refine Below.drew ?_))⟩
    · have d : decide (r.2 ≤ L) = false := decide_eq_false (by omega)
      clear hk
      go_enter Try.func128, Try.ntmps128
      go_wp2
      go_ret
      exact ⟨rfl, (by repeat (first | exact Below.refl _ _ | refine Below.setCell ?_ (by first | omega | (simp <;> omega)) _ | refine Below.alloc ?_ (by first | omega | (simp <;> omega)) _ | refine Below.drew ?_))⟩

theorem all_bad {p : Int × Int → Bool} {rs : List (Int × Int)} {k : Nat} (hk : k < rs.length) (h : p (elt pairF rs k) = false) : rs.all p = false := by
  cases h2 : rs.all p with
  | false => rfl
  | true => rw [List.all_eq_true.1 h2 _ (elt_mem (F := pairF) hk)] at h; cases h
theorem all_takeT {p : Int × Int → Bool} {rs : List (Int × Int)} (h : ∀ r ∈ rs.take rs.length, p r = true) : rs.all p = true := by
  rw [List.take_of_length_le (Nat.le_refl _)] at h; exact List.all_eq_true.2 h

set_option maxHeartbeats 1000000 in
theorem everyRod_any (g : Nat) (recv : Value) (p : Int × Int → Bool) (a : Option Addr) (c : Nat) (rs : List (Int × Int)) (w : World) (ha : RdF pairF w a rs) (eg : ∀ args w, (callFunc g args).run Try.prog w = .ok (.enter g args) w)
    (hp : ∀ (r : Int × Int) (w' : World), r ∈ rs → Below w.heap.size w w' → Calls Try.prog g #[recv, .agg #[.int .i64 r.1, .int .i64 r.2]] w' fun e w'' => e = .returned (.bool (p r)) ∧ Below w'.heap.size w' w'') :
    Calls Try.prog 93 #[.slice a rs.length c, .func (.func g) #[recv] #[]] w fun e w' => e = .returned (.bool (rs.all p)) ∧ Below w.heap.size w w' := by
  have hx := ha.len
  have HP := Lib.hid hp
  clear hp
  go_enter Try.func93, Try.ntmps93
  go_wp2
  go_loopw [9] (fun i wr => ∃ j : Nat, j ≤ rs.length ∧ i = .int .i64 j ∧ Below w.heap.size w wr ∧ Hid (∀ r ∈ rs.take j, p r = true)) (fun i _ => rs.length - (intOf i).toNat)
  case atStart => exact ⟨0, Nat.zero_le _, rfl, Below.refl _ _, Lib.hid (by simp)⟩
  case round =>
    obtain ⟨j, hj, rfl, hbel, HT⟩ := hrel
    by_cases hlt : j < rs.length
    · obtain ⟨b, off, rfl, p0, p1⟩ := (ha.below hbel).at2 hlt
      have hb2 : Below w.heap.size w (wr.alloc (.cells #[.int .i64 (elt pairF rs j).1, .int .i64 (elt pairF rs j).2] 102)) := hbel.alloc hbel.size _
      have HQ := Lib.hid (HP.out (elt pairF rs j) _ (elt_mem hlt) hb2)
      cases hr : p (elt pairF rs j) with
      | true =>
        rw [hr] at HQ
        have HT' := Lib.hid (allE_succ (F := pairF) (p := fun r => p r = true) hlt HT.out hr)
        clear hr
        go_wp2_with fail
        refine HQ.out.mono ?_
        rintro e w1 ⟨rfl, hb1⟩
        go_wp2
        go_roundw
        case rel => exact ⟨j + 1, by omega, by go_num, hb2.trans (hb1.mono hb2.size), HT'⟩
        case measure => (simp [intOf]) <;> omega
      | false =>
        rw [hr] at HQ
        have HF := Lib.hid (all_bad hlt hr)
        clear hr
        go_wp2_with fail
        refine HQ.out.mono ?_
        rintro e w1 ⟨rfl, hb1⟩
        go_wp2
        go_ret
        exact ⟨ret_bool HF.out.symm, hb2.trans (hb1.mono hb2.size)⟩
    · obtain rfl : j = rs.length := by omega
      have HF := Lib.hid (all_takeT HT.out)
      go_wp2
      go_ret
      exact ⟨ret_bool HF.out.symm, hbel⟩

set_option maxHeartbeats 1000000 in
theorem implValidAbacus (U L W : Int) (a : Option Addr) (c : Nat) (rs : List (Int × Int)) (w : World) (ha : RdF pairF w a rs) (_ : I64 U) (_ : I64 L) (bW : I64 W) (_ : All2 rs) :
    Calls Try.prog 83 #[.agg #[.int .i64 U, .int .i64 L, .int .i64 W, .slice a rs.length c]] w fun e w' => e = .returned (.bool (abaB U L W rs)) ∧ Below w.heap.size w w' := by
  have hx := ha.len
  have hbel : Below w.heap.size w (w.alloc (.cells #[.int .i64 U, .int .i64 L, .int .i64 W, .slice a rs.length c] 26)) := (by repeat (first | exact Below.refl _ _ | refine Below.setCell ?_ (by first | omega | (simp <;> omega)) _ | refine Below.alloc ?_ (by first | omega | (simp <;> omega)) _ | refine Below.drew ?_))
  have HK := Lib.hid (hasValidBeads_any U L W a rs.length c (w.alloc (.cells #[.int .i64 U, .int .i64 L, .int .i64 W, .slice a rs.length c] 26)) bW)
  cases hk : kindB U L W with
  | false =>
    have H := Lib.hid (abaB_kind (rs := rs) hk)
    rw [hk] at HK
    clear hk
    go_enter Try.func83, Try.ntmps83
    go_wp2_with fail
    refine HK.out.mono ?_
    rintro e w1 ⟨rfl, hb1⟩
    go_wp2
    go_ret
    exact ⟨ret_bool H.out.symm, hbel.trans (hb1.mono hbel.size)⟩
  | true =>
    rw [hk] at HK
    cases hn : numB rs.length with
    | false =>
      have H := Lib.hid (abaB_num (U := U) (L := L) (W := W) hn)
      have hn' := numB_false hn
      clear hk hn
      rcases hn' with h1 | ⟨h1, h2⟩
      all_goals
        go_enter Try.func83, Try.ntmps83
        go_wp2_with fail
        refine HK.out.mono ?_
        rintro e w1 ⟨rfl, hb1⟩
        obtain ⟨hc, hf⟩ := bcell hb1
        have hz : w.heap.size < w1.heap.size := by have := hb1.size; simp at this; omega
        go_wp2
        go_ret
        exact ⟨ret_bool H.out.symm, hbel.trans (hb1.mono hbel.size)⟩
    | true =>
      have H := Lib.hid (abaB_rods (U := U) (L := L) (W := W) hk hn)
      obtain ⟨h1, h2⟩ := numB_true hn
      clear hk hn
      go_enter Try.func83, Try.ntmps83
      go_wp2_with fail
      refine HK.out.mono ?_
      rintro e w1 ⟨rfl, hb1⟩
      obtain ⟨hc, hf⟩ := bcell hb1
      have hz : w.heap.size < w1.heap.size := by have := hb1.size; simp at this; omega
      have hbel1 := hbel.trans (hb1.mono hbel.size)
      go_wp2_with fail
      refine (everyRod_any 128 _ (rodB U L) a c rs w1 (ha.below hbel1) (enters_of Try.func128 (by kernel_rfl) rfl) (fun r w' _ _ => hasBeadsOf_any U L W a rs.length c r w')).mono ?_
      rintro e w2 ⟨rfl, hb2⟩
      go_wp2
      go_ret
      exact ⟨ret_bool H.out.symm, hbel1.trans (hb2.mono hbel1.size)⟩

end Go.Proofs.Ytcfpfhlgcfmioaa
