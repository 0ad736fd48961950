/-
  spec.l08Wrong, l08Code, TableFault.
-/
import Derived.Test.YtmdngcoccekdgaaFrmS
namespace Go.Proofs.Ytmdngcoccekdgaa
open Go.RowKit

theorem row_same {m : Nat} {rs : List Row5} {k : Nat} (h : formAt m rs k = true) (h1 : (elt quinF rs k).2.2.2.1 = (rowN m k).2.2.2.1) (h2 : (elt quinF rs k).2.2.2.2 = (rowN m k).2.2.2.2) : elt quinF rs k = rowN m k := by
  obtain ⟨a1, a2, a3, _⟩ := formAt_row h
  exact Prod.ext a1 (Prod.ext a2 (Prod.ext a3 (Prod.ext h1 h2)))

set_option maxRecDepth 100000 in
set_option maxHeartbeats 4000000 in
theorem l08Wrong_any (m : Nat) (a : Option Addr) (c : Nat) (rs : List Row5) (w : World) (ha : RdF quinF w a rs) (hm : 2 ≤ m) (hm2 : m ≤ 16) (hf : formB m rs = true) :
    Calls Try.prog 90 #[.int .i64 (m : Int), .slice a rs.length c] w fun e w' => e = .returned (.int .i64 (wrongTo m rs rs.length)) ∧ Below w.heap.size w w' := by
  have hx := ha.len
  have hF : rs.length = 2 * m * m ∧ formTo m rs rs.length = true := by simp only [formB, Bool.and_eq_true, decide_eq_true_eq] at hf; exact hf
  obtain ⟨n, hn⟩ : ∃ n, n = 2 * m * m := ⟨_, rfl⟩
  have hn2 : n ≤ 512 := by rw [hn]; exact two_sq hm2
  have HT := Lib.hid (l08Table_any m w hm hm2)
  rw [← hn] at HT hF
  have hl := hF.1
  have HF := Lib.hid hF.2
  clear hn hF hf
  go_enter Try.func90, Try.ntmps90
  go_wp2_with fail
  refine HT.out.mono ?_
  rintro e w1 ⟨A, C, rfl, own, hb1⟩
  have ha1 := ha.below hb1
  have hs1 := hb1.size
  go_wp2
  go_loopw [6] (fun i wr => ∃ k : Nat, k ≤ rs.length ∧ i = .int .i64 k ∧ Below w1.heap.size w1 wr ∧ Hid (wrongTo m rs k = -1)) (fun i _ => rs.length - (intOf i).toNat)
  case atStart => exact ⟨0, Nat.zero_le _, rfl, Below.refl _ _, Lib.hid rfl⟩
  case round =>
    obtain ⟨k, hk, hi, hbel, HW⟩ := hrel
    subst hi
    have hsz := hbel.size
    by_cases hlt : k < rs.length
    · obtain ⟨b, off, rfl, p0, p1, p2, p3, p4⟩ := (ha1.below hbel).at5 hlt
      have hltn : k < n := by omega
      obtain ⟨b2, off2, rfl, q0, q1, q2, q3, q4⟩ := (own.rd.below hbel).at5 (k := k) (by rw [tbl_len]; exact hltn)
      rw [tbl_at hltn] at q0 q1 q2 q3 q4
      obtain ⟨a1, a2, a3, _⟩ := formAt_row (formTo_at HF.out k hlt)
      have t1 : ((elt quinF rs k).1 == (rowN m k).1) = true := by simp [a1]
      have t2 : ((elt quinF rs k).2.1 == (rowN m k).2.1) = true := by simp [a2]
      have t3 : ((elt quinF rs k).2.2.1 == (rowN m k).2.2.1) = true := by simp [a3]
      have SY := Lib.hid fun h1 h2 => wrongTo_same (row_same (formTo_at HF.out k hlt) h1 h2)
      have S4 := Lib.hid fun (h : ¬ (elt quinF rs k).2.2.2.1 = (rowN m k).2.2.2.1) => wrongTo_first HW.out (show elt quinF rs k ≠ rowN m k by intro e; exact h (by rw [e])) hlt
      have S5 := Lib.hid fun (h : ¬ (elt quinF rs k).2.2.2.2 = (rowN m k).2.2.2.2) => wrongTo_first HW.out (show elt quinF rs k ≠ rowN m k by intro e; exact h (by rw [e])) hlt
      obtain ⟨x, hx0⟩ : ∃ x, x = elt quinF rs k := ⟨_, rfl⟩
      obtain ⟨y, hy0⟩ : ∃ y, y = rowN m k := ⟨_, rfl⟩
      rw [← hx0] at p0 p1 p2 p3 p4 S4 S5 SY t1 t2 t3
      rw [← hy0] at q0 q1 q2 q3 q4 S4 S5 SY t1 t2 t3
      clear hx0 hy0 a1 a2 a3
      have c0 := kept_after p0
      have c1 := kept_after p1
      have c2 := kept_after p2
      have c3 := kept_after p3
      have c4 := kept_after p4
      have d0 := kept_after q0
      have d1 := kept_after q1
      have d2 := kept_after q2
      have d3 := kept_after q3
      have d4 := kept_after q4
      clear p0 p1 p2 p3 p4 q0 q1 q2 q3 q4
      by_cases h4 : x.2.2.2.1 = y.2.2.2.1
      · have t4 : (x.2.2.2.1 == y.2.2.2.1) = true := by simp [h4]
        by_cases h5 : x.2.2.2.2 = y.2.2.2.2
        · have t5 : (x.2.2.2.2 == y.2.2.2.2) = true := by simp [h5]
          have HS := Lib.hid ((SY.out h4 h5).trans HW.out)
          clear h4 h5
          go_wp2
          refine wp_region_after (by kernel_rfl) (by kernel_rfl) ?_
          repeat (go_big_quiet_step (fail))
          refine wpQuiet_nil ?_
          intro u
          go_wp2
          go_roundw
          case rel => exact ⟨k + 1, by omega, by go_num, hbel.trans (u.ok.mono hsz), HS⟩
          case measure => (simp [intOf]) <;> omega
        · have t5 : (x.2.2.2.2 == y.2.2.2.2) = false := by simp [h5]
          have HB := Lib.hid (S5.out h5)
          clear h4 h5
          go_wp2
          refine wp_region_after (by kernel_rfl) (by kernel_rfl) ?_
          repeat (go_big_quiet_step (fail))
          refine wpQuiet_nil ?_
          intro u
          go_wp2
          go_ret
          exact ⟨ret_int HB.out.symm, hb1.trans ((hbel.trans (u.ok.mono hsz)).mono hs1)⟩
      · have t4 : (x.2.2.2.1 == y.2.2.2.1) = false := by simp [h4]
        have HB := Lib.hid (S4.out h4)
        clear h4
        go_wp2
        refine wp_region_after (by kernel_rfl) (by kernel_rfl) ?_
        repeat (go_big_quiet_step (fail))
        refine wpQuiet_nil ?_
        intro u
        go_wp2
        go_ret
        exact ⟨ret_int HB.out.symm, hb1.trans ((hbel.trans (u.ok.mono hsz)).mono hs1)⟩
    · obtain rfl : k = rs.length := by omega
      go_wp2
      go_ret
      exact ⟨ret_int HW.out.symm, hb1.trans (hbel.mono hs1)⟩

theorem tf_base {b : Int} {rs : List Row5} (h : baseB b = false) : tfR b rs = (0, 2) := by simp [tfR, h]
theorem tf_form {m : Nat} {rs : List Row5} (h : baseB (m : Int) = true) (h2 : formB m rs = false) : tfR (m : Int) rs = (0, 8) := by simp [tfR, h, h2]
theorem tf_ok {m : Nat} {rs : List Row5} (h : baseB (m : Int) = true) (h2 : formB m rs = true) : tfR (m : Int) rs = (wrongTo m rs rs.length, 0) := by simp [tfR, h, h2]

set_option maxHeartbeats 1000000 in
theorem l08Code_any (b : Int) (a : Option Addr) (c : Nat) (rs : List Row5) (w : World) (ha : RdF quinF w a rs) :
    Calls Try.prog 59 #[.int .i64 b, .slice a rs.length c] w fun e w' => e = .returned (.int .i64 (tfR b rs).2) ∧ Below w.heap.size w w' := by
  have HB := Lib.hid (l02Base_any b w)
  cases h : baseB b with
  | false =>
    rw [h] at HB
    rw [tf_base h]
    go_enter Try.func59, Try.ntmps59
    go_wp2_with fail
    refine HB.out.mono ?_
    rintro e w1 ⟨rfl, rfl⟩
    go_wp2
    go_ret
    exact ⟨rfl, Below.refl _ _⟩
  | true =>
    rw [h] at HB
    have hb := baseB_true h
    obtain ⟨m, rfl⟩ : ∃ m : Nat, b = m := ⟨b.toNat, by omega⟩
    cases h2 : formB m rs with
    | false =>
      rw [tf_form h h2]
      go_enter Try.func59, Try.ntmps59
      go_wp2_with fail
      refine HB.out.mono ?_
      rintro e w1 ⟨rfl, rfl⟩
      go_wp2_with fail
      refine (l08Form_at m a c rs w1 h2 ha (by omega) (by omega)).mono ?_
      rintro e w2 ⟨rfl, hb2⟩
      go_wp2
      go_ret
      exact ⟨rfl, hb2⟩
    | true =>
      rw [tf_ok h h2]
      go_enter Try.func59, Try.ntmps59
      go_wp2_with fail
      refine HB.out.mono ?_
      rintro e w1 ⟨rfl, rfl⟩
      go_wp2_with fail
      refine (l08Form_at m a c rs w1 h2 ha (by omega) (by omega)).mono ?_
      rintro e w2 ⟨rfl, hb2⟩
      go_wp2
      go_ret
      exact ⟨rfl, hb2⟩

set_option maxHeartbeats 1000000 in
theorem specTableFault (b : Int) (a : Option Addr) (c : Nat) (rs : List Row5) (w : World) (_ : I64 b) (ha : RdF quinF w a rs) (_ : All5 rs) :
    Calls Try.prog 46 #[.int .i64 b, .slice a rs.length c] w fun e w' => e = .returned (.tuple #[.int .i64 (tfR b rs).1, .int .i64 (tfR b rs).2]) ∧ Below w.heap.size w w' := by
  have HC := Lib.hid (l08Code_any b a c rs w ha)
  by_cases h0 : (tfR b rs).2 = 0
  · have ht : ((tfR b rs).2 != 0) = false := by simp [h0]
    have hbs : baseB b = true := by
      cases h : baseB b with
      | true => rfl
      | false => rw [tf_base h] at h0; cases h0
    have hb := baseB_true hbs
    obtain ⟨m, rfl⟩ : ∃ m : Nat, b = m := ⟨b.toNat, by omega⟩
    have hf : formB m rs = true := by
      cases h : formB m rs with
      | true => rfl
      | false => rw [tf_form hbs h] at h0; cases h0
    have HW := Lib.hid fun v (hv : Below w.heap.size w v) => l08Wrong_any m a c rs v (ha.below hv) (by omega) (by omega) hf
    have HR := Lib.hid (tf_ok hbs hf)
    clear h0 hbs hb hf
    go_enter Try.func46, Try.ntmps46
    go_wp2_with fail
    refine HC.out.mono ?_
    rintro e w1 ⟨rfl, hb1⟩
    go_wp2_with fail
    refine (HW.out w1 hb1).mono ?_
    rintro e w2 ⟨rfl, hb2⟩
    go_wp2
    exact bodyPost_ret (v := .tuple #[.int .i64 (wrongTo m rs rs.length), .int .i64 0]) (by simp [results, Try.results46, go_sem]) rfl ⟨ret_two HR.out, hb1.trans (hb2.mono hb1.size)⟩
  · have ht : ((tfR b rs).2 != 0) = true := by simp [h0]
    have HR := Lib.hid (show tfR b rs = (0, (tfR b rs).2) by unfold tfR at h0 ⊢; split <;> (try split) <;> simp_all)
    clear h0
    go_enter Try.func46, Try.ntmps46
    go_wp2_with fail
    refine HC.out.mono ?_
    rintro e w1 ⟨rfl, hb1⟩
    go_wp2
    exact bodyPost_ret (v := .tuple #[.int .i64 0, .int .i64 (tfR b rs).2]) (by simp [results, Try.results46, go_sem]) rfl ⟨by rw [show (tfR b rs).1 = 0 by rw [HR.out]], hb1⟩
end Go.Proofs.Ytmdngcoccekdgaa
