/-
  spec.l08Form, l08Wrong, l08Code, TableFault.
-/
import Derived.Test.YtmdngcoccekdgaaTabS
import Derived.Test.YtmdngcoccekdgaaInB
namespace Go.Proofs.Ytmdngcoccekdgaa
open Go.RowKit

theorem form_n1 {m : Nat} {rs : List Row5} {k : Nat} (h : ¬ (elt quinF rs k).1 = (rowN m k).1) : formAt m rs k = false := by simp [formAt, h]
theorem form_n2 {m : Nat} {rs : List Row5} {k : Nat} (h : ¬ (elt quinF rs k).2.1 = (rowN m k).2.1) : formAt m rs k = false := by simp [formAt, h]
theorem form_n3 {m : Nat} {rs : List Row5} {k : Nat} (h : ¬ (elt quinF rs k).2.2.1 = (rowN m k).2.2.1) : formAt m rs k = false := by simp [formAt, h]
theorem form_n4 {m : Nat} {rs : List Row5} {k : Nat} (h : inB (elt quinF rs k).2.2.2.1 0 ((m : Int) - 1) = false) : formAt m rs k = false := by simp [formAt, h]
theorem form_n5 {m : Nat} {rs : List Row5} {k : Nat} (h : inB (elt quinF rs k).2.2.2.2 0 1 = false) : formAt m rs k = false := by simp [formAt, h]
theorem form_y {m : Nat} {rs : List Row5} {k : Nat} (h1 : (elt quinF rs k).1 = (rowN m k).1) (h2 : (elt quinF rs k).2.1 = (rowN m k).2.1) (h3 : (elt quinF rs k).2.2.1 = (rowN m k).2.2.1) (h4 : inB (elt quinF rs k).2.2.2.1 0 ((m : Int) - 1) = true) (h5 : inB (elt quinF rs k).2.2.2.2 0 1 = true) : formAt m rs k = true := by simp [formAt, h1, h2, h3, h4, h5]

set_option maxRecDepth 100000 in
set_option maxHeartbeats 8000000 in
theorem l08Form_any (m : Nat) (a : Option Addr) (c : Nat) (rs : List Row5) (w : World) (ha : RdF quinF w a rs) (hm : 2 ≤ m) (hm2 : m ≤ 16) :
    Calls Try.prog 92 #[.int .i64 (m : Int), .slice a rs.length c] w fun e w' => e = .returned (.bool (formB m rs)) ∧ Below w.heap.size w w' := by
  have hx := ha.len
  obtain ⟨n, hn⟩ : ∃ n, n = 2 * m * m := ⟨_, rfl⟩
  have hn2 : n ≤ 512 := by rw [hn]; exact two_sq hm2
  have HT := Lib.hid (l08Table_any m w hm hm2)
  have HN := Lib.hid hn
  rw [← hn] at HT
  clear hn
  by_cases hl : rs.length = n
  · have hne : ((rs.length : Int) != (n : Int)) = false := by simp [hl]
    have HL := Lib.hid hl
    go_enter Try.func92, Try.ntmps92
    go_wp2_with fail
    refine HT.out.mono ?_
    rintro e w1 ⟨A, C, rfl, own, hb1⟩
    have ha1 := ha.below hb1
    have hs1 := hb1.size
    go_wp2
    go_loopw [6, 7, 8] (fun i _ _ wr => ∃ k : Nat, k ≤ rs.length ∧ i = .int .i64 k ∧ Below w1.heap.size w1 wr ∧ Hid (formTo m rs k = true)) (fun i _ _ _ => rs.length - (intOf i).toNat)
    case atStart => exact ⟨0, Nat.zero_le _, rfl, Below.refl _ _, Lib.hid rfl⟩
    case round =>
      obtain ⟨k, hk, hi, hbel, HF⟩ := hrel
      subst hi
      have hsz := hbel.size
      by_cases hlt : k < rs.length
      · obtain ⟨b, off, rfl, p0, p1, p2, p3, p4⟩ := (ha1.below hbel).at5 hlt
        have hltn : k < n := by omega
        obtain ⟨b2, off2, rfl, q0, q1, q2, q3, q4⟩ := (own.rd.below hbel).at5 (k := k) (by rw [tbl_len]; exact hltn)
        rw [tbl_at hltn] at q0 q1 q2 q3 q4
        have hq2 : b2 < wr.heap.size := World.block_lt_of_cell? _ _ q0
        have v1 : IntKind.i64.wrap ((m : Int) - 1) = (m : Int) - 1 := fits_int _ (by omega) (by omega)
        have S1 := Lib.hid fun (h : ¬ (elt quinF rs k).1 = (rowN m k).1) => form_n1 h
        have S2 := Lib.hid fun (h : ¬ (elt quinF rs k).2.1 = (rowN m k).2.1) => form_n2 h
        have S3 := Lib.hid fun (h : ¬ (elt quinF rs k).2.2.1 = (rowN m k).2.2.1) => form_n3 h
        have S4 := Lib.hid fun (h : inB (elt quinF rs k).2.2.2.1 0 ((m : Int) - 1) = false) => form_n4 h
        have S5 := Lib.hid fun (h : inB (elt quinF rs k).2.2.2.2 0 1 = false) => form_n5 (m := m) h
        have SY := Lib.hid (@form_y m rs k)
        have BF := Lib.hid fun (h : formAt m rs k = false) => formB_bad hlt h
        obtain ⟨x, hx0⟩ : ∃ x, x = elt quinF rs k := ⟨_, rfl⟩
        obtain ⟨y, hy0⟩ : ∃ y, y = rowN m k := ⟨_, rfl⟩
        rw [← hx0] at p0 p1 p2 p3 p4 S1 S2 S3 S4 S5 SY
        rw [← hy0] at q0 q1 q2 q3 q4 S1 S2 S3 SY
        clear hx0 hy0
        have HK := Lib.hid (l00In_any x.2.2.2.1 0 ((m : Int) - 1))
        have HC := Lib.hid (l00In_any x.2.2.2.2 0 1)
        by_cases h1 : x.1 = y.1
        · have t1 : (x.1 != y.1) = false := by simp [h1]
          by_cases h2 : x.2.1 = y.2.1
          · have t2 : (x.2.1 != y.2.1) = false := by simp [h2]
            by_cases h3 : x.2.2.1 = y.2.2.1
            · have t3 : (x.2.2.1 != y.2.2.1) = false := by simp [h3]
              cases h4 : inB x.2.2.2.1 0 ((m : Int) - 1) with
              | true =>
                rw [h4] at HK
                cases h5 : inB x.2.2.2.2 0 1 with
                | true =>
                  rw [h5] at HC
                  have HS := Lib.hid (formTo_succ HF.out (SY.out h1 h2 h3 h4 h5))
                  clear h1 h2 h3 h4 h5
                  go_wp2_with (go_at_call 114; (first | (with_reducible refine (HK.out _).mono ?_) | (with_reducible refine (HC.out _).mono ?_)); rintro e w9 ⟨rfl, hq⟩; subst w9)
                  go_roundw
                  case rel => exact ⟨k + 1, by omega, by go_num, (by repeat (first | exact hbel | refine Below.setCell ?_ (by first | omega | (simp <;> omega)) _ | refine Below.alloc ?_ (by first | omega | (simp <;> omega)) _ | refine Below.drew ?_)), HS⟩
                  case measure => (simp [intOf]) <;> omega
                | false =>
                  rw [h5] at HC
                  have HB := Lib.hid (BF.out (S5.out h5))
                  clear h1 h2 h3 h4 h5
                  go_wp2_with (go_at_call 114; (first | (with_reducible refine (HK.out _).mono ?_) | (with_reducible refine (HC.out _).mono ?_)); rintro e w9 ⟨rfl, hq⟩; subst w9)
                  go_ret
                  exact ⟨ret_bool HB.out.symm, (by repeat (first | exact hb1.trans (hbel.mono hs1) | refine Below.setCell ?_ (by first | omega | (simp <;> omega)) _ | refine Below.alloc ?_ (by first | omega | (simp <;> omega)) _ | refine Below.drew ?_))⟩
              | false =>
                rw [h4] at HK
                have HB := Lib.hid (BF.out (S4.out h4))
                clear h1 h2 h3 h4
                go_wp2_with (go_at_call 114; (first | (with_reducible refine (HK.out _).mono ?_) | (with_reducible refine (HC.out _).mono ?_)); rintro e w9 ⟨rfl, hq⟩; subst w9)
                go_ret
                exact ⟨ret_bool HB.out.symm, (by repeat (first | exact hb1.trans (hbel.mono hs1) | refine Below.setCell ?_ (by first | omega | (simp <;> omega)) _ | refine Below.alloc ?_ (by first | omega | (simp <;> omega)) _ | refine Below.drew ?_))⟩
            · have t3 : (x.2.2.1 != y.2.2.1) = true := by simp [h3]
              have HB := Lib.hid (BF.out (S3.out h3))
              clear h1 h2 h3
              go_wp2_with (go_at_call 114; (first | (with_reducible refine (HK.out _).mono ?_) | (with_reducible refine (HC.out _).mono ?_)); rintro e w9 ⟨rfl, hq⟩; subst w9)
              go_ret
              exact ⟨ret_bool HB.out.symm, (by repeat (first | exact hb1.trans (hbel.mono hs1) | refine Below.setCell ?_ (by first | omega | (simp <;> omega)) _ | refine Below.alloc ?_ (by first | omega | (simp <;> omega)) _ | refine Below.drew ?_))⟩
          · have t2 : (x.2.1 != y.2.1) = true := by simp [h2]
            have HB := Lib.hid (BF.out (S2.out h2))
            clear h1 h2
            go_wp2_with (go_at_call 114; (first | (with_reducible refine (HK.out _).mono ?_) | (with_reducible refine (HC.out _).mono ?_)); rintro e w9 ⟨rfl, hq⟩; subst w9)
            go_ret
            exact ⟨ret_bool HB.out.symm, (by repeat (first | exact hb1.trans (hbel.mono hs1) | refine Below.setCell ?_ (by first | omega | (simp <;> omega)) _ | refine Below.alloc ?_ (by first | omega | (simp <;> omega)) _ | refine Below.drew ?_))⟩
        · have t1 : (x.1 != y.1) = true := by simp [h1]
          have HB := Lib.hid (BF.out (S1.out h1))
          clear h1
          go_wp2_with (go_at_call 114; (first | (with_reducible refine (HK.out _).mono ?_) | (with_reducible refine (HC.out _).mono ?_)); rintro e w9 ⟨rfl, hq⟩; subst w9)
          go_ret
          exact ⟨ret_bool HB.out.symm, (by repeat (first | exact hb1.trans (hbel.mono hs1) | refine Below.setCell ?_ (by first | omega | (simp <;> omega)) _ | refine Below.alloc ?_ (by first | omega | (simp <;> omega)) _ | refine Below.drew ?_))⟩
      · obtain rfl : k = rs.length := by omega
        have HB := Lib.hid (formB_all (by rw [HL.out, HN.out]) HF.out)
        go_wp2
        go_ret
        exact ⟨ret_bool HB.out.symm, hb1.trans (hbel.mono hs1)⟩
  · have hne : ((rs.length : Int) != (n : Int)) = true := by simp; omega
    have HB := Lib.hid (formB_len (m := m) (rs := rs) (by rw [← HN.out]; exact hl))
    clear hl
    go_enter Try.func92, Try.ntmps92
    go_wp2_with fail
    refine HT.out.mono ?_
    rintro e w1 ⟨A, C, rfl, own, hb1⟩
    go_wp2
    go_ret
    exact ⟨ret_bool HB.out.symm, hb1⟩
theorem l08Form_at {v : Bool} (m : Nat) (a : Option Addr) (c : Nat) (rs : List Row5) (w : World) (hv : formB m rs = v) (ha : RdF quinF w a rs) (hm : 2 ≤ m) (hm2 : m ≤ 16) :
    Calls Try.prog 92 #[.int .i64 (m : Int), .slice a rs.length c] w fun e w' => e = .returned (.bool v) ∧ Below w.heap.size w w' := by
  subst hv; exact l08Form_any m a c rs w ha hm hm2
end Go.Proofs.Ytmdngcoccekdgaa
