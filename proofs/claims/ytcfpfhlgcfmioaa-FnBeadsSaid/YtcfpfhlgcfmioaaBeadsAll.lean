/-
  Several texts in one: AbaciM, BeadsM, AbaJ, AbaX, F6b, DrawB, DrawE, DrawH, DrawL, DrawQ, DrawF, DrawU, OrdC, DrawV, BeadsW.
-/
import Derived.Test.YtcfpfhlgcfmioaaAba
import Derived.Test.YtcfpfhlgcfmioaaBdA
import Derived.Test.YtcfpfhlgcfmioaaAbaR
import Derived.Test.YtcfpfhlgcfmioaaAmong
import Derived.Test.YtcfpfhlgcfmioaaArr
import Derived.Test.YtcfpfhlgcfmioaaAbaN
import Derived.Test.YtcfpfhlgcfmioaaAbaQ
import Derived.Test.YtcfpfhlgcfmioaaAbaV
import Derived.Test.YtcfpfhlgcfmioaaProg
import Derived.Test.YtcfpfhlgcfmioaaFlat
import Derived.Test.YtcfpfhlgcfmioaaDrawA
import Derived.Test.YtcfpfhlgcfmioaaToI
import Derived.Test.YtcfpfhlgcfmioaaSrc
import Derived.Test.YtcfpfhlgcfmioaaOwn2
import Derived.Test.YtcfpfhlgcfmioaaAbaT
import Derived.Test.YtcfpfhlgcfmioaaAbaS
import Derived.Test.YtcfpfhlgcfmioaaDrawO
import Derived.Test.YtcfpfhlgcfmioaaOrd
import Derived.Test.YtcfpfhlgcfmioaaBdT
import Derived.Test.YtcfpfhlgcfmioaaGrow
import Derived.Test.YtcfpfhlgcfmioaaAbaO
import Derived.Test.YtcfpfhlgcfmioaaAbaW
import Derived.Test.YtcfpfhlgcfmioaaAbaY
import Derived.Test.YtcfpfhlgcfmioaaBdJ
import Derived.Test.YtcfpfhlgcfmioaaBytes
import Derived.Deep.Cut
import Derived.Deep.CutBlock

/- AbaciM -/
namespace Go.Proofs.Ytcfpfhlgcfmioaa
open Go.RowKit

theorem digsR_ten : ∀ (n : Nat) (v : Int), ∀ d ∈ digsR 10 n v, 0 ≤ d ∧ d ≤ 9
  | 0, _, d, h => by cases h
  | n + 1, v, d, h => by
    rcases List.mem_cons.1 h with rfl | h
    · omega
    · exact digsR_ten n (v / 10) d h
theorem setP_rods {U L W : Int} (hk : kindB U L W = true) (n : Nat) (v : Int) : rodsB U L (setP U W n v) = true := by
  have h := kindB_true hk
  simp only [rodsB, setP, List.all_eq_true, List.mem_map]
  rintro r ⟨d, hd, rfl⟩
  have := digsR_ten n v d hd
  exact digP_bd h.1 h.2.2.2.2.1 h.2.2.2.2.2.2.1 h.2.2.2.2.2.2.2 this.1 this.2
/-- What an abacus is when setting it succeeds. -/
theorem setR_done {U L W U' L' W' v : Int} {rs rs' : List (Int × Int)} (h : setR U L W rs v = (U', L', W', rs', 0)) :
    abaB U' L' W' rs' = true ∧ avR U' L' W' rs' = (v, 0) ∧ plainB U' L' W' rs' = true := by
  cases ha : abaB U L W rs with
  | false => rw [setR_bad ha] at h; simp at h
  | true =>
    by_cases hv : 0 ≤ v ∧ v ≤ 1000000000000
    · by_cases hl : leftR 10 rs.length v = 0
      · rw [setR_ok ha hv hl] at h
        injection h with h1 h
        injection h with h2 h
        injection h with h3 h
        injection h with h4 _
        subst h1 h2 h3 h4
        have e := abaV_setP U W rs.length v
        rw [hl, Int.mul_zero, Int.add_zero] at e
        obtain ⟨k1, k2, _⟩ := abaB_true ha
        have hb : abaB U L W (setP U W rs.length v) = true := by
          simp only [abaB, Bool.and_eq_true]
          exact ⟨⟨k1, by rw [setP_len]; exact k2⟩, setP_rods k1 _ _⟩
        refine ⟨hb, by rw [avR_ok hb, e], ?_⟩
        rw [plainB, hb, Bool.true_and, decide_eq_true_eq, setP_len, e]
        exact ⟨hl, rfl⟩
      · rw [setR_full ha hv hl] at h; simp at h
    · rw [setR_range ha hv] at h; simp at h
theorem plnR_done {U L W U' L' W' : Int} {rs rs' : List (Int × Int)} (h : plnR U L W rs = (U', L', W', rs', 0)) :
    avR U L W rs = (abaV W rs, 0) ∧ avR U' L' W' rs' = (abaV W rs, 0) ∧ plainB U' L' W' rs' = true := by
  have h2 := setR_done h
  refine ⟨?_, h2.2.1, h2.2.2⟩
  cases ha : abaB U L W rs with
  | false => rw [plnR, setR_bad ha] at h; simp at h
  | true => exact avR_ok ha
end Go.Proofs.Ytcfpfhlgcfmioaa

/- BeadsM -/
namespace Go.Proofs.Ytcfpfhlgcfmioaa

theorem distR_symm (r s : Int × Int) : distR r s = distR s r := by unfold distR; omega
theorem distR_nonneg (r s : Int × Int) : 0 ≤ distR r s := by unfold distR; omega
theorem distR_zero {r s : Int × Int} (h : distR r s = 0) : r = s := by
  obtain ⟨a, b⟩ := r
  obtain ⟨c, d⟩ := s
  unfold distR at h
  simp only at h
  have e1 : a = c := by omega
  have e2 : b = d := by omega
  rw [e1, e2]
theorem distL_symm : ∀ (rs ss : List (Int × Int)), distL rs ss = distL ss rs
  | [], [] => rfl
  | [], _ :: _ => rfl
  | _ :: _, [] => rfl
  | r :: rs, s :: ss => by rw [distL, distL, distR_symm, distL_symm rs ss]
theorem distL_nonneg : ∀ (rs ss : List (Int × Int)), 0 ≤ distL rs ss
  | [], [] => by simp [distL]
  | [], _ :: _ => by simp [distL]
  | _ :: _, [] => by simp [distL]
  | r :: rs, s :: ss => by rw [distL]; have := distR_nonneg r s; have := distL_nonneg rs ss; omega
theorem distL_self : ∀ (rs : List (Int × Int)), distL rs rs = 0
  | [] => by simp [distL]
  | r :: rs => by rw [distL, distL_self rs]; unfold distR; omega
theorem distL_zero : ∀ {rs ss : List (Int × Int)}, rs.length = ss.length → distL rs ss = 0 → rs = ss
  | [], [], _, _ => rfl
  | [], _ :: _, h, _ => by simp at h
  | _ :: _, [], h, _ => by simp at h
  | r :: rs, s :: ss, h, h0 => by
    rw [distL] at h0
    have h1 := distR_nonneg r s
    have h2 := distL_nonneg rs ss
    rw [distR_zero (show distR r s = 0 by omega), distL_zero (by simpa using h) (show distL rs ss = 0 by omega)]
/-- Back and forth in equal numbers; none for the same abacus. -/
theorem btw_back {U L W U' L' W' : Int} {rs ss : List (Int × Int)} (h : (btwR U L W U' L' W' rs ss).2 = 0) :
    btwR U' L' W' U L W ss rs = btwR U L W U' L' W' rs ss ∧ ((btwR U L W U' L' W' rs ss).1 == 0) = abaEqB U L W U' L' W' rs ss := by
  unfold btwR at h ⊢
  by_cases h1 : abaB U L W rs = true ∧ abaB U' L' W' ss = true
  · rw [if_pos h1] at h ⊢
    rw [if_pos h1.symm]
    by_cases h2 : U = U' ∧ L = L' ∧ W = W' ∧ rs.length = ss.length
    · rw [if_pos h2, if_pos ⟨h2.1.symm, h2.2.1.symm, h2.2.2.1.symm, h2.2.2.2.symm⟩, distL_symm ss rs]
      refine ⟨rfl, ?_⟩
      by_cases h3 : rs = ss
      · rw [show abaEqB U L W U' L' W' rs ss = true by simp [abaEqB, h2, h3], h3]
        simp [distL_self]
      · rw [show abaEqB U L W U' L' W' rs ss = false by simp [abaEqB, h3]]
        have : ¬ distL rs ss = 0 := fun h0 => h3 (distL_zero h2.2.2.2 h0)
        simpa using this
    · rw [if_neg h2] at h; simp at h
  · rw [if_neg h1] at h; simp at h

theorem abaV_set (W : Int) (r : Int × Int) : ∀ (rs : List (Int × Int)) (k : Nat), k < rs.length → abaV W (rs.set k r) = abaV W rs + (showR W r - showR W (elt pairF rs k)) * 10 ^ k
  | [], _, h => by simp at h
  | x :: rs, 0, _ => by
    show 10 * abaV W rs + showR W r = 10 * abaV W rs + showR W x + (showR W r - showR W x) * 10 ^ 0
    rw [Int.pow_zero]; omega
  | x :: rs, k + 1, h => by
    have ih := abaV_set W r rs k (by simpa using h)
    have e : elt pairF (x :: rs) (k + 1) = elt pairF rs k := by simp [elt]
    show 10 * abaV W (rs.set k r) + showR W x = 10 * abaV W rs + showR W x + (showR W r - showR W (elt pairF (x :: rs) (k + 1))) * 10 ^ (k + 1)
    rw [ih, e, Int.pow_succ, ← Int.mul_assoc]
    generalize (showR W r - showR W (elt pairF rs k)) * 10 ^ k = y
    omega
/-- A digit that is added somewhere adds to the value. -/
theorem addD_val {U L W : Int} : ∀ (n : Nat) {rs : List (Int × Int)} {k : Nat} {d : Int}, rs.length - k ≤ n → Pln U L W rs → 0 ≤ d → d ≤ 9 → (addD U W rs k d).2.2 = true → abaV W (addD U W rs k d).1 = abaV W rs + d * 10 ^ k
  | n, rs, k, d, hn, h, d0, d1, hb => by
    by_cases hd : d = 0
    · subst hd; rw [addD_zero]; simp
    · by_cases hk : k < rs.length
      · rw [addD_step hd hk] at hb ⊢
        cases n with
        | zero => omega
        | succ n =>
          have hc := h.carry hk d0 d1
          have hs := h.show hk
          have ih := addD_val n (by simp; omega) (h.set hk d0 d1) (by omega) (by omega) hb
          show abaV W (addD U W (rs.set k (addT U W rs k d)) (k + 1) (addC W rs k d)).1 = _
          rw [ih, abaV_set W _ rs k hk]
          have e : showR W (addT U W rs k d) = (showR W (elt pairF rs k) + d) % 10 := show_digP _ _ _
          have e2 : (showR W (elt pairF rs k) + d) = 10 * addC W rs k d + (showR W (elt pairF rs k) + d) % 10 := by unfold addC; omega
          rw [e, Int.pow_succ, ← Int.mul_assoc, Int.mul_right_comm, Int.add_assoc, ← Int.add_mul]
          congr 2
          omega
      · rw [addD_full hd hk] at hb; simp at hb
/-- The digits' sum. -/
def digS (ds : Nat → Int) : Nat → Int
  | 0 => 0
  | n + 1 => digS ds n + ds n * 10 ^ n
theorem addN_val {U L W : Int} {ds : Nat → Int} (hds : ∀ i, 0 ≤ ds i ∧ ds i ≤ 9) : ∀ (n : Nat) {rs : List (Int × Int)}, Pln U L W rs → (addN U W ds n rs).2.2 = true →
    abaV W (addN U W ds n rs).1 = abaV W rs + digS ds n ∧ Pln U L W (addN U W ds n rs).1
  | 0, rs, h, _ => ⟨by show abaV W rs = abaV W rs + 0; omega, h⟩
  | n + 1, rs, h, hb => by
    by_cases h1 : (addD U W rs n (ds n)).2.2 = true
    · rw [addN, if_pos h1] at hb ⊢
      have a := addD_val rs.length (by omega) h (hds n).1 (hds n).2 h1
      have p := Pln.add (k := n) (d := ds n) rs.length (by omega) h (hds n).1 (hds n).2
      have ih := addN_val hds n p hb
      refine ⟨?_, ih.2⟩
      show abaV W (addN U W ds n (addD U W rs n (ds n)).1).1 = _
      rw [ih.1, a]
      show _ = abaV W rs + (digS ds n + ds n * 10 ^ n)
      omega
    · rw [addN, if_neg h1] at hb; simp at hb
theorem digS_left (v : Int) : ∀ n, digS (fun i => leftR 10 i v % 10) n + 10 ^ n * leftR 10 n v = v
  | 0 => by simp [digS, leftR]
  | n + 1 => by
    have ih := digS_left v n
    rw [leftR_succ, digS, Int.pow_succ]
    have e : leftR 10 n v = 10 * (leftR 10 n v / 10) + leftR 10 n v % 10 := by omega
    have e2 : (10 : Int) ^ n * leftR 10 n v = 10 ^ n * (10 * (leftR 10 n v / 10)) + leftR 10 n v % 10 * 10 ^ n := by
      conv => lhs; rw [e]
      rw [Int.mul_add, Int.mul_comm (10 ^ n) (leftR 10 n v % 10)]
    rw [Int.mul_assoc]
    omega

/-- The move that adds a digit can be made, and sets the rod. -/
theorem addM_move {U L W d : Int} {rs : List (Int × Int)} (h : Pln U L W rs) {k : Nat} (hk : k < rs.length) :
    movC U L rs (addM U W rs k d) = 0 ∧ movL rs (addM U W rs k d) = rs.set k (addT U W rs k d) ∧ I64 (addM U W rs k d).1 ∧ I64 (addM U W rs k d).2.1 ∧ I64 (addM U W rs k d).2.2 := by
  have hr : rodB U L (addT U W rs k d) = true := digP_bd h.aba.u0 h.aba.w0 h.aba.lw h.aba.nine (by omega) (by omega)
  have ho : rodB U L (elt pairF rs k) = true := rodsB_at h.aba.rods hk
  obtain ⟨a1, a2, a3, a4⟩ := rodB_true hr
  obtain ⟨b1, b2, b3, b4⟩ := rodB_true ho
  have u1 := h.aba.u1
  have l1 := h.aba.l1
  have n1 := h.aba.n1
  have em : movedRod rs (addM U W rs k d) = addT U W rs k d := by
    show ((elt pairF rs (k : Int).toNat).1 + ((addT U W rs k d).1 - (elt pairF rs k).1), (elt pairF rs (k : Int).toNat).2 + ((addT U W rs k d).2 - (elt pairF rs k).2)) = addT U W rs k d
    rw [Int.toNat_natCast]
    exact Prod.ext (by show _ + (_ - _) = _; omega) (by show _ + (_ - _) = _; omega)
  refine ⟨?_, ?_, ?_, ?_, ?_⟩
  · unfold movC
    rw [em, hr, if_pos rfl, if_pos]
    unfold moveB
    refine decide_eq_true ?_
    show 0 ≤ (k : Int) ∧ (k : Int) < rs.length ∧ -4 ≤ (addT U W rs k d).1 - (elt pairF rs k).1 ∧ (addT U W rs k d).1 - (elt pairF rs k).1 ≤ 4 ∧ -12 ≤ (addT U W rs k d).2 - (elt pairF rs k).2 ∧ (addT U W rs k d).2 - (elt pairF rs k).2 ≤ 12
    omega
  · unfold movL
    rw [em]
    show rs.set (k : Int).toNat _ = _
    rw [Int.toNat_natCast]
  · exact mid64 (by show -1000000 ≤ (k : Int); omega) (by show (k : Int) ≤ 1000000; omega)
  · exact mid64 (by show -1000000 ≤ (addT U W rs k d).1 - (elt pairF rs k).1; omega) (by show (addT U W rs k d).1 - (elt pairF rs k).1 ≤ 1000000; omega)
  · exact mid64 (by show -1000000 ≤ (addT U W rs k d).2 - (elt pairF rs k).2; omega) (by show (addT U W rs k d).2 - (elt pairF rs k).2 ≤ 1000000; omega)
theorem rep_addD {U L W : Int} (rest : List (Int × Int × Int)) : ∀ (n : Nat) {rs : List (Int × Int)} {k : Nat} {d : Int}, rs.length - k ≤ n → Pln U L W rs → 0 ≤ d → d ≤ 9 → (addD U W rs k d).2.2 = true →
    repL U L rs ((addD U W rs k d).2.1 ++ rest) = ((repL U L (addD U W rs k d).1 rest).1, (repL U L (addD U W rs k d).1 rest).2 + (addD U W rs k d).2.1.length) ∧ All3 (addD U W rs k d).2.1
  | n, rs, k, d, hn, h, d0, d1, hb => by
    by_cases hd : d = 0
    · subst hd; rw [addD_zero]; exact ⟨rfl, fun x hx => by cases hx⟩
    · by_cases hk : k < rs.length
      · rw [addD_step hd hk] at hb ⊢
        cases n with
        | zero => omega
        | succ n =>
          have hc := h.carry hk d0 d1
          obtain ⟨m1, m2, m3⟩ := addM_move (d := d) h hk
          obtain ⟨ih, ih2⟩ := rep_addD rest n (by simp; omega) (h.set hk d0 d1) (by omega) (by omega) hb
          refine ⟨?_, fun x hx => ?_⟩
          · show repL U L rs (addM U W rs k d :: ((addD U W (rs.set k (addT U W rs k d)) (k + 1) (addC W rs k d)).2.1 ++ rest)) = _
            rw [repL, if_pos m1, m2, ih]
            simp only [List.length_cons]
            congr 1
          · rcases List.mem_cons.1 hx with rfl | hx
            · exact m3
            · exact ih2 x hx
      · rw [addD_full hd hk] at hb; simp at hb
theorem rep_addN {U L W : Int} {ds : Nat → Int} (hds : ∀ i, 0 ≤ ds i ∧ ds i ≤ 9) : ∀ (n : Nat) {rs : List (Int × Int)}, Pln U L W rs → (addN U W ds n rs).2.2 = true →
    repL U L rs (addN U W ds n rs).2.1 = ((addN U W ds n rs).1, (addN U W ds n rs).2.1.length) ∧ All3 (addN U W ds n rs).2.1
  | 0, rs, _, _ => ⟨rfl, fun x hx => by cases hx⟩
  | n + 1, rs, h, hb => by
    by_cases h1 : (addD U W rs n (ds n)).2.2 = true
    · rw [addN, if_pos h1] at hb ⊢
      have p := Pln.add (k := n) (d := ds n) rs.length (by omega) h (hds n).1 (hds n).2
      obtain ⟨i1, i2⟩ := rep_addN hds n p hb
      obtain ⟨r1, r2⟩ := rep_addD (addN U W ds n (addD U W rs n (ds n)).1).2.1 rs.length (by omega) h (hds n).1 (hds n).2 h1
      refine ⟨?_, fun x hx => ?_⟩
      · show repL U L rs ((addD U W rs n (ds n)).2.1 ++ _) = _
        rw [r1, i1]
        simp only [List.length_append]
        congr 1
        omega
      · rcases List.mem_append.1 hx with hx | hx
        · exact r2 x hx
        · exact i2 x hx
    · rw [addN, if_neg h1] at hb; simp at hb
theorem aba_ok {U L W : Int} {rs : List (Int × Int)} (h : Aba U L W rs) : abaB U L W rs = true := by
  obtain ⟨u0, u1, l0, l1, w0, w1, lw, n0, n1, nine, rods⟩ := h
  unfold abaB
  rw [rods]
  simp [kindB, numB]
  omega
/-- An addition that comes out. -/
theorem addAR_done {U L W U' L' W' v : Int} {rs rs' : List (Int × Int)} {ms : List (Int × Int × Int)} (h : addAR U L W rs v = (U', L', W', rs', ms, 0)) :
    avR U L W rs = (abaV W rs, 0) ∧ avR U' L' W' rs' = (abaV W rs + v, 0) ∧ plainB U' L' W' rs' = true ∧ rplR U L W rs ms = (U', L', W', rs', (ms.length : Int), 0) ∧ All3 ms := by
  cases ha : abaB U L W rs with
  | false => rw [addAR_bad ha] at h; simp at h
  | true =>
    by_cases hv : 0 ≤ v ∧ v ≤ 1000000000000
    · cases hp : plainB U L W rs with
      | false => rw [addAR_state ha hv hp] at h; simp at h
      | true =>
        cases hn : (addN U W (fun i => leftR 10 i v % 10) 13 rs).2.2 with
        | false => rw [addAR_full ha hv hp hn] at h; simp at h
        | true =>
          have hP : Pln U L W rs := ⟨aba_of ha, by have q := hp; rw [plainB_of ha] at q; exact of_decide_eq_true q⟩
          have hds : ∀ i, 0 ≤ leftR 10 i v % 10 ∧ leftR 10 i v % 10 ≤ 9 := fun i => by omega
          obtain ⟨v1, p1⟩ := addN_val hds 13 hP hn
          obtain ⟨r1, r2⟩ := rep_addN hds 13 hP hn
          have e := addAR_ok (cur := (addN U W (fun i => leftR 10 i v % 10) 13 rs).1) (acc := (addN U W (fun i => leftR 10 i v % 10) 13 rs).2.1) ha hv hp (by rw [← hn])
          rw [e] at h
          simp only [Prod.mk.injEq, and_true] at h
          obtain ⟨rfl, rfl, rfl, rfl, rfl⟩ := h
          have hl : leftR 10 13 v = 0 := leftR_thirteen hv.1 hv.2
          have hs := digS_left v 13
          rw [hl] at hs
          refine ⟨avR_ok ha, ?_, by rw [plainB_of (aba_ok p1.aba)]; exact decide_eq_true p1.plain, ?_, r2⟩
          · rw [avR_ok (aba_ok p1.aba), v1]
            congr 2
            omega
          · rw [rplR_ok ha, r1]
    · rw [addAR_range ha hv] at h; simp at h
end Go.Proofs.Ytcfpfhlgcfmioaa

/- AbaJ -/
namespace Go.Proofs.Ytcfpfhlgcfmioaa
open Go.RowKit

theorem raR_any {U L : Int} {rs : List (Int × Int)} {x : Int × Int × Int} : ∃ r, raR U L rs (x.1, x.2.1, x.2.2) = (r, movC U L rs x) := ⟨(raR U L rs x).1, by rw [← raR_code]⟩

set_option maxRecDepth 100000 in
set_option maxHeartbeats 4000000 in
theorem implReplayBeads (U L W : Int) (a : Option Addr) (c : Nat) (rs : List (Int × Int)) (b : Option Addr) (d : Nat) (ms : List (Int × Int × Int)) (w : World) (ha : RdF pairF w a rs) (bU : I64 U) (bL : I64 L) (bW : I64 W) (z : All2 rs) (hm : RdF tripF w b ms) (zm : All3 ms) :
    Calls Try.prog 19 #[.agg #[.int .i64 U, .int .i64 L, .int .i64 W, .slice a rs.length c], .slice b ms.length d] w (AbaN (rplR U L W rs ms) w) := by
  have hml := hm.len
  have hxl := ha.len
  obtain ⟨u, hu⟩ : ∃ u, u = (w.alloc (.cells #[.int .i64 U, .int .i64 L, .int .i64 W, .slice a rs.length c] 26)).alloc (.cells #[.int .i64 0, .int .i64 0, .int .i64 0, .slice none 0 0] 26) := ⟨_, rfl⟩
  have hbel : Below w.heap.size w u := by rw [hu]; exact (by repeat (first | exact Below.refl _ _ | refine Below.setCell ?_ (by first | omega | (simp <;> omega)) _ | refine Below.alloc ?_ (by first | omega | (simp <;> omega)) _ | refine Below.drew ?_))
  have bx0 : Bx u w.heap.size 26 #[.int .i64 U, .int .i64 L, .int .i64 W, .slice a rs.length c] := by rw [hu]; exact (Bx.new _ _ _).alloc _
  have bx2 : Bx u (w.heap.size + 1) 26 #[.int .i64 0, .int .i64 0, .int .i64 0, .slice none 0 0] := by rw [hu]; simpa using Bx.new (w.alloc (.cells #[.int .i64 U, .int .i64 L, .int .i64 W, .slice a rs.length c] 26)) #[.int .i64 0, .int .i64 0, .int .i64 0, .slice none 0 0] 26
  have HU := Lib.hid hu
  clear hu
  replace ha := ha.below hbel
  have HV := Lib.hid (implValidAbacus U L W a c rs u ha bU bL bW z)
  cases h : abaB U L W rs with
  | false =>
    have HR := Lib.hid (rplR_bad (ms := ms) h)
    rw [h] at HV
    clear h
    go_enter Try.func19, Try.ntmps19
    go_wp2_with fail
    rw [← HU.out]
    refine HV.out.mono ?_
    rintro e w1 ⟨rfl, hb1⟩
    replace bx2 := bx2.below hb1
    have r0 := bx2.at_ 0 rfl
    have r1 := bx2.at_ 1 rfl
    have r2 := bx2.at_ 2 rfl
    have r3 := bx2.at_ 3 rfl
    have f0 := bx2.thaw 0
    have f1 := bx2.thaw 1
    have f2 := bx2.thaw 2
    have f3 := bx2.thaw 3
    have hb := hbel.trans (hb1.mono hbel.size)
    go_wp2
    exact bodyPost_ret (v := .tuple #[.agg #[.int .i64 0, .int .i64 0, .int .i64 0, .slice none 0 0], .int .i64 0, .int .i64 1]) (by simp [results, Try.results19, go_sem, r0, r1, r2, r3]) rfl
      (abaN_err HR.out rfl (by repeat (first | exact hb | refine Below.setCell ?_ (by first | omega | (simp <;> omega)) _ | refine Below.alloc ?_ (by first | omega | (simp <;> omega)) _ | refine Below.drew ?_)))
  | true =>
    rw [h] at HV
    have HA := Lib.hid (aba_of h)
    have HST := Lib.hid (fun (j : Nat) (cur : List (Int × Int)) => repAt_stop (j := j) (cur := cur) (ms := ms) h)
    have HEN := Lib.hid (fun (j : Nat) (cur : List (Int × Int)) => repAt_end (j := j) (cur := cur) (ms := ms) h)
    clear h
    go_enter Try.func19, Try.ntmps19
    go_wp2_with fail
    rw [← HU.out]
    refine HV.out.mono ?_
    rintro e V ⟨rfl, hb1⟩
    replace bx0 := bx0.below hb1
    replace bx2 := bx2.below hb1
    replace ha := ha.below hb1
    replace hbel := hbel.trans (hb1.mono hbel.size)
    have hzV : w.heap.size + 1 < V.heap.size := bx2.lt
    clear hb1 HV HU u
    go_upto_region 3 with fail
    go_cut [7] from 8 (fun s7 wx => BoxAba V U L W rs s7 wx)
    case first =>
      have k0 := kept_all (p := ⟨w.heap.size, 0, none⟩) (v := .int .i64 U) (bx0.at_ 0 rfl)
      have k1 := kept_all (p := ⟨w.heap.size, 1, none⟩) (v := .int .i64 L) (bx0.at_ 1 rfl)
      have k2 := kept_all (p := ⟨w.heap.size, 2, none⟩) (v := .int .i64 W) (bx0.at_ 2 rfl)
      have k3 := kept_all (p := ⟨w.heap.size, 3, none⟩) (v := .slice a rs.length c) (bx0.at_ 3 rfl)
      have hn0 : 0 < rs.length := by have := HA.out.n0; omega
      refine wp_region_marked (fun w' => Below V.heap.size V w') 6 (by kernel_rfl) ?_
      have hS : Below V.heap.size V V.drew := (Below.refl _ _).drew
      refine wpAnyM_take (i := 0) (v := ?_) rfl (by kernel_rfl) (by kernel_rfl) (by kernel_rfl) (by kernel_rfl) (by kernel_rfl) (fun _ _ _ h => h) hS (.inl ⟨by rfl, ?_⟩) ?_
      rotate_left 1
      · intro w' hS'; go_simp; try with_reducible rfl
      simp only [Act.put, List.setIfInBounds_toArray]
      refine wpAnyM_take (i := 1) (v := ?_) rfl (by kernel_rfl) (by kernel_rfl) (by kernel_rfl) (by kernel_rfl) (by kernel_rfl) (fun _ _ _ h => h) hS (.inl ⟨by rfl, ?_⟩) ?_
      rotate_left 1
      · intro w' hS'; go_simp; try with_reducible rfl
      simp only [Act.put]
      refine wpAnyM_take (i := 2) (v := ?_) rfl (by kernel_rfl) (by kernel_rfl) (by kernel_rfl) (by kernel_rfl) (by kernel_rfl) (fun _ _ _ h => h) hS (.inl ⟨by rfl, ?_⟩) ?_
      rotate_left 1
      · intro w' hS'; go_simp; try with_reducible rfl
      simp only [Act.put]
      clear k0 k1 k2 k3
      refine wpAnyM_two (i := 3) (j := 5) (by kernel_rfl) rfl rfl (by rfl) (by rfl) (fun K hK => ?_) (fun K hK => ?_)
      · go_simp
        refine (cloneRods_any a c rs V.drew (ha.below hS) hn0).mono ?_
        rintro e w3 ⟨A, C, rfl, ow, hb3⟩
        have hS3 : Below V.heap.size V w3 := hS.trans (hb3.mono (by simp))
        replace ow : OwnF pairF 102 w3 V.heap.size w3.heap.size (.slice A rs.length C) rs := by simpa using ow
        refine hK _ _ (.inr hS3) ?_
        try simp only [Act.put, List.setIfInBounds_toArray]
        clear hK K hb3
        refine wpAnyM_two (i := 4) (j := 5) (by kernel_rfl) rfl rfl (by rfl) (by rfl) (fun K hK => ?_) (fun K hK => ?_)
        · go_simp
          refine (withRods_any U L W a rs.length c A rs.length C w3).mono ?_
          rintro e w4 ⟨rfl, hb4⟩
          have hS4 := hS3.trans (hb4.mono hS3.size)
          have ow4 := ow.below hb4
          refine hK _ _ (.inr hS4) ?_
          try simp only [Act.put, List.setIfInBounds_toArray]
          clear hK K
          refine wpAnyM_one (i := 5) (by kernel_rfl) rfl (by rfl) (fun K hK => ?_)
          go_simp
          refine hK _ _ (.inr (hS4.alloc hS4.size _)) ?_
          try simp only [Act.put, List.setIfInBounds_toArray]
          clear hK K
          refine wpAnyM_one (i := 6) (by kernel_rfl) rfl (by rfl) (fun K hK => ?_)
          go_simp
          refine hK _ _ (.inl rfl) ?_
          clear hK K
          refine wpAnyM_done (by kernel_rfl) ?_ _
          go_wp2_with fail
          go_meet
          case rel => exact boxAba_new hS4 ow4 (Nat.le_refl _) hb4.size
        · go_simp
          have bz := Bx.new w3 #[.int .i64 0, .int .i64 0, .int .i64 0, .slice none 0 0] 26
          have hS4 := hS3.alloc hS3.size (.cells #[.int .i64 0, .int .i64 0, .int .i64 0, .slice none 0 0] 26)
          have ow4 := ow.alloc (.cells #[.int .i64 0, .int .i64 0, .int .i64 0, .slice none 0 0] 26)
          have hg4 : V.heap.size ≤ w3.heap.size := hS3.size
          refine hK _ _ (.inr hS4) ?_
          try simp only [Act.put, List.setIfInBounds_toArray]
          clear hK K
          refine wpAnyM_one (i := 4) (by kernel_rfl) rfl (by rfl) (fun K hK => ?_)
          go_simp
          refine (withRods_any U L W a rs.length c A rs.length C _).mono ?_
          rintro e w4 ⟨rfl, hb4⟩
          have hS5 := hS4.trans (hb4.mono hS4.size)
          have ow5 := ow4.below hb4
          replace bz := bz.below hb4
          have hz4 : w3.heap.size < w4.heap.size := bz.lt
          have z0 := bz.at_ 0 rfl
          have z1 := bz.at_ 1 rfl
          have z2 := bz.at_ 2 rfl
          have z3 := bz.at_ 3 rfl
          have f0 := bz.thaw 0
          have f1 := bz.thaw 1
          have f2 := bz.thaw 2
          have f3 := bz.thaw 3
          refine hK _ _ (.inr hS5) ?_
          try simp only [Act.put, List.setIfInBounds_toArray]
          clear hK K
          refine wpAnyM_one (i := 6) (by kernel_rfl) rfl (by rfl) (fun K hK => ?_)
          go_simp
          refine hK _ _ (.inl rfl) ?_
          clear hK K
          refine wpAnyM_done (by kernel_rfl) ?_ _
          go_wp2_with fail
          go_meet
          case rel => exact boxAba_mk hS5 ow5 (.inr (Nat.le_refl _)) (Nat.le_refl _) (Nat.le_of_lt hz4) bz hg4
      · go_simp
        have bz := (Bx.new V #[.int .i64 0, .int .i64 0, .int .i64 0, .slice none 0 0] 26).drew
        have hS3 : Below V.heap.size V (V.alloc (.cells #[.int .i64 0, .int .i64 0, .int .i64 0, .slice none 0 0] 26)).drew := ((Below.refl _ _).alloc (Nat.le_refl _) _).drew
        refine hK _ _ (.inr hS3) ?_
        try simp only [Act.put, List.setIfInBounds_toArray]
        clear hK K
        refine wpAnyM_one (i := 3) (by kernel_rfl) rfl (by rfl) (fun K hK => ?_)
        go_simp
        refine (cloneRods_any a c rs (V.alloc (.cells #[.int .i64 0, .int .i64 0, .int .i64 0, .slice none 0 0] 26)).drew (ha.below hS3) hn0).mono ?_
        rintro e w3 ⟨A, C, rfl, ow, hb3⟩
        have hS4 : Below V.heap.size V w3 := hS3.trans (hb3.mono (by simp))
        replace ow : OwnF pairF 102 w3 (V.heap.size + 1) w3.heap.size (.slice A rs.length C) rs := by simpa using ow
        replace bz := bz.below hb3
        refine hK _ _ (.inr hS4) ?_
        try simp only [Act.put, List.setIfInBounds_toArray]
        clear hK K hb3
        refine wpAnyM_one (i := 4) (by kernel_rfl) rfl (by rfl) (fun K hK => ?_)
        go_simp
        refine (withRods_any U L W a rs.length c A rs.length C w3).mono ?_
        rintro e w4 ⟨rfl, hb4⟩
        have hS5 := hS4.trans (hb4.mono hS4.size)
        have ow5 := ow.below hb4
        replace bz := bz.below hb4
        have z0 := bz.at_ 0 rfl
        have z1 := bz.at_ 1 rfl
        have z2 := bz.at_ 2 rfl
        have z3 := bz.at_ 3 rfl
        have f0 := bz.thaw 0
        have f1 := bz.thaw 1
        have f2 := bz.thaw 2
        have f3 := bz.thaw 3
        refine hK _ _ (.inr hS5) ?_
        try simp only [Act.put, List.setIfInBounds_toArray]
        clear hK K
        refine wpAnyM_one (i := 6) (by kernel_rfl) rfl (by rfl) (fun K hK => ?_)
        go_simp
        refine hK _ _ (.inl rfl) ?_
        clear hK K
        refine wpAnyM_done (by kernel_rfl) ?_ _
        go_wp2_with fail
        go_meet
        case rel => exact boxAba_mk hS5 ow5 (.inl (by omega)) (by omega) hb4.size bz (Nat.le_refl _)
    case rest =>
      obtain ⟨g, A, C, lo, hi, rfl, b0, b1, b2, b3, ow, D1, D2, D3, D4, D5, hbw⟩ := hcut
      obtain ⟨v, rfl⟩ : ∃ v, v = wc := ⟨_, rfl⟩
      obtain ⟨gb, rfl, l1, l2, l3⟩ := ow.head (by have := HA.out.n0; omega)
      replace bx2 := bx2.below hbw
      replace hbel := hbel.trans (hbw.mono hbel.size)
      have hne : g ≠ gb := by have := D1.out; omega
      have hlo : w.heap.size + 1 < lo := by have := D2.out; omega
      have hlg : w.heap.size + 1 < g := by have := D3.out; omega
      have atv : AbaAt v g U L W (some ⟨gb, 0, none⟩) rs.length C := ⟨b0, b1, b2, b3⟩
      obtain ⟨n, hn⟩ : ∃ n, n = rs.length := ⟨_, rfl⟩
      rw [← hn] at ow atv
      have HN := Lib.hid hn
      clear b0 b1 b2 b3 hbw hn bx0 ha hxl
      go_wp2
      go_loopw [23] (fun i wr => ∃ (j : Nat) (cur : List (Int × Int)), j ≤ ms.length ∧ i = .int .i64 j ∧ Hid (RepAt U L rs ms j cur) ∧ Hid (Aba U L W cur) ∧ Hid (cur.length = n) ∧
        OwnF pairF 102 wr lo hi (.slice (some ⟨gb, 0, none⟩) n C) cur ∧ AbaAt wr g U L W (some ⟨gb, 0, none⟩) n C ∧ Bx wr (w.heap.size + 1) 26 #[.int .i64 0, .int .i64 0, .int .i64 0, .slice none 0 0] ∧ Below w.heap.size w wr ∧ Hid (hi ≤ wr.heap.size) ∧ Hid (g < wr.heap.size)) (fun i _ => ms.length - (intOf i).toNat)
      case atStart => exact ⟨0, rs, Nat.zero_le _, rfl, Lib.hid repAt_zero, HA, Lib.hid HN.out.symm, ow, atv, bx2, hbel, D5, D4⟩
      case round =>
        obtain ⟨j, cur, hj, rfl, HP, HC, HL, owr, atr, bxr, hbr, HZ, HG⟩ := hrel
        clear ow atv bx2 hbel
        have hcl := HL.out
        clear HL HN
        subst hcl
        by_cases hlt : j < ms.length
        · obtain ⟨b', off, rfl, p0, p1, p2⟩ := (hm.below hbr).at3 hlt
          have hI := zm _ (elt_mem (F := tripF) hlt)
          go_upto_region 7 with fail
          obtain ⟨x, hx⟩ : ∃ x, x = elt tripF ms j := ⟨_, rfl⟩
          rw [← hx] at p0 p1 p2 hI ⊢
          have HX := Lib.hid hx
          clear hx p0 p1 p2
          obtain ⟨X, hX⟩ : ∃ X, X = wr.alloc (.cells #[.int .i64 x.1, .int .i64 x.2.1, .int .i64 x.2.2] 37) := ⟨_, rfl⟩
          rw [← hX]
          have hbX : Below wr.heap.size wr X := by rw [hX]; exact (Below.refl _ _).alloc (Nat.le_refl _) _
          have bm : Bx X wr.heap.size 37 #[.int .i64 x.1, .int .i64 x.2.1, .int .i64 x.2.2] := by rw [hX]; exact Bx.new _ _ _
          clear hX
          have hgw : g < wr.heap.size := HG.out
          have hbw : gb < wr.heap.size := by have := HZ.out; omega
          have hlw0 : w.heap.size + 1 < wr.heap.size := bxr.lt
          replace owr := owr.below hbX
          replace atr := atr.below hbX
          replace bxr := bxr.below hbX
          replace hbr := hbr.trans (hbX.mono hbr.size)
          clear hbX
          obtain ⟨r, hr⟩ := raR_any (U := U) (L := L) (rs := cur) (x := x)
          have HRA := Lib.hid (rodAfter_any U L W (some ⟨gb, 0, none⟩) C cur x.1 x.2.1 x.2.2 X owr.rd HC.out.u1 HC.out.l1 (rodsB_true HC.out.rods))
          rw [hr] at HRA
          have HRR := Lib.hid hr
          clear hr
          obtain ⟨c0, c1, c2, c3⟩ := atr
          have m0 := bm.at_ 0 rfl
          have m1 := bm.at_ 1 rfl
          have m2 := bm.at_ 2 rfl
          go_wp2_with fail
          refine HRA.out.mono ?_
          rintro e w3 ⟨rfl, hb3⟩
          replace owr := owr.below hb3
          replace bxr := bxr.below hb3
          replace bm := bm.below hb3
          have atr := (AbaAt.mk c0 c1 c2 c3).below hb3
          replace hbr := hbr.trans (hb3.mono hbr.size)
          have hz3 : wr.heap.size < w3.heap.size := bm.lt
          clear hb3 HRA c0 c1 c2 c3 m0 m1 m2
          by_cases hc : movC U L cur x = 0
          · rw [hc]
            obtain ⟨hm1, hrb, hra⟩ := raR_ok hc
            obtain ⟨k, hk, hkl⟩ := moveB_idx hm1
            have hre : r = movedRod cur x := by have h1 := HRR.out; rw [hra] at h1; exact (Prod.mk.inj h1).1.symm
            have HML := Lib.hid (show movL cur x = cur.set k r by simp [movL, hk, hre])
            have HP' := Lib.hid (show RepAt U L rs ms (j + 1) (movL cur x) by rw [HX.out]; exact repAt_succ HP.out hlt (by rw [← HX.out]; exact hc))
            have HC' := Lib.hid (aba_movL HC.out hc)
            rw [hk] at bm
            clear hm1 hrb hra hk hre hc HP HC HRR HX HST HEN
            go_upto_region 8 with fail
            obtain ⟨Y, hY⟩ : ∃ Y, Y = w3.alloc (.cells #[.int .i64 r.1, .int .i64 r.2] 102) := ⟨_, rfl⟩
            rw [← hY]
            have hbY : Below w3.heap.size w3 Y := by rw [hY]; exact (Below.refl _ _).alloc (Nat.le_refl _) _
            have bq : Bx Y w3.heap.size 102 #[.int .i64 r.1, .int .i64 r.2] := by rw [hY]; exact Bx.new _ _ _
            clear hY
            replace owr := owr.below hbY
            replace atr := atr.below hbY
            replace bxr := bxr.below hbY
            replace bm := bm.below hbY
            replace hbr := hbr.trans (hbY.mono hbr.size)
            replace HZ := Lib.hid (Nat.le_trans HZ.out (Nat.le_trans (Nat.le_of_lt hz3) hbY.size))
            replace HG := Lib.hid (Nat.lt_of_lt_of_le hgw (Nat.le_trans (Nat.le_of_lt hz3) hbY.size))
            clear hbY
            have at9 := (atr.far (q := ⟨gb, k * 2, none⟩) hne (.int .i64 r.1)).far (q := ⟨gb, k * 2 + 1, none⟩) hne (.int .i64 r.2)
            have bx9 := (bxr.far (p := ⟨gb, k * 2, none⟩) (show w.heap.size + 1 ≠ gb by omega) (.int .i64 r.1)).far (p := ⟨gb, k * 2 + 1, none⟩) (show w.heap.size + 1 ≠ gb by omega) (.int .i64 r.2)
            have hb9 := (hbr.setCell (p := ⟨gb, k * 2, none⟩) (show w.heap.size ≤ gb by omega) (.int .i64 r.1)).setCell (p := ⟨gb, k * 2 + 1, none⟩) (show w.heap.size ≤ gb by omega) (.int .i64 r.2)
            have HB9 := Lib.hid hb9
            have HO9 := Lib.hid (owr.put2 (k := k) hkl r)
            have HA9 := Lib.hid at9
            have HX9 := Lib.hid bx9
            obtain ⟨g0, g1⟩ := owr.get2 (k := k) hkl
            have f0 := owr.thaw (k * 2)
            have f1 := owr.thaw (k * 2 + 1)
            have m0 := bm.at_ 0 rfl
            have q0 := bq.at_ 0 rfl
            have q1 := bq.at_ 1 rfl
            obtain ⟨c0, c1, c2, c3⟩ := atr
            clear at9 bx9 hb9 c0 c1 c2
            go_wp2
            go_roundw
            case rel => exact ⟨j + 1, _, by omega, by go_num, HP', HC', Lib.hid (movL_len _ _), (by rw [HML.out]; exact HO9.out), HA9.out, HX9.out, HB9.out, Lib.hid (by have := HZ.out; simpa using this), Lib.hid (by have := HG.out; simpa using this)⟩
            case measure => (simp [intOf]) <;> omega
          · have hne : (movC U L cur x != 0) = true := by simp [hc]
            have HR := Lib.hid (HST.out j cur HP.out hlt (by rw [← HX.out]; exact hc))
            go_upto_region 8 with fail
            obtain ⟨Y, hY⟩ : ∃ Y, Y = w3.alloc (.cells #[.int .i64 r.1, .int .i64 r.2] 102) := ⟨_, rfl⟩
            rw [← hY]
            have hbY : Below w3.heap.size w3 Y := by rw [hY]; exact (Below.refl _ _).alloc (Nat.le_refl _) _
            clear hY
            replace owr := owr.below hbY
            replace atr := atr.below hbY
            replace bxr := bxr.below hbY
            replace hbr := hbr.trans (hbY.mono hbr.size)
            replace HZ := Lib.hid (Nat.le_trans HZ.out (Nat.le_trans (Nat.le_of_lt hz3) hbY.size))
            clear hbY HP HC HRR HX
            have f0 := bxr.thaw 0
            have f1 := bxr.thaw 1
            have f2 := bxr.thaw 2
            have f3 := bxr.thaw 3
            have z0 := bxr.at_ 0 rfl
            have z1 := bxr.at_ 1 rfl
            have z2 := bxr.at_ 2 rfl
            have z3 := bxr.at_ 3 rfl
            have hbz : w.heap.size ≤ w.heap.size + 1 := by omega
            have hd : w.heap.size + 1 < lo ∨ hi ≤ w.heap.size + 1 := .inl hlo
            have OW := Lib.hid ((((owr.setCell (p := ⟨w.heap.size + 1, 0, none⟩) hd (.int .i64 U)).setCell (p := ⟨w.heap.size + 1, 1, none⟩) hd (.int .i64 L)).setCell (p := ⟨w.heap.size + 1, 2, none⟩) hd (.int .i64 W)).setCell (p := ⟨w.heap.size + 1, 3, none⟩) hd (.slice (some ⟨gb, 0, none⟩) cur.length C))
            have HB := Lib.hid ((((hbr.setCell (p := ⟨w.heap.size + 1, 0, none⟩) hbz (.int .i64 U)).setCell (p := ⟨w.heap.size + 1, 1, none⟩) hbz (.int .i64 L)).setCell (p := ⟨w.heap.size + 1, 2, none⟩) hbz (.int .i64 W)).setCell (p := ⟨w.heap.size + 1, 3, none⟩) hbz (.slice (some ⟨gb, 0, none⟩) cur.length C))
            have hlw : w.heap.size ≤ lo := by omega
            have hpn : ¬ g = w.heap.size + 1 := by omega
            have hpn' : ¬ w.heap.size + 1 = g := by omega
            obtain ⟨c0, c1, c2, c3⟩ := atr
            clear owr hbr HST HEN HA
            go_wp2
            exact bodyPost_ret (v := .tuple #[.agg #[.int .i64 U, .int .i64 L, .int .i64 W, .slice (some ⟨gb, 0, none⟩) cur.length C], .int .i64 j, .int .i64 0]) (by simp [results, Try.results19, go_sem, z0, z1, z2, z3]) rfl
              (abaN_ok HR.out rfl rfl (lo := lo) (hi := hi) OW.out hlw (by have := HZ.out; simp; omega) HB.out)
        · have HR := Lib.hid (HEN.out j cur HP.out (by omega))
          have hje : (ms.length : Int) = (j : Int) := by omega
          clear HP HC
          have f0 := bxr.thaw 0
          have f1 := bxr.thaw 1
          have f2 := bxr.thaw 2
          have f3 := bxr.thaw 3
          have z0 := bxr.at_ 0 rfl
          have z1 := bxr.at_ 1 rfl
          have z2 := bxr.at_ 2 rfl
          have z3 := bxr.at_ 3 rfl
          have hbz : w.heap.size ≤ w.heap.size + 1 := by omega
          have hd : w.heap.size + 1 < lo ∨ hi ≤ w.heap.size + 1 := .inl hlo
          have OW := Lib.hid ((((owr.setCell (p := ⟨w.heap.size + 1, 0, none⟩) hd (.int .i64 U)).setCell (p := ⟨w.heap.size + 1, 1, none⟩) hd (.int .i64 L)).setCell (p := ⟨w.heap.size + 1, 2, none⟩) hd (.int .i64 W)).setCell (p := ⟨w.heap.size + 1, 3, none⟩) hd (.slice (some ⟨gb, 0, none⟩) cur.length C))
          have HB := Lib.hid ((((hbr.setCell (p := ⟨w.heap.size + 1, 0, none⟩) hbz (.int .i64 U)).setCell (p := ⟨w.heap.size + 1, 1, none⟩) hbz (.int .i64 L)).setCell (p := ⟨w.heap.size + 1, 2, none⟩) hbz (.int .i64 W)).setCell (p := ⟨w.heap.size + 1, 3, none⟩) hbz (.slice (some ⟨gb, 0, none⟩) cur.length C))
          have hlw : w.heap.size ≤ lo := by omega
          have hpn : ¬ g = w.heap.size + 1 := by omega
          have hpn' : ¬ w.heap.size + 1 = g := by omega
          obtain ⟨c0, c1, c2, c3⟩ := atr
          clear owr hbr HST HEN HA
          go_wp2
          rw [hje]
          exact bodyPost_ret (v := .tuple #[.agg #[.int .i64 U, .int .i64 L, .int .i64 W, .slice (some ⟨gb, 0, none⟩) cur.length C], .int .i64 j, .int .i64 0]) (by simp [results, Try.results19, go_sem, z0, z1, z2, z3]) rfl
            (abaN_ok HR.out rfl rfl (lo := lo) (hi := hi) OW.out hlw (by have := HZ.out; simp; omega) HB.out)
end Go.Proofs.Ytcfpfhlgcfmioaa

/- AbaX -/
namespace Go.Proofs.Ytcfpfhlgcfmioaa
open Go.RowKit

theorem absolute_any (n : Int) (w : World) (h1 : -1000 ≤ n) (h2 : n ≤ 1000) : Calls Try.prog 131 #[.int .i64 n] w fun e w' => e = .returned (.int .i64 (max n (-n))) ∧ w' = w := by
  by_cases h : n < -n
  · have H := Lib.hid (show max n (-n) = -n by omega)
    go_enter Try.func131, Try.ntmps131
    go_wp2
    go_ret
    exact ⟨ret_int H.out.symm, rfl⟩
  · have H := Lib.hid (show max n (-n) = n by omega)
    go_enter Try.func131, Try.ntmps131
    go_wp2
    go_ret
    exact ⟨ret_int H.out.symm, rfl⟩

theorem distR_swap (r s : Int × Int) : max (s.1 - r.1) (-(s.1 - r.1)) + max (s.2 - r.2) (-(s.2 - r.2)) = distR r s := by unfold distR; omega

set_option maxHeartbeats 1000000 in
theorem distance_any (r s : Int × Int) (w : World) (h1 : -1000 ≤ s.1 - r.1 ∧ s.1 - r.1 ≤ 1000) (h2 : -1000 ≤ s.2 - r.2 ∧ s.2 - r.2 ≤ 1000) : Calls Try.prog 88 #[.agg #[.int .i64 r.1, .int .i64 r.2], .agg #[.int .i64 s.1, .int .i64 s.2]] w fun e w' =>
    e = .returned (.int .i64 (distR r s)) ∧ Below w.heap.size w w' := by
  have t1 : 0 ≤ max (s.1 - r.1) (-(s.1 - r.1)) ∧ max (s.1 - r.1) (-(s.1 - r.1)) ≤ 1000 := by omega
  have t2 : 0 ≤ max (s.2 - r.2) (-(s.2 - r.2)) ∧ max (s.2 - r.2) (-(s.2 - r.2)) ≤ 1000 := by omega
  have hw1 : IntKind.i64.wrap (s.1 - r.1) = s.1 - r.1 := IntWalk.i64_in _ (by omega)
  have hw2 : IntKind.i64.wrap (s.2 - r.2) = s.2 - r.2 := IntWalk.i64_in _ (by omega)
  have hw3 : IntKind.i64.wrap (max (s.1 - r.1) (-(s.1 - r.1)) + max (s.2 - r.2) (-(s.2 - r.2))) = distR r s := by rw [← distR_swap]; exact IntWalk.i64_in _ (by omega)
  clear t1 t2
  go_enter Try.func88, Try.ntmps88
  go_wp2
  go_quiet ((go_at_call 131; first | exact Calls.quiet_of_same (absolute_any _ _ h1.1 h1.2) | exact Calls.quiet_of_same (absolute_any _ _ h2.1 h2.2)))
  go_wp2
  go_ret
  exact ⟨rfl, bel_drewN (by repeat (first | exact Below.refl _ _ | refine Below.setCell ?_ (by first | omega | (simp <;> omega)) _ | refine Below.alloc ?_ (by first | omega | (simp <;> omega)) _ | refine Below.drew ?_)) _⟩

theorem likeB_true {U L W U' L' W' : Int} {n m : Nat} (h : U = U' ∧ L = L' ∧ W = W' ∧ n = m) : likeB U L W U' L' W' n m = true := by simp [likeB, h]
theorem likeB_false {U L W U' L' W' : Int} {n m : Nat} (h : ¬ (U = U' ∧ L = L' ∧ W = W' ∧ n = m)) : likeB U L W U' L' W' n m = false := by simp only [likeB, decide_eq_false_iff_not]; exact h

set_option maxHeartbeats 2000000 in
theorem implBeadsBetween (U L W : Int) (a : Option Addr) (c : Nat) (rs : List (Int × Int)) (U' L' W' : Int) (b : Option Addr) (d : Nat) (ss : List (Int × Int)) (w : World) (ha : RdF pairF w a rs) (bU : I64 U) (bL : I64 L) (bW : I64 W) (z : All2 rs) (hb : RdF pairF w b ss) (bU' : I64 U') (bL' : I64 L') (bW' : I64 W') (z' : All2 ss) :
    Calls Try.prog 25 #[.agg #[.int .i64 U, .int .i64 L, .int .i64 W, .slice a rs.length c], .agg #[.int .i64 U', .int .i64 L', .int .i64 W', .slice b ss.length d]] w fun e w' => e = .returned (.tuple #[.int .i64 (btwR U L W U' L' W' rs ss).1, .int .i64 (btwR U L W U' L' W' rs ss).2]) ∧ Below w.heap.size w w' := by
  have hx1 := ha.len
  have hy1 := hb.len
  obtain ⟨u, hu⟩ : ∃ u, u = (w.alloc (.cells #[.int .i64 U, .int .i64 L, .int .i64 W, .slice a rs.length c] 26)).alloc (.cells #[.int .i64 U', .int .i64 L', .int .i64 W', .slice b ss.length d] 26) := ⟨_, rfl⟩
  have hbel : Below w.heap.size w u := by rw [hu]; exact (by repeat (first | exact Below.refl _ _ | refine Below.setCell ?_ (by first | omega | (simp <;> omega)) _ | refine Below.alloc ?_ (by first | omega | (simp <;> omega)) _ | refine Below.drew ?_))
  have at0 : AbaAt u w.heap.size U L W a rs.length c := by rw [hu]; exact .of_box ((Bx.new _ _ _).alloc _)
  have at1 : AbaAt u (w.heap.size + 1) U' L' W' b ss.length d := by rw [hu]; exact .of_box (by simpa using Bx.new (w.alloc (.cells #[.int .i64 U, .int .i64 L, .int .i64 W, .slice a rs.length c] 26)) #[.int .i64 U', .int .i64 L', .int .i64 W', .slice b ss.length d] 26)
  have hus : w.heap.size + 1 < u.heap.size := by rw [hu]; simp
  replace ha := ha.below hbel
  replace hb := hb.below hbel
  have HU := Lib.hid hu
  clear hu
  have HO := Lib.hid (implValidAbacus U L W a c rs u ha bU bL bW z)
  have HO2 := Lib.hid (fun (v : World) (hv : Below u.heap.size u v) => implValidAbacus U' L' W' b d ss v (hb.below hv) bU' bL' bW' z')
  cases h : abaB U L W rs with
  | false =>
    have HR := Lib.hid (btw_bad1 (U' := U') (L' := L') (W' := W') (ss := ss) h)
    rw [h] at HO
    clear h at0 at1
    go_enter Try.func25, Try.ntmps25
    go_wp2_with fail
    rw [← HU.out]
    refine HO.out.mono ?_
    rintro e w1 ⟨rfl, hb1⟩
    go_wp2
    go_ret2
    exact ⟨ret_two HR.out, hbel.trans (hb1.mono hbel.size)⟩
  | true =>
    rw [h] at HO
    cases h' : abaB U' L' W' ss with
    | false =>
      have HR := Lib.hid (btw_bad2 (U := U) (L := L) (W := W) (rs := rs) h')
      rw [h'] at HO2
      clear h h'
      go_enter Try.func25, Try.ntmps25
      go_wp2_with fail
      rw [← HU.out]
      refine HO.out.mono ?_
      rintro e w1 ⟨rfl, hb1⟩
      obtain ⟨d0, d1, d2, d3⟩ := at1.below hb1
      go_wp2_with fail
      refine (HO2.out w1 hb1).mono ?_
      rintro e w2 ⟨rfl, hb2⟩
      go_wp2
      go_ret2
      exact ⟨ret_two HR.out, hbel.trans ((hb1.trans (hb2.mono hb1.size)).mono hbel.size)⟩
    | true =>
      rw [h'] at HO2
      by_cases hn : U = U' ∧ L = L' ∧ W = W' ∧ rs.length = ss.length
      · have HR := Lib.hid (btw_ok h h' hn)
        have HV := Lib.hid (aba_of h)
        have HV' := Lib.hid (aba_of h')
        have HK := Lib.hid (likeB_true hn)
        obtain ⟨h0, h1, h2, h3⟩ := hn
        have HL := Lib.hid h3
        have HE := Lib.hid (And.intro h0 h1)
        clear h h' h0 h1 h2 h3
        go_enter Try.func25, Try.ntmps25
        go_wp2_with fail
        rw [← HU.out]
        refine HO.out.mono ?_
        rintro e w1 ⟨rfl, hb1⟩
        obtain ⟨d0, d1, d2, d3⟩ := at1.below hb1
        go_wp2_with fail
        refine (HO2.out w1 hb1).mono ?_
        rintro e w2 ⟨rfl, hb2⟩
        replace hb2 := hb1.trans (hb2.mono hb1.size)
        clear d0 d1 d2 d3 hb1
        obtain ⟨c0, c1, c2, c3⟩ := at0.below hb2
        obtain ⟨d0, d1, d2, d3⟩ := at1.below hb2
        go_wp2_with fail
        refine (isLike_any U L W U' L' W' a b rs.length ss.length c d w2).mono ?_
        rintro e w3 ⟨rfl, hb3⟩
        rw [HK.out]
        replace hb3 := hb2.trans (hb3.mono hb2.size)
        clear c0 c1 c2 c3 d0 d1 d2 d3 hb2
        replace hbel := hbel.trans (hb3.mono hbel.size)
        replace ha := ha.below hb3
        replace hb := hb.below hb3
        obtain ⟨c0, c1, c2, c3⟩ := at0.below hb3
        obtain ⟨d0, d1, d2, d3⟩ := at1.below hb3
        clear at0 at1 w1 w2
        go_wp2
        go_loopw [6, 24] (fun s i wr => ∃ k : Nat, k ≤ rs.length ∧ i = .int .i64 k ∧ s = .int .i64 (distL (rs.take k) (ss.take k)) ∧ Below w3.heap.size w3 wr) (fun _ i _ => rs.length - (intOf i).toNat)
        case atStart => exact ⟨0, Nat.zero_le _, by go_num, by simp [distL], Below.refl _ _⟩
        case round =>
          obtain ⟨k, hk, rfl, rfl, hbw⟩ := hrel
          by_cases hlt : k < rs.length
          · have hlt' : k < ss.length := by rw [← HL.out]; exact hlt
            obtain ⟨b1, o1, rfl, p0, p1⟩ := (ha.below hbw).at2 hlt
            have hq : Below wr.heap.size wr (wr.alloc (.cells #[.int .i64 (elt pairF rs k).1, .int .i64 (elt pairF rs k).2] 102)) := (Below.refl _ _).alloc (Nat.le_refl _) _
            have hq2 := hbw.trans (hq.mono hbw.size)
            obtain ⟨b2, o2, rfl, q0, q1⟩ := (hb.below hq2).at2 hlt'
            have f3 := kept_after (kept hq2 d3)
            have q0' := kept_after q0
            have q1' := kept_after q1
            clear q0 q1
            have bxr := Bx.new wr #[.int .i64 (elt pairF rs k).1, .int .i64 (elt pairF rs k).2] 102
            have r0 := kept_after (p := ⟨wr.heap.size, 0, none⟩) (v := .int .i64 (elt pairF rs k).1) (bxr.at_ 0 rfl)
            have r1 := kept_after (p := ⟨wr.heap.size, 1, none⟩) (v := .int .i64 (elt pairF rs k).2) (bxr.at_ 1 rfl)
            have hr := rodB_true (rodsB_at HV.out.rods hlt)
            have hr' := rodB_true (rodsB_at HV'.out.rods hlt')
            have u1 := HV.out.u1
            have l1 := HV.out.l1
            have u1' := HV'.out.u1
            have l1' := HV'.out.l1
            have n1 := HV.out.n1
            have hD := distL_bd u1 l1 hk (by omega : k ≤ ss.length) (rodsB_true HV.out.rods) (by have := rodsB_true HV'.out.rods; rwa [← HE.out.1, ← HE.out.2] at this)
            have hd2 := distR_bd u1 l1 (rodsB_at HV.out.rods hlt) (by have := rodsB_at HV'.out.rods hlt'; rwa [← HE.out.1, ← HE.out.2] at this)
            have HS := Lib.hid (show distL (rs.take (k + 1)) (ss.take (k + 1)) = distL (rs.take k) (ss.take k) + distR (elt pairF rs k) (elt pairF ss k) from distL_step hlt hlt')
            have g1 : -1000 ≤ (elt pairF ss k).1 - (elt pairF rs k).1 ∧ (elt pairF ss k).1 - (elt pairF rs k).1 ≤ 1000 := by omega
            have g2 : -1000 ≤ (elt pairF ss k).2 - (elt pairF rs k).2 ∧ (elt pairF ss k).2 - (elt pairF rs k).2 ≤ 1000 := by omega
            have hw4 : IntKind.i64.wrap (distL (rs.take k) (ss.take k) + distR (elt pairF rs k) (elt pairF ss k)) = distL (rs.take (k + 1)) (ss.take (k + 1)) := by rw [HS.out]; exact IntWalk.i64_in _ (by omega)
            clear hr hr' hD hd2
            go_wp2
            refine wp_region_after (by kernel_rfl) (by kernel_rfl) ?_
            repeat (go_big_quiet_step ((go_at_call 88; exact calls_after (distance_any _ _ _ g1 g2))))
            refine wpQuiet_nil ?_
            intro u2
            go_wp2
            clear hw4
            go_roundw
            case rel => exact ⟨k + 1, by omega, by go_num, rfl, hq2.trans (u2.ok.mono hq2.size)⟩
            case measure => (simp [intOf]) <;> omega
          · obtain rfl : k = rs.length := by omega
            have e : distL (rs.take rs.length) (ss.take rs.length) = distL rs ss := by
              rw [List.take_of_length_le (Nat.le_refl _), HL.out, List.take_of_length_le (Nat.le_refl _)]
            rw [e] at *
            clear e
            go_wp2
            go_ret2
            exact ⟨ret_two HR.out, hbel.trans (hbw.mono hbel.size)⟩
      · have HR := Lib.hid (btw_ne h h' hn)
        have HK := Lib.hid (likeB_false hn)
        clear h h' hn
        go_enter Try.func25, Try.ntmps25
        go_wp2_with fail
        rw [← HU.out]
        refine HO.out.mono ?_
        rintro e w1 ⟨rfl, hb1⟩
        obtain ⟨d0, d1, d2, d3⟩ := at1.below hb1
        go_wp2_with fail
        refine (HO2.out w1 hb1).mono ?_
        rintro e w2 ⟨rfl, hb2⟩
        replace hb2 := hb1.trans (hb2.mono hb1.size)
        clear d0 d1 d2 d3 hb1
        obtain ⟨c0, c1, c2, c3⟩ := at0.below hb2
        obtain ⟨d0, d1, d2, d3⟩ := at1.below hb2
        go_wp2_with fail
        refine (isLike_any U L W U' L' W' a b rs.length ss.length c d w2).mono ?_
        rintro e w3 ⟨rfl, hb3⟩
        rw [HK.out]
        go_wp2
        go_ret2
        exact ⟨ret_two HR.out, hbel.trans ((hb2.trans (hb3.mono hb2.size)).mono hbel.size)⟩
end Go.Proofs.Ytcfpfhlgcfmioaa

/- F6b -/
namespace Go.Proofs.Ytcfpfhlgcfmioaa
open Go.RowKit

set_option maxHeartbeats 1000000 in
theorem f6beads_same (a b : Option Addr) (c d : Nat) (xs : List (Int × Int × Int)) (w : World) (ha : RdF tripF w a xs) (hb : RdF tripF w b xs) :
    Calls Try.prog 28 #[.slice a xs.length c, .slice b xs.length d] w fun e w' => e = .returned (.bool true) ∧ Below w.heap.size w w' := by
  have hx1 := ha.len
  go_enter Try.func28, Try.ntmps28
  go_wp2
  go_loopw [5] (fun i wr => ∃ k n : Nat, k ≤ xs.length ∧ i = .int .i64 k ∧ wr = w.drewN n) (fun i _ => xs.length - (intOf i).toNat)
  case atStart => exact ⟨0, 0, Nat.zero_le _, rfl, rfl⟩
  case round =>
    obtain ⟨k, n, hk, rfl, rfl⟩ := hrel
    by_cases hlt : k < xs.length
    · obtain ⟨b1, o1, rfl, p0, p1, p2⟩ := ha.at3 hlt
      obtain ⟨b2, o2, rfl, q0, q1, q2⟩ := hb.at3 hlt
      obtain ⟨⟨x, y, z⟩, hx⟩ : ∃ q, q = elt tripF xs k := ⟨_, rfl⟩
      rw [← hx] at p0 p1 p2 q0 q1 q2
      simp only at p0 p1 p2 q0 q1 q2
      clear hx
      go_wp2
      go_quiet (fail)
      go_wp2
      go_roundw
      case rel => exact ⟨k + 1, _, by omega, by go_num, rfl⟩
      case measure => (simp [intOf]) <;> omega
    · obtain rfl : k = xs.length := by omega
      go_wp2
      go_ret
      exact ⟨rfl, bel_drewN (Below.refl _ _) _⟩
end Go.Proofs.Ytcfpfhlgcfmioaa

/- DrawB -/
namespace Go.Proofs.Ytcfpfhlgcfmioaa
open Go.RowKit

/-- What a bent abacus is: numbers of 64 bits, not too many rods. -/
structure BentD (U L W : Int) (rs : List (Int × Int)) : Prop where
  u : I64 U
  l : I64 L
  w : I64 W
  all : ∀ x ∈ rs, I64 x.1 ∧ I64 x.2
  n : rs.length ≤ 12
/-- A bent abacus in a box. -/
def AbaBnt (s K r B : Nat) (w wx : World) : Prop := ∃ (U L W : Int) (rs : List (Int × Int)) (A : Option Addr) (C : Nat), BentD U L W rs ∧ Bx wx B 26 #[.int .i64 U, .int .i64 L, .int .i64 W, .slice A rs.length C] ∧
  Bx wx r 26 #[.int .i64 0, .int .i64 0, .int .i64 0, .slice none 0 0] ∧ OwnF pairF 102 wx (r + 1) wx.heap.size (.slice A rs.length C) rs ∧ Src wx s K ∧ Touch s (s + 1) w wx

theorem FrmD.bent {U L W : Int} {rs : List (Int × Int)} (h : FrmD U L W) (hr : RodsD rs) (hn : rs.length ≤ 6) : BentD U L W rs :=
  ⟨mid64 (by have := h.u0; omega) (by have := h.u1; omega), mid64 (by have := h.l0; omega) (by have := h.l1; omega), mid64 (by have := h.w0; omega) (by have := h.w1; omega),
    fun x hx => by have := hr x hx; exact ⟨mid64 (by omega) (by omega), mid64 (by omega) (by omega)⟩, by omega⟩

set_option maxHeartbeats 8000000 in
theorem bentAba_any (s K : Nat) (w : World) (h : Src w s K) (hK : K ≤ 600000) :
    Calls Try.prog 67 #[.pointer (some ⟨s, 0, none⟩)] w fun e w' => ∃ (U L W : Int) (rs : List (Int × Int)) (A : Option Addr) (C : Nat), e = .returned (.agg #[.int .i64 U, .int .i64 L, .int .i64 W, .slice A (List.length rs) C]) ∧ BentD U L W rs ∧
      OwnF pairF 102 w' w.heap.size w'.heap.size (.slice A rs.length C) rs ∧ Touch s (s + 1) w w' ∧ Src w' s (K + 80) := by
  have hs := h.lt
  obtain ⟨r, hr⟩ : ∃ r, r = w.heap.size := ⟨_, rfl⟩
  obtain ⟨u, hu⟩ : ∃ u, u = w.alloc (.cells #[.int .i64 0, .int .i64 0, .int .i64 0, .slice none 0 0] 26) := ⟨_, rfl⟩
  have br : Bx u r 26 #[.int .i64 0, .int .i64 0, .int .i64 0, .slice none 0 0] := by rw [hu, hr]; exact Bx.new _ _ _
  have hbu : Below w.heap.size w u := by rw [hu]; exact (by repeat (first | exact Below.refl _ _ | refine Below.setCell ?_ (by first | omega | (simp <;> omega)) _ | refine Below.alloc ?_ (by first | omega | (simp <;> omega)) _ | refine Below.drew ?_))
  have hsu : u.heap.size = r + 1 := by rw [hu, hr]; simp
  have su : Src u s K := h.lo hbu hs
  have tu : Touch s (s + 1) w u := Below.touch hbu
  have HU := Lib.hid hu
  have HR := Lib.hid hr
  clear hu h hbu
  have hsr : s < r := by omega
  go_enter Try.func67, Try.ntmps67
  go_wp2_with fail
  rw [← HU.out, ← hr]
  clear hr
  refine (drawAba_any s K u su (by omega)).mono ?_
  rintro e w1 ⟨U, L, W, rs, A, C, rfl, hF, hrs, n1, n6, ow, ht1, hs1⟩
  have hl1 := ht1.size
  replace br := br.touch ht1 (by omega)
  replace tu := tu.trans ht1
  rw [hsu] at ow
  clear ht1 su
  go_wp2_with fail
  obtain ⟨B, hB⟩ : ∃ B, B = w1.heap.size := ⟨_, rfl⟩
  obtain ⟨v, hv⟩ : ∃ v, v = w1.alloc (.cells #[.int .i64 U, .int .i64 L, .int .i64 W, .slice A rs.length C] 26) := ⟨_, rfl⟩
  rw [← hv, ← hB]
  have hbv : Below w1.heap.size w1 v := by rw [hv]; exact (by repeat (first | exact Below.refl _ _ | refine Below.setCell ?_ (by first | omega | (simp <;> omega)) _ | refine Below.alloc ?_ (by first | omega | (simp <;> omega)) _ | refine Below.drew ?_))
  have bB : Bx v B 26 #[.int .i64 U, .int .i64 L, .int .i64 W, .slice A rs.length C] := by rw [hv, hB]; exact Bx.new _ _ _
  have hrB : r < B := by omega
  replace ow := ow.below hbv
  rw [← hB] at ow
  have sv := hs1.lo hbv (by omega)
  replace tu := tu.trans (Below.touch hbv)
  replace br := br.below hbv
  have hvz : v.heap.size = B + 1 := by rw [hv, hB]; simp
  have HB := Lib.hid hB
  clear hv hbv hs1 hB
  refine (pick_any s _ 24 v sv (by omega) (by omega)).mono ?_
  rintro e w2 ⟨z, rfl, z0, z1, hs2, ht2⟩
  have hl2 := ht2.size
  replace bB := bB.touch ht2 (by omega)
  replace br := br.touch ht2 (by omega)
  replace ow := ow.touch ht2 (.inr (by omega))
  replace tu := tu.trans ht2
  replace hs2 := hs2.mono (M := K + 62) (by omega)
  clear ht2 sv
  have hBz := bB.lt
  go_upto_block 0 with fail
  go_cut [3] from 8 to 50 (fun s3 wx => s3 = .pointer (some ⟨B, 0, none⟩) ∧ AbaBnt s (K + 80) r B w wx)
  case first =>
    have hD := hF.bent hrs n6
    by_cases h0 : z = 0
    · subst h0
      have hwz := br.lt
      go_wp2_with fail
      have hal : Below w2.heap.size w2 (w2.alloc (.cells ([-1, 0, 4, 5, 9223372036854775807].map (Value.int .i64)).toArray 2)) := (Below.refl _ _).alloc (Nat.le_refl _) _
      refine (among_any s _ w2.heap.size 5 [-1, 0, 4, 5, 9223372036854775807] _ (hs2.lo (L := w2.heap.size) hal (by omega)) (by omega) (rd_new w2 [-1, 0, 4, 5, 9223372036854775807] (by simp)) (by omega) (by simp) (by simp)).mono ?_
      rintro e w3 ⟨y, rfl, hy, hs3, ht3⟩
      have iy : I64 y := by
        unfold I64
        simp at hy
        rcases hy with rfl | rfl | rfl | rfl | rfl <;> decide
      have hl3 := hal.size
      have b3 := (bB.below hal).touch ht3 (by omega)
      have r3 := (br.below hal).touch ht3 (by omega)
      have o3 := (ow.below hal).touch ht3 (.inr (by omega))
      have t3 := (tu.trans (Below.touch hal)).trans ht3
      have tt : Touch B (B + 1) w3 (w3.setCell ⟨B, 0, none⟩ (.int .i64 y)) := (Touch.refl _ _ _).setCell (by simp) (by simp) _
      have b4 := b3.set_ 0 (.int .i64 y)
      have r4 := r3.touch tt (by omega)
      have o4 := (o3.touch tt (.inl (by omega))).wide (lo' := r + 1) (hi' := (w3.setCell ⟨B, 0, none⟩ (.int .i64 y)).heap.size) (by omega) (by have := b3.lt; simp; omega)
      have t4 := t3.then_ tt (by have := HR.out; omega)
      have s4 := (hs3.touch tt (by omega)).mono (M := K + 80) (by omega)
      have c3 := b3.at_ 0 rfl
      have f3 := b3.thaw 0
      clear tt ht3 hal hy bB br ow tu hs2 hs3
      go_wp2_with fail
      go_meet
      case rel => exact ⟨rfl, y, L, W, rs, A, C, ⟨iy, hD.l, hD.w, hD.all, hD.n⟩, b4, r4, o4, s4, t4⟩
    have h0b : (z == 0) = false := beq_eq_false_iff_ne.2 h0
    by_cases h1 : z = 1
    · subst h1
      have hwz := br.lt
      go_wp2_with fail
      have hal : Below w2.heap.size w2 (w2.alloc (.cells ([0, 1, 12, 13, -9223372036854775808].map (Value.int .i64)).toArray 2)) := (Below.refl _ _).alloc (Nat.le_refl _) _
      refine (among_any s _ w2.heap.size 5 [0, 1, 12, 13, -9223372036854775808] _ (hs2.lo (L := w2.heap.size) hal (by omega)) (by omega) (rd_new w2 [0, 1, 12, 13, -9223372036854775808] (by simp)) (by omega) (by simp) (by simp)).mono ?_
      rintro e w3 ⟨y, rfl, hy, hs3, ht3⟩
      have iy : I64 y := by
        unfold I64
        simp at hy
        rcases hy with rfl | rfl | rfl | rfl | rfl <;> decide
      have hl3 := hal.size
      have b3 := (bB.below hal).touch ht3 (by omega)
      have r3 := (br.below hal).touch ht3 (by omega)
      have o3 := (ow.below hal).touch ht3 (.inr (by omega))
      have t3 := (tu.trans (Below.touch hal)).trans ht3
      have tt : Touch B (B + 1) w3 (w3.setCell ⟨B, 1, none⟩ (.int .i64 y)) := (Touch.refl _ _ _).setCell (by simp) (by simp) _
      have b4 := b3.set_ 1 (.int .i64 y)
      have r4 := r3.touch tt (by omega)
      have o4 := (o3.touch tt (.inl (by omega))).wide (lo' := r + 1) (hi' := (w3.setCell ⟨B, 1, none⟩ (.int .i64 y)).heap.size) (by omega) (by have := b3.lt; simp; omega)
      have t4 := t3.then_ tt (by have := HR.out; omega)
      have s4 := (hs3.touch tt (by omega)).mono (M := K + 80) (by omega)
      have c3 := b3.at_ 1 rfl
      have f3 := b3.thaw 1
      clear tt ht3 hal hy bB br ow tu hs2 hs3
      go_wp2_with fail
      go_meet
      case rel => exact ⟨rfl, U, y, W, rs, A, C, ⟨hD.u, iy, hD.w, hD.all, hD.n⟩, b4, r4, o4, s4, t4⟩
    have h1b : (z == 1) = false := beq_eq_false_iff_ne.2 h1
    by_cases h2 : z = 2
    · subst h2
      have hwz := br.lt
      go_wp2_with fail
      have hal : Below w2.heap.size w2 (w2.alloc (.cells ([0, 1, 10, 11, -9223372036854775808].map (Value.int .i64)).toArray 2)) := (Below.refl _ _).alloc (Nat.le_refl _) _
      refine (among_any s _ w2.heap.size 5 [0, 1, 10, 11, -9223372036854775808] _ (hs2.lo (L := w2.heap.size) hal (by omega)) (by omega) (rd_new w2 [0, 1, 10, 11, -9223372036854775808] (by simp)) (by omega) (by simp) (by simp)).mono ?_
      rintro e w3 ⟨y, rfl, hy, hs3, ht3⟩
      have iy : I64 y := by
        unfold I64
        simp at hy
        rcases hy with rfl | rfl | rfl | rfl | rfl <;> decide
      have hl3 := hal.size
      have b3 := (bB.below hal).touch ht3 (by omega)
      have r3 := (br.below hal).touch ht3 (by omega)
      have o3 := (ow.below hal).touch ht3 (.inr (by omega))
      have t3 := (tu.trans (Below.touch hal)).trans ht3
      have tt : Touch B (B + 1) w3 (w3.setCell ⟨B, 2, none⟩ (.int .i64 y)) := (Touch.refl _ _ _).setCell (by simp) (by simp) _
      have b4 := b3.set_ 2 (.int .i64 y)
      have r4 := r3.touch tt (by omega)
      have o4 := (o3.touch tt (.inl (by omega))).wide (lo' := r + 1) (hi' := (w3.setCell ⟨B, 2, none⟩ (.int .i64 y)).heap.size) (by omega) (by have := b3.lt; simp; omega)
      have t4 := t3.then_ tt (by have := HR.out; omega)
      have s4 := (hs3.touch tt (by omega)).mono (M := K + 80) (by omega)
      have c3 := b3.at_ 2 rfl
      have f3 := b3.thaw 2
      clear tt ht3 hal hy bB br ow tu hs2 hs3
      go_wp2_with fail
      go_meet
      case rel => exact ⟨rfl, U, L, y, rs, A, C, ⟨hD.u, hD.l, iy, hD.all, hD.n⟩, b4, r4, o4, s4, t4⟩
    have h2b : (z == 2) = false := beq_eq_false_iff_ne.2 h2
    by_cases h3 : z = 3
    · subst h3
      have hwr := br.lt
      obtain ⟨g, rfl, hg1, hg2, hg3⟩ := ow.head (by omega)
      have k1 := kept_lo (L := w2.heap.size) (bB.at_ 1 rfl) hBz
      have k3 := kept_lo (L := w2.heap.size) (bB.at_ 3 rfl) hBz
      have v1 : IntKind.i64.wrap (L + 1) = L + 1 := fits_int _ (by have := hF.l0; omega) (by have := hF.l1; omega)
      go_upto_region 10 with fail
      refine wp_region_marked (fun w' => Touch s (s + 1) w2 w') 12 (by kernel_rfl) ?_
      have hS : Touch s (s + 1) w2 w2.drew := ⟨rfl, rfl, rfl, Nat.le_refl _, fun _ _ _ => rfl⟩
      clear k1 k3
      have k1 : ∀ w', Touch s (s + 1) w2 w' → w'.cell? ⟨B, 1, none⟩ = some (.int .i64 L) := fun _ h => keptT h (bB.at_ 1 rfl) (by omega)
      have k3 : ∀ w', Touch s (s + 1) w2 w' → w'.cell? ⟨B, 3, none⟩ = some (.slice (some ⟨g, 0, none⟩) rs.length C) := fun _ h => keptT h (bB.at_ 3 rfl) (by omega)
      refine wpAnyM_take (i := 0) (v := ?_) rfl (by kernel_rfl) (by kernel_rfl) (by kernel_rfl) (by kernel_rfl) (by kernel_rfl) (fun _ _ _ h => h) hS (.inl ⟨by rfl, ?_⟩) ?_
      rotate_left 1
      · intro w' hS'; go_simp; try with_reducible rfl
      simp only [Act.put, List.setIfInBounds_toArray]
      refine wpAnyM_take (i := 1) (v := ?_) rfl (by kernel_rfl) (by kernel_rfl) (by kernel_rfl) (by kernel_rfl) (by kernel_rfl) (fun _ _ _ h => h) hS (.inl ⟨by rfl, ?_⟩) ?_
      rotate_left 1
      · intro w' hS'; go_simp; try with_reducible rfl
      simp only [Act.put]
      refine wpAnyM_take (i := 2) (v := ?_) rfl (by kernel_rfl) (by kernel_rfl) (by kernel_rfl) (by kernel_rfl) (by kernel_rfl) (fun _ _ _ h => h) hS (.inl ⟨by rfl, ?_⟩) ?_
      rotate_left 1
      · intro w' hS'; go_simp; try with_reducible rfl
      simp only [Act.put]
      refine wpAnyM_take (i := 3) (v := ?_) rfl (by kernel_rfl) (by kernel_rfl) (by kernel_rfl) (by kernel_rfl) (by kernel_rfl) (fun _ _ _ h => h) hS (.inl ⟨by rfl, ?_⟩) ?_
      rotate_left 1
      · intro w' hS'; go_simp; try with_reducible rfl
      simp only [Act.put]
      refine wpAnyM_take (i := 4) (v := ?_) rfl (by kernel_rfl) (by kernel_rfl) (by kernel_rfl) (by kernel_rfl) (by kernel_rfl) (fun _ _ _ h => h) hS (.inl ⟨by rfl, ?_⟩) ?_
      rotate_left 1
      · intro w' hS'; go_simp; try with_reducible rfl
      simp only [Act.put]
      refine wpAnyM_take (i := 5) (v := ?_) rfl (by kernel_rfl) (by kernel_rfl) (by kernel_rfl) (by kernel_rfl) (by kernel_rfl) (fun _ _ _ h => h) hS (.inl ⟨by rfl, ?_⟩) ?_
      rotate_left 1
      · intro w' hS'; go_simp; try with_reducible rfl
      simp only [Act.put]
      refine wpAnyM_take (i := 6) (v := ?_) rfl (by kernel_rfl) (by kernel_rfl) (by kernel_rfl) (by kernel_rfl) (by kernel_rfl) (fun _ _ _ h => h) hS (.inl ⟨by rfl, ?_⟩) ?_
      rotate_left 1
      · intro w' hS'; go_simp; try with_reducible rfl
      simp only [Act.put]
      refine wpAnyM_take (i := 7) (v := ?_) rfl (by kernel_rfl) (by kernel_rfl) (by kernel_rfl) (by kernel_rfl) (by kernel_rfl) (fun _ _ _ h => h) hS (.inl ⟨by rfl, ?_⟩) ?_
      rotate_left 1
      · intro w' hS'; go_simp; try with_reducible rfl
      simp only [Act.put]
      clear k1 k3
      refine wpAnyM_one (i := 8) (by kernel_rfl) rfl (by rfl) (fun K hK => ?_)
      go_simp
      have hal : Below w2.drew.heap.size w2.drew (w2.drew.alloc (.cells ([-1, L, L + 1].map (Value.int .i64)).toArray 2)) := (Below.refl _ _).alloc (Nat.le_refl _) _
      have hdz : w2.drew.heap.size = w2.heap.size := rfl
      replace hS := hS.trans (Below.touch hal)
      refine hK _ _ (.inr hS) ?_
      try simp only [Act.put, List.setIfInBounds_toArray]
      clear hK K
      refine wpAnyM_one (i := 9) (by kernel_rfl) rfl (by rfl) (fun K hK => ?_)
      go_simp
      refine (among_any s _ w2.heap.size 3 [-1, L, L + 1] _ (hs2.lo (L := w2.heap.size) ((Below.refl w2.heap.size w2).drew.alloc (Nat.le_refl _) _) (by omega)) (by omega) (rd_new w2.drew [-1, L, L + 1] (by simp)) (by omega) (by simp) (by simp)).mono ?_
      rintro e w3 ⟨y, rfl, hy, hs3, ht3⟩
      have iy : I64 y := by
        have e1 := hF.l0
        have e2 := hF.l1
        simp only [List.mem_cons, List.not_mem_nil, or_false] at hy
        exact mid64 (by omega) (by omega)
      replace hS := hS.trans ht3
      refine hK _ _ (.inr hS) ?_
      try simp only [Act.put, List.setIfInBounds_toArray]
      clear hK K ht3
      have hw3 := hS.size
      have b3 := bB.touch hS (by omega)
      have r3 := br.touch hS (by omega)
      have o3 := ow.touch hS (.inr (by omega))
      have t3 := tu.trans hS
      have hn0 : 0 < rs.length := by omega
      obtain ⟨q0, q1⟩ := o3.get2 (k := 0) hn0
      have f1 := o3.thaw 1
      have HP := Lib.hid (o3.put21 (k := 0) (by omega) y)
      have c3 := b3.at_ 3 rfl
      refine wpAnyM_one (i := 10) (by kernel_rfl) rfl (by rfl) (fun K hK => ?_)
      go_simp
      refine hK _ _ (.inr hS) ?_
      try simp only [Act.put, List.setIfInBounds_toArray]
      clear hK K
      refine wpAnyM_take (i := 11) (v := ?_) rfl (by kernel_rfl) (by kernel_rfl) (by kernel_rfl) (by kernel_rfl) (by kernel_rfl) (fun _ _ _ h => h) hS (.inl ⟨by rfl, ?_⟩) ?_
      rotate_left 1
      · intro w' hS'; go_simp; try with_reducible rfl
      simp only [Act.put, List.setIfInBounds_toArray]
      refine wpAnyM_one (i := 12) (by kernel_rfl) rfl (by rfl) (fun K hK => ?_)
      go_simp
      refine hK _ _ (.inl rfl) ?_
      clear hK K
      refine wpAnyM_done (by kernel_rfl) ?_ _
      obtain ⟨w9, hw9⟩ : ∃ v, v = w3.setCell ⟨g, 1, none⟩ (.int .i64 y) := ⟨_, rfl⟩
      have HW := Lib.hid hw9
      have hz9 : w9.heap.size = w3.heap.size := by rw [hw9]; simp
      have tt : Touch g (g + 1) w3 w9 := by rw [hw9]; exact (Touch.refl _ _ _).setCell (by simp) (by simp) _
      have o9 := HP.out
      rw [show (⟨g, 0 * 2 + 1, none⟩ : Addr) = ⟨g, 1, none⟩ from rfl, ← hw9] at o9
      obtain ⟨rs', hrs'⟩ : ∃ rs', rs' = rs.set 0 ((elt pairF rs 0).1, y) := ⟨_, rfl⟩
      have hn' : rs'.length = rs.length := by rw [hrs']; simp
      rw [← hrs'] at o9
      have HE : Hid (BentD U L W rs') := Lib.hid ⟨hD.u, hD.l, hD.w, fun x hx => by
        rw [hrs'] at hx
        rcases List.mem_or_eq_of_mem_set hx with hx | rfl
        · exact hD.all x hx
        · refine ⟨(hD.all (elt pairF rs 0) ?_).1, iy⟩
          rw [elt, List.getElem?_eq_getElem hn0]; exact List.getElem_mem hn0, by rw [hn']; omega⟩
      have o10 : OwnF pairF 102 w9 (r + 1) w9.heap.size (.slice (some ⟨g, 0, none⟩) rs'.length C) rs' := by rw [hn']; exact o9.wide (Nat.le_refl _) (by omega)
      have b9 : Bx w9 B 26 #[.int .i64 U, .int .i64 L, .int .i64 W, .slice (some ⟨g, 0, none⟩) rs'.length C] := by rw [hn']; exact b3.touch tt (.inr (by omega))
      have r9 := r3.touch tt (.inl (by omega))
      have t9 := t3.then_ tt (by have := HR.out; omega)
      have s9 := (hs3.touch tt (by omega)).mono (M := K + 80) (by omega)
      rw [← hw9]
      clear hw9 HP tt o9 o3 b3 r3 t3 hs3 bB br ow tu hs2 q0 q1 f1 c3 hrs' hn'
      go_wp2_with fail
      go_meet
      case rel => exact ⟨rfl, U, L, W, rs', _, C, HE.out, b9, r9, o10, s9, t9⟩
    have h3b : (z == 3) = false := beq_eq_false_iff_ne.2 h3
    by_cases h4 : z = 4
    · subst h4
      have hwr := br.lt
      go_wp2_with fail
      refine (pick_any s _ 2 w2 hs2 (by omega) (by omega)).mono ?_
      rintro e w3 ⟨y, rfl, y0, y1, hs3, ht3⟩
      have hl3 := ht3.size
      have v1 : IntKind.i64.wrap (10 + y) = 10 + y := fits_int _ (by omega) (by omega)
      obtain ⟨N, hN⟩ : ∃ N : Nat, 10 + y = (N : Int) := ⟨(10 + y).toNat, by omega⟩
      have hN1 : N ≤ 12 := by omega
      rw [hN] at v1
      have b3 := bB.touch ht3 (by omega)
      have r3 := br.touch ht3 (by omega)
      have t3 := tu.trans ht3
      have HN := Lib.hid hN
      clear ht3 bB br ow tu hs2 hN
      go_wp2_with (at_make; go_must (refine wpList_makeF pairF rfl _ _ _ 102 rfl Try.underlying24 _ 16 info_Rod rfl (by omega) N (by simp [go_sem, HN.out]) (by simp [go_sem, HN.out]) (by omega) ?_); intro w4 on hb4; have b4 := b3.below hb4; have c3 := b4.at_ 3 rfl; have f3 := b4.thaw 3)
      have hl4 := hb4.size
      have r4 := r3.below hb4
      have tt : Touch B (B + 1) w4 (w4.setCell ⟨B, 3, none⟩ (.slice (some ⟨w3.heap.size, 0, none⟩) N N)) := (Touch.refl _ _ _).setCell (by simp) (by simp) _
      have b5 := b4.set_ 3 (.slice (some ⟨w3.heap.size, 0, none⟩) N N)
      have r5 := r4.touch tt (by omega)
      have o5 := (on.touch tt (.inr (by omega))).wide (lo' := r + 1) (hi' := (w4.setCell ⟨B, 3, none⟩ (.slice (some ⟨w3.heap.size, 0, none⟩) N N)).heap.size) (by omega) (by simp)
      have t5 := (t3.trans (Below.touch hb4)).then_ tt (by have := HR.out; omega)
      have s5 := ((hs3.lo (L := w3.heap.size) hb4 (by omega)).touch tt (by omega)).mono (M := K + 80) (by omega)
      have hpl : (padF pairF N []).length = N := padF_len (by simp)
      have HE : Hid (BentD U L W (padF pairF N [])) := Lib.hid ⟨hD.u, hD.l, hD.w, fun x hx => by
        have hx2 : x ∈ List.replicate N pairF.zero := by simpa only [padF, List.nil_append, List.length_nil, Nat.sub_zero] using hx
        have hx3 := (List.mem_replicate.1 hx2).2
        subst hx3; exact ⟨show I64 0 from mid64 (by omega) (by omega), show I64 0 from mid64 (by omega) (by omega)⟩, by rw [hpl]; exact hN1⟩
      have b6 : Bx (w4.setCell ⟨B, 3, none⟩ (.slice (some ⟨w3.heap.size, 0, none⟩) N N)) B 26 #[.int .i64 U, .int .i64 L, .int .i64 W, .slice (some ⟨w3.heap.size, 0, none⟩) (padF pairF N []).length N] := by rw [hpl]; exact b5
      have o6 : OwnF pairF 102 (w4.setCell ⟨B, 3, none⟩ (.slice (some ⟨w3.heap.size, 0, none⟩) N N)) (r + 1) (w4.setCell ⟨B, 3, none⟩ (.slice (some ⟨w3.heap.size, 0, none⟩) N N)).heap.size (.slice (some ⟨w3.heap.size, 0, none⟩) (padF pairF N []).length N) (padF pairF N []) := by rw [hpl]; exact o5
      clear tt b4 b5 r3 r4 t3 hs3 on o5 b3
      go_meet
      case rel => exact ⟨rfl, U, L, W, _, _, N, HE.out, b6, r5, o6, s5, t5⟩
    have h4b : (z == 4) = false := beq_eq_false_iff_ne.2 h4
    by_cases h5 : z = 5
    · subst h5
      have hwr := br.lt
      have tt : Touch B (B + 1) w2 (w2.setCell ⟨B, 3, none⟩ (.slice (some ⟨w2.heap.size, 0, none⟩) 0 0)) := (Touch.refl _ _ _).setCell (by simp) (by simp) _
      have hz3 : (w2.setCell ⟨B, 3, none⟩ (.slice (some ⟨w2.heap.size, 0, none⟩) 0 0)).heap.size = w2.heap.size := by simp
      have on := ownF_row (F := pairF) (xs := []) (n := 0) (row_new 102 2 (w2.setCell ⟨B, 3, none⟩ (.slice (some ⟨w2.heap.size, 0, none⟩) 0 0)) #[] 0 (by simp) (by omega)) rfl (by simp)
      rw [hz3] at on
      have b4 := (bB.set_ 3 (.slice (some ⟨w2.heap.size, 0, none⟩) 0 0)).alloc (.cells #[] 102)
      have r4 := (br.touch tt (by omega)).alloc (.cells #[] 102)
      have t4 := (tu.then_ tt (by have := HR.out; omega)).alloc (.cells #[] 102)
      have s4 := (((hs2.touch tt (by omega)).lo (L := B + 1) (Below.alloc (Below.refl _ _) (by simp; omega) (.cells #[] 102)) (by omega))).mono (M := K + 80) (by omega)
      have o4 := on.wide (lo' := r + 1) (hi' := ((w2.setCell ⟨B, 3, none⟩ (.slice (some ⟨w2.heap.size, 0, none⟩) 0 0)).alloc (.cells #[] 102)).heap.size) (by omega) (by simp)
      have c3 := bB.at_ 3 rfl
      have f3 := bB.thaw 3
      clear tt bB br ow tu hs2
      go_wp2_with fail
      go_meet
      case rel => exact ⟨rfl, U, L, W, [], _, 0, ⟨hD.u, hD.l, hD.w, (fun _ hx => by cases hx), by simp⟩, b4, r4, o4, s4, t4⟩
    have h5b : (z == 5) = false := beq_eq_false_iff_ne.2 h5
    go_wp2_with fail
    go_meet
    case rel => exact ⟨rfl, U, L, W, rs, A, C, hD, bB, br, ow.wide (Nat.le_refl _) (by omega), hs2.mono (by omega), tu⟩
  case rest =>
    clear bB br ow hrs hs2 tu
    obtain ⟨rfl, U, L, W, rs, A, C, hF, bB, br, ow, hs5, tu⟩ := hcut
    obtain ⟨w5, rfl⟩ : ∃ v, v = wc := ⟨_, rfl⟩
    have d0 := bB.at_ 0 rfl
    have d1 := bB.at_ 1 rfl
    have d2 := bB.at_ 2 rfl
    have d3 := bB.at_ 3 rfl
    have c0 := br.at_ 0 rfl
    have c1 := br.at_ 1 rfl
    have c2 := br.at_ 2 rfl
    have c3 := br.at_ 3 rfl
    have f0 := br.thaw 0
    have f1 := br.thaw 1
    have f2 := br.thaw 2
    have f3 := br.thaw 3
    have hrl := br.lt
    have tt : Touch r (r + 1) w5 ((((w5.setCell ⟨r, 0, none⟩ (.int .i64 U)).setCell ⟨r, 1, none⟩ (.int .i64 L)).setCell ⟨r, 2, none⟩ (.int .i64 W)).setCell ⟨r, 3, none⟩ (.slice A rs.length C)) :=
      ((((Touch.refl _ _ _).setCell (by simp) (by simp) _).setCell (by simp) (by simp) _).setCell (by simp) (by simp) _).setCell (by simp) (by simp) _
    have HO := Lib.hid ((ow.touch tt (.inr (by omega))).wide (lo' := w.heap.size) (hi' := ((((w5.setCell ⟨r, 0, none⟩ (.int .i64 U)).setCell ⟨r, 1, none⟩ (.int .i64 L)).setCell ⟨r, 2, none⟩ (.int .i64 W)).setCell ⟨r, 3, none⟩ (.slice A rs.length C)).heap.size) (by have := HR.out; omega) (by simp))
    have HT := Lib.hid (tu.then_ tt (by have := HR.out; omega))
    have HS := Lib.hid (hs5.touch tt (by omega))
    clear tt ow tu hs5
    go_wp2_with fail
    refine bodyPost_ret (v := .agg #[.int .i64 U, .int .i64 L, .int .i64 W, .slice A rs.length C]) (by simp [results, Try.results67, go_sem, c0, c1, c2, c3]) rfl ?_
    exact ⟨U, L, W, rs, A, C, rfl, hF, HO.out, HT.out, HS.out⟩
end Go.Proofs.Ytcfpfhlgcfmioaa

/- DrawE -/
namespace Go.Proofs.Ytcfpfhlgcfmioaa
open Go.RowKit

/-- A drawn abacus, of its own. -/
def BentPost (w : World) (e : Ending) (w' : World) : Prop := ∃ (U L W : Int) (rs : List (Int × Int)) (A : Option Addr) (C : Nat), e = .returned (.agg #[.int .i64 U, .int .i64 L, .int .i64 W, .slice A (List.length rs) C]) ∧ BentD U L W rs ∧
  OwnF pairF 102 w' w.heap.size w'.heap.size (.slice A rs.length C) rs ∧ Below w.heap.size w w'

set_option maxHeartbeats 1000000 in
theorem drawValue_any (s K : Nat) (w : World) (h : Src w s K) (hK : K ≤ 700000) :
    Calls Try.prog 68 #[.pointer (some ⟨s, 0, none⟩)] w fun e w' => ∃ z : Int, e = .returned (.int .i64 z) ∧ I64 z ∧ Touch s (s + 1) w w' ∧ Src w' s (K + 10) := by
  have hs := h.lt
  go_enter Try.func68, Try.ntmps68
  go_wp2_with fail
  refine (one_any s K 10 w h (by omega) (by omega)).mono ?_
  rintro e w1 ⟨x, rfl, hs1, ht1⟩
  have hl1 := ht1.size
  clear h
  cases x with
  | true =>
    go_wp2_with fail
    have hal : Below w1.heap.size w1 (w1.alloc (.cells ([-1, 0, 999999, 1000000000000, 1000000000001].map (Value.int .i64)).toArray 2)) := (Below.refl _ _).alloc (Nat.le_refl _) _
    refine (among_any s _ w1.heap.size 5 [-1, 0, 999999, 1000000000000, 1000000000001] _ (hs1.lo (L := w1.heap.size) hal (by omega)) (by omega) (rd_new w1 [-1, 0, 999999, 1000000000000, 1000000000001] (by simp)) (by omega) (by simp) (by simp)).mono ?_
    rintro e w3 ⟨y, rfl, hy, hs3, ht3⟩
    have iy : I64 y := by
      unfold I64
      simp at hy
      rcases hy with rfl | rfl | rfl | rfl | rfl <;> decide
    go_wp2_with fail
    refine bodyPost_ret (v := .int .i64 y) (by simp [results, Try.results68, go_sem]) rfl ?_
    exact ⟨y, rfl, iy, (ht1.trans (Below.touch hal)).trans ht3, hs3.mono (by omega)⟩
  | false =>
    go_wp2_with fail
    refine (pick_any s _ 1000 w1 hs1 (by omega) (by omega)).mono ?_
    rintro e w2 ⟨n, rfl, n0, n1, hs2, ht2⟩
    go_wp2_with fail
    refine (pick_any s _ 2 w2 hs2 (by omega) (by omega)).mono ?_
    rintro e w3 ⟨x, rfl, x0, x1, hs3, ht3⟩
    go_wp2_with fail
    refine (pick_any s _ 1000 w3 hs3 (by omega) (by omega)).mono ?_
    rintro e w4 ⟨y, rfl, y0, y1, hs4, ht4⟩
    have m0 : 0 ≤ x * y := Int.mul_nonneg x0 y0
    have m1 : x * y ≤ 1 * 999 := Int.mul_le_mul (by omega) (by omega) y0 (by omega)
    have v1 : IntKind.i64.wrap (x * y) = x * y := fits_int _ (by omega) (by omega)
    have v2 : IntKind.i64.wrap (1 + x * y) = 1 + x * y := fits_int _ (by omega) (by omega)
    have m2 : 0 ≤ n * (1 + x * y) := Int.mul_nonneg n0 (by omega)
    have m3 : n * (1 + x * y) ≤ 999 * 1000 := Int.mul_le_mul (by omega) (by omega) (by omega) (by omega)
    have v3 : IntKind.i64.wrap (n * (1 + x * y)) = n * (1 + x * y) := fits_int _ (by omega) (by omega)
    have iz : I64 (n * (1 + x * y)) := mid64 (by omega) (by omega)
    have HT := Lib.hid (((ht1.trans ht2).trans ht3).trans ht4)
    clear m0 m1 m2 m3 n0 n1 x0 x1 y0 y1
    go_wp2_with fail
    refine bodyPost_ret (v := .int .i64 (n * (1 + x * y))) (by simp [results, Try.results68, go_sem]) rfl ?_
    exact ⟨_, rfl, iz, HT.out, hs4.mono (by omega)⟩

end Go.Proofs.Ytcfpfhlgcfmioaa

/- DrawH -/
namespace Go.Proofs.Ytcfpfhlgcfmioaa
open Go.RowKit

set_option maxHeartbeats 2000000 in
theorem drawAddOn_any (a : Option Addr) (zs : List Int) (c : Nat) (w : World) (h : RdU w a zs) :
    Calls Try.prog 15 #[.slice a zs.length c] w fun e w' => ∃ (U L W : Int) (rs : List (Int × Int)) (A : Option Addr) (C : Nat) (z : Int), e = .returned (.tuple #[.agg #[.int .i64 U, .int .i64 L, .int .i64 W, .slice A (List.length rs) C], .int .i64 z]) ∧ BentD U L W rs ∧ I64 z ∧
      OwnF pairF 102 w' w.heap.size w'.heap.size (.slice A rs.length C) rs ∧ Below w.heap.size w w' := by
  obtain ⟨r, hr⟩ : ∃ r, r = w.heap.size := ⟨_, rfl⟩
  go_enter Try.func15, Try.ntmps15
  obtain ⟨u, hu⟩ : ∃ u, u = w.alloc (.cells #[.int .i64 0, .int .i64 0, .int .i64 0, .slice none 0 0] 26) := ⟨_, rfl⟩
  have br : Bx u r 26 #[.int .i64 0, .int .i64 0, .int .i64 0, .slice none 0 0] := by rw [hu, hr]; exact Bx.new _ _ _
  have hbu : Below w.heap.size w u := by rw [hu]; exact (by repeat (first | exact Below.refl _ _ | refine Below.setCell ?_ (by first | omega | (simp <;> omega)) _ | refine Below.alloc ?_ (by first | omega | (simp <;> omega)) _ | refine Below.drew ?_))
  have hsu : u.heap.size = r + 1 := by rw [hu, hr]; simp
  have HU := Lib.hid hu
  have HR := Lib.hid hr
  clear hu
  go_wp2_with fail
  rw [← HU.out, ← hr]
  clear hr
  refine (from_any a zs c u (h.below hbu)).mono ?_
  rintro e w1 ⟨g, rfl, hg, hs, hb1⟩
  have hl := hb1.size
  replace br := br.below hb1
  replace hbu := hbu.trans (hb1.mono hbu.size)
  have hul := hbu.size
  clear hb1
  go_wp2_with fail
  refine (bentAba_any g _ w1 hs (by omega)).mono ?_
  rintro e w2 ⟨U, L, W, rs, A, C, rfl, hd, ow, ht, hs2⟩
  have hl2 := ht.size
  replace br := br.touch ht (by omega)
  replace hbu : Below w.heap.size w w2 := hbu.trans (ht.below (by have := HR.out; omega) (by omega))
  have hgl := hs2.lt
  have hgl1 := hs.lt
  clear ht hs
  go_upto_region 3 with fail
  obtain ⟨B, hB⟩ : ∃ B, B = w2.heap.size := ⟨_, rfl⟩
  obtain ⟨v, hv⟩ : ∃ v, v = w2.alloc (.cells #[.int .i64 U, .int .i64 L, .int .i64 W, .slice A rs.length C] 26) := ⟨_, rfl⟩
  rw [← hv, ← hB]
  have hbv : Below w2.heap.size w2 v := by rw [hv]; exact (by repeat (first | exact Below.refl _ _ | refine Below.setCell ?_ (by first | omega | (simp <;> omega)) _ | refine Below.alloc ?_ (by first | omega | (simp <;> omega)) _ | refine Below.drew ?_))
  have bB : Bx v B 26 #[.int .i64 U, .int .i64 L, .int .i64 W, .slice A rs.length C] := by rw [hv, hB]; exact Bx.new _ _ _
  have hvz : v.heap.size = B + 1 := by rw [hv, hB]; simp
  replace br := br.below hbv
  replace ow := ow.below hbv
  have sv := hs2.lo hbv (by omega)
  replace hbu := hbu.trans (hbv.mono hbu.size)
  have HB := Lib.hid hB
  have hrB : r < B := by omega
  have hgB : g < B := by omega
  rw [← hB] at ow
  clear hv hbv hs2 hB
  have k0 : ∀ w', Touch g (g + 1) v w' → w'.cell? ⟨B, 0, none⟩ = some (.int .i64 U) := fun _ h => keptT h (bB.at_ 0 rfl) (by omega)
  have k1 : ∀ w', Touch g (g + 1) v w' → w'.cell? ⟨B, 1, none⟩ = some (.int .i64 L) := fun _ h => keptT h (bB.at_ 1 rfl) (by omega)
  have k2 : ∀ w', Touch g (g + 1) v w' → w'.cell? ⟨B, 2, none⟩ = some (.int .i64 W) := fun _ h => keptT h (bB.at_ 2 rfl) (by omega)
  have k3 : ∀ w', Touch g (g + 1) v w' → w'.cell? ⟨B, 3, none⟩ = some (.slice A rs.length C) := fun _ h => keptT h (bB.at_ 3 rfl) (by omega)
  refine wp_region_marked (fun w' => Touch g (g + 1) v w') 3 (by kernel_rfl) ?_
  have hS : Touch g (g + 1) v v.drew := ⟨rfl, rfl, rfl, Nat.le_refl _, fun _ _ _ => rfl⟩
  refine wpAnyM_take (i := 0) (v := ?_) rfl (by kernel_rfl) (by kernel_rfl) (by kernel_rfl) (by kernel_rfl) (by kernel_rfl) (fun _ _ _ h => h) hS (.inl ⟨by rfl, ?_⟩) ?_
  rotate_left 1
  · intro w' hS'; go_simp; try with_reducible rfl
  simp only [Act.put, List.setIfInBounds_toArray]
  clear k0 k1 k2 k3
  refine wpAnyM_one (i := 1) (by kernel_rfl) rfl (by rfl) (fun K hK => ?_)
  go_simp
  refine hK _ _ (.inr hS) ?_
  try simp only [Act.put, List.setIfInBounds_toArray]
  clear hK K
  refine wpAnyM_one (i := 2) (by kernel_rfl) rfl (by rfl) (fun K hK => ?_)
  go_simp
  refine (drawValue_any g _ v.drew (sv.lo (L := v.heap.size) ((Below.refl _ _).drew) (by omega)) (by omega)).mono ?_
  rintro e w4 ⟨z, rfl, iz, ht4, hs4⟩
  replace hS := hS.trans ht4
  refine hK _ _ (.inr hS) ?_
  try simp only [Act.put, List.setIfInBounds_toArray]
  clear hK K ht4 hs4
  have hl4 := hS.size
  have r4 := br.touch hS (by omega)
  have o4 := ow.touch hS (.inr (by omega))
  have b4 : Below w.heap.size w w4 := hbu.trans (hS.below (by have := HR.out; omega) (by have := HR.out; omega))
  have c0 := r4.at_ 0 rfl
  have c1 := r4.at_ 1 rfl
  have c2 := r4.at_ 2 rfl
  have c3 := r4.at_ 3 rfl
  have f0 := r4.thaw 0
  have f1 := r4.thaw 1
  have f2 := r4.thaw 2
  have f3 := r4.thaw 3
  have tt : Touch r (r + 1) w4 ((((w4.setCell ⟨r, 0, none⟩ (.int .i64 U)).setCell ⟨r, 1, none⟩ (.int .i64 L)).setCell ⟨r, 2, none⟩ (.int .i64 W)).setCell ⟨r, 3, none⟩ (.slice A rs.length C)) :=
    ((((Touch.refl _ _ _).setCell (by simp) (by simp) _).setCell (by simp) (by simp) _).setCell (by simp) (by simp) _).setCell (by simp) (by simp) _
  have HO := Lib.hid ((o4.touch tt (.inr (by omega))).wide (lo' := w.heap.size) (hi' := ((((w4.setCell ⟨r, 0, none⟩ (.int .i64 U)).setCell ⟨r, 1, none⟩ (.int .i64 L)).setCell ⟨r, 2, none⟩ (.int .i64 W)).setCell ⟨r, 3, none⟩ (.slice A rs.length C)).heap.size) (by have := HR.out; omega) (by have := HB.out; simp; omega))
  have HL := Lib.hid (b4.trans (tt.below (by have := HR.out; omega) (by have := HR.out; omega)))
  clear tt o4 b4 br ow sv bB hS hbu
  refine wpAnyM_one (i := 3) (by kernel_rfl) rfl (by rfl) (fun K hK => ?_)
  go_simp
  refine hK _ _ (.inl rfl) ?_
  try simp only [Act.put, List.setIfInBounds_toArray]
  clear hK K
  refine wpAnyM_one (i := 4) (by kernel_rfl) rfl (by rfl) (fun K hK => ?_)
  go_simp
  refine hK _ _ (.inl rfl) ?_
  try simp only [Act.put, List.setIfInBounds_toArray]
  clear hK K
  refine wpAnyM_done (by kernel_rfl) ?_ _
  go_wp2_with fail
  refine bodyPost_ret (v := .tuple #[.agg #[.int .i64 U, .int .i64 L, .int .i64 W, .slice A rs.length C], .int .i64 z]) (by simp [results, Try.results15, go_sem, c0, c1, c2, c3]) rfl ?_
  exact ⟨U, L, W, rs, A, C, z, rfl, hd, iz, HO.out, HL.out⟩
end Go.Proofs.Ytcfpfhlgcfmioaa

/- DrawL -/
namespace Go.Proofs.Ytcfpfhlgcfmioaa
open Go.RowKit

/-- A move in a box, and the box of the result. -/
def MvBnt (s K r B : Nat) (w wx : World) : Prop := ∃ x y z : Int, (I64 x ∧ I64 y ∧ I64 z) ∧ Bx wx B 37 #[.int .i64 x, .int .i64 y, .int .i64 z] ∧ Bx wx r 37 #[.int .i64 0, .int .i64 0, .int .i64 0] ∧ Src wx s K ∧ Touch s (s + 1) w wx

set_option maxHeartbeats 8000000 in
theorem drawMove_any (s N : Nat) (w : World) (h : Src w s N) (hN : N ≤ 600000) :
    Calls Try.prog 82 #[.pointer (some ⟨s, 0, none⟩)] w fun e w' => ∃ x y z : Int, e = .returned (.agg #[.int .i64 x, .int .i64 y, .int .i64 z]) ∧ (I64 x ∧ I64 y ∧ I64 z) ∧ Touch s (s + 1) w w' ∧ Src w' s (N + 20) := by
  have hs := h.lt
  obtain ⟨r, hr⟩ : ∃ r, r = w.heap.size := ⟨_, rfl⟩
  obtain ⟨u, hu⟩ : ∃ u, u = w.alloc (.cells #[.int .i64 0, .int .i64 0, .int .i64 0] 37) := ⟨_, rfl⟩
  have br : Bx u r 37 #[.int .i64 0, .int .i64 0, .int .i64 0] := by rw [hu, hr]; exact Bx.new _ _ _
  have hbu : Below w.heap.size w u := by rw [hu]; exact (by repeat (first | exact Below.refl _ _ | refine Below.setCell ?_ (by first | omega | (simp <;> omega)) _ | refine Below.alloc ?_ (by first | omega | (simp <;> omega)) _ | refine Below.drew ?_))
  have hsu : u.heap.size = r + 1 := by rw [hu, hr]; simp
  have su : Src u s N := h.lo hbu hs
  have tu : Touch s (s + 1) w u := Below.touch hbu
  have HU := Lib.hid hu
  have HR := Lib.hid hr
  clear hu h hbu
  have hsr : s < r := by omega
  go_enter Try.func82, Try.ntmps82
  go_wp2_with fail
  rw [← HU.out, ← hr]
  clear hr
  refine (pick_any s _ 4 u su (by omega) (by omega)).mono ?_
  rintro e w1 ⟨x0, rfl, x00, x01, hs1, ht1⟩
  have hl1 := ht1.size
  replace br := br.touch ht1 (by omega)
  replace tu := tu.trans ht1
  clear ht1 su hsu
  go_wp2_with fail
  refine (pick_any s _ 3 w1 hs1 (by omega) (by omega)).mono ?_
  rintro e w2 ⟨y0, rfl, y00, y01, hs2, ht2⟩
  have hl2 := ht2.size
  replace br := br.touch ht2 (by omega)
  replace tu := tu.trans ht2
  clear ht2 hs1
  have e1 : IntKind.i64.wrap (y0 - 1) = y0 - 1 := fits_int _ (by omega) (by omega)
  go_upto_region 2 with fail
  obtain ⟨B, hB⟩ : ∃ B, B = w2.heap.size := ⟨_, rfl⟩
  obtain ⟨v, hv⟩ : ∃ v, v = w2.alloc (.cells #[.int .i64 x0, .int .i64 (y0 - 1), .int .i64 0] 37) := ⟨_, rfl⟩
  rw [← hv, ← hB]
  have hbv : Below w2.heap.size w2 v := by rw [hv]; exact (Below.refl _ _).alloc (Nat.le_refl _) _
  have bB : Bx v B 37 #[.int .i64 x0, .int .i64 (y0 - 1), .int .i64 0] := by rw [hv, hB]; exact Bx.new _ _ _
  have hrB : r < B := by rw [hB]; exact br.lt
  replace br := br.below hbv
  replace tu := tu.trans (Below.touch hbv)
  have hsx := hs2.lo hbv (by omega)
  clear hv hbv hs2 hB
  go_wp2_with fail
  refine (pick_any s _ 7 v hsx (by omega) (by omega)).mono ?_
  rintro e w3 ⟨z0, rfl, z00, z01, hs3, ht3⟩
  have hl3 := ht3.size
  replace bB := bB.touch ht3 (by omega)
  replace br := br.touch ht3 (by omega)
  replace tu := tu.trans ht3
  clear ht3 hsx
  have e2 : IntKind.i64.wrap (z0 - 3) = z0 - 3 := fits_int _ (by omega) (by omega)
  have c3 := bB.at_ 2 rfl
  have f3 := bB.thaw 2
  go_upto_region 3 with fail
  obtain ⟨w4, hw4⟩ : ∃ v, v = w3.setCell ⟨B, 2, none⟩ (.int .i64 (z0 - 3)) := ⟨_, rfl⟩
  rw [← hw4]
  have tt : Touch B (B + 1) w3 w4 := by rw [hw4]; exact (Touch.refl _ _ _).setCell (by simp) (by simp) _
  have b4 : Bx w4 B 37 #[.int .i64 x0, .int .i64 (y0 - 1), .int .i64 (z0 - 3)] := by rw [hw4]; exact bB.set_ 2 _
  have hl4 := tt.size
  replace br := br.touch tt (by omega)
  replace tu := tu.then_ tt (by have := HR.out; omega)
  replace hs3 := hs3.touch tt (by omega)
  clear hw4 tt c3 f3 bB
  go_wp2_with fail
  refine (pick_any s _ 16 w4 hs3 (by omega) (by omega)).mono ?_
  rintro e w5 ⟨z, rfl, z0', z1', hs5, ht5⟩
  have hl5 := ht5.size
  have bB := b4.touch ht5 (by omega)
  replace br := br.touch ht5 (by omega)
  replace tu := tu.trans ht5
  have hsx := hs5.mono (M := N + 15) (by omega)
  have hX : Hid (I64 x0 ∧ I64 (y0 - 1) ∧ I64 (z0 - 3)) := Lib.hid ⟨mid64 (by omega) (by omega), mid64 (by omega) (by omega), mid64 (by omega) (by omega)⟩
  obtain ⟨x, hx⟩ : ∃ x, x = x0 := ⟨_, rfl⟩
  obtain ⟨y, hy⟩ : ∃ y, y = y0 - 1 := ⟨_, rfl⟩
  obtain ⟨o, ho⟩ : ∃ o, o = z0 - 3 := ⟨_, rfl⟩
  rw [← hx, ← hy, ← ho] at hX bB
  clear ht5 hs5 b4 hs3 e1 e2
  have hBz := bB.lt
  go_upto_block 0 with fail
  go_cut [3] from 16 to 33 (fun s3 wx => s3 = .pointer (some ⟨B, 0, none⟩) ∧ MvBnt s (N + 20) r B w wx)
  case first =>
    clear hx hy ho
    by_cases h0 : z = 0
    · subst h0
      have hwz := br.lt
      go_wp2_with fail
      have hal : Below w5.heap.size w5 (w5.alloc (.cells ([-1, 9, 9223372036854775807].map (Value.int .i64)).toArray 2)) := (Below.refl _ _).alloc (Nat.le_refl _) _
      refine (among_any s _ w5.heap.size 3 [-1, 9, 9223372036854775807] _ (hsx.lo (L := w5.heap.size) hal (by omega)) (by omega) (rd_new w5 [-1, 9, 9223372036854775807] (by simp)) (by omega) (by simp) (by simp)).mono ?_
      rintro e w6 ⟨q, rfl, hy, hs3, ht3⟩
      have iy : I64 q := by
        simp at hy
        rcases hy with rfl | rfl | rfl
        all_goals first | exact mid64 (by omega) (by omega) | (unfold I64; decide)
      have hl3 := hal.size
      have b3 := (bB.below hal).touch ht3 (by omega)
      have r3 := (br.below hal).touch ht3 (by omega)
      have t3 := (tu.trans (Below.touch hal)).trans ht3
      have tt : Touch B (B + 1) w6 (w6.setCell ⟨B, 0, none⟩ (.int .i64 q)) := (Touch.refl _ _ _).setCell (by simp) (by simp) _
      have b4 := b3.set_ 0 (.int .i64 q)
      have r4 := r3.touch tt (by omega)
      have t4 := t3.then_ tt (by have := HR.out; omega)
      have s4 := (hs3.touch tt (by omega)).mono (M := N + 20) (by omega)
      have c3 := b3.at_ 0 rfl
      have f3 := b3.thaw 0
      clear tt ht3 hal hy bB br tu hsx
      go_wp2_with fail
      go_meet
      case rel => exact ⟨rfl, q, y, o, ⟨iy, hX.out.2.1, hX.out.2.2⟩, b4, r4, s4, t4⟩
    have h0b : (z == 0) = false := beq_eq_false_iff_ne.2 h0
    by_cases h1 : z = 1
    · subst h1
      have hwz := br.lt
      go_wp2_with fail
      have hal : Below w5.heap.size w5 (w5.alloc (.cells ([-5, 4, 5, 9223372036854775807].map (Value.int .i64)).toArray 2)) := (Below.refl _ _).alloc (Nat.le_refl _) _
      refine (among_any s _ w5.heap.size 4 [-5, 4, 5, 9223372036854775807] _ (hsx.lo (L := w5.heap.size) hal (by omega)) (by omega) (rd_new w5 [-5, 4, 5, 9223372036854775807] (by simp)) (by omega) (by simp) (by simp)).mono ?_
      rintro e w6 ⟨q, rfl, hy, hs3, ht3⟩
      have iy : I64 q := by
        simp at hy
        rcases hy with rfl | rfl | rfl | rfl
        all_goals first | exact mid64 (by omega) (by omega) | (unfold I64; decide)
      have hl3 := hal.size
      have b3 := (bB.below hal).touch ht3 (by omega)
      have r3 := (br.below hal).touch ht3 (by omega)
      have t3 := (tu.trans (Below.touch hal)).trans ht3
      have tt : Touch B (B + 1) w6 (w6.setCell ⟨B, 1, none⟩ (.int .i64 q)) := (Touch.refl _ _ _).setCell (by simp) (by simp) _
      have b4 := b3.set_ 1 (.int .i64 q)
      have r4 := r3.touch tt (by omega)
      have t4 := t3.then_ tt (by have := HR.out; omega)
      have s4 := (hs3.touch tt (by omega)).mono (M := N + 20) (by omega)
      have c3 := b3.at_ 1 rfl
      have f3 := b3.thaw 1
      clear tt ht3 hal hy bB br tu hsx
      go_wp2_with fail
      go_meet
      case rel => exact ⟨rfl, x, q, o, ⟨hX.out.1, iy, hX.out.2.2⟩, b4, r4, s4, t4⟩
    have h1b : (z == 1) = false := beq_eq_false_iff_ne.2 h1
    by_cases h2 : z = 2
    · subst h2
      have hwz := br.lt
      go_wp2_with fail
      have hal : Below w5.heap.size w5 (w5.alloc (.cells ([-13, 12, 13, -9223372036854775808].map (Value.int .i64)).toArray 2)) := (Below.refl _ _).alloc (Nat.le_refl _) _
      refine (among_any s _ w5.heap.size 4 [-13, 12, 13, -9223372036854775808] _ (hsx.lo (L := w5.heap.size) hal (by omega)) (by omega) (rd_new w5 [-13, 12, 13, -9223372036854775808] (by simp)) (by omega) (by simp) (by simp)).mono ?_
      rintro e w6 ⟨q, rfl, hy, hs3, ht3⟩
      have iy : I64 q := by
        simp at hy
        rcases hy with rfl | rfl | rfl | rfl
        all_goals first | exact mid64 (by omega) (by omega) | (unfold I64; decide)
      have hl3 := hal.size
      have b3 := (bB.below hal).touch ht3 (by omega)
      have r3 := (br.below hal).touch ht3 (by omega)
      have t3 := (tu.trans (Below.touch hal)).trans ht3
      have tt : Touch B (B + 1) w6 (w6.setCell ⟨B, 2, none⟩ (.int .i64 q)) := (Touch.refl _ _ _).setCell (by simp) (by simp) _
      have b4 := b3.set_ 2 (.int .i64 q)
      have r4 := r3.touch tt (by omega)
      have t4 := t3.then_ tt (by have := HR.out; omega)
      have s4 := (hs3.touch tt (by omega)).mono (M := N + 20) (by omega)
      have c3 := b3.at_ 2 rfl
      have f3 := b3.thaw 2
      clear tt ht3 hal hy bB br tu hsx
      go_wp2_with fail
      go_meet
      case rel => exact ⟨rfl, x, y, q, ⟨hX.out.1, hX.out.2.1, iy⟩, b4, r4, s4, t4⟩
    have h2b : (z == 2) = false := beq_eq_false_iff_ne.2 h2
    go_wp2_with fail
    go_meet
    case rel => exact ⟨rfl, x, y, o, hX.out, bB, br, hsx.mono (by omega), tu⟩
  case rest =>
    clear bB br tu hsx hX hx hy ho
    obtain ⟨rfl, x, y, o, hD, bB, br, hsx, tu⟩ := hcut
    obtain ⟨w7, rfl⟩ : ∃ v, v = wc := ⟨_, rfl⟩
    have HD := Lib.hid hD
    clear hD
    have d0 := bB.at_ 0 rfl
    have d1 := bB.at_ 1 rfl
    have d2 := bB.at_ 2 rfl
    have c0 := br.at_ 0 rfl
    have c1 := br.at_ 1 rfl
    have c2 := br.at_ 2 rfl
    have fc0 := br.thaw 0
    have fc1 := br.thaw 1
    have fc2 := br.thaw 2
    have hrl := br.lt
    have t1 := (Touch.refl r (r + 1) w7).setCell (p := ⟨r, 0, none⟩) (Nat.le_refl _) (Nat.lt_succ_self _) (.int .i64 x)
    have t2 := t1.setCell (p := ⟨r, 1, none⟩) (Nat.le_refl _) (Nat.lt_succ_self _) (.int .i64 y)
    have t3 := t2.setCell (p := ⟨r, 2, none⟩) (Nat.le_refl _) (Nat.lt_succ_self _) (.int .i64 o)
    have HT := Lib.hid (tu.then_ t3 (by have := HR.out; omega))
    have HS := Lib.hid (hsx.touch t3 (by omega))
    clear t1 t2 t3 tu hsx
    go_wp2_with fail
    refine bodyPost_ret (v := .agg #[.int .i64 x, .int .i64 y, .int .i64 o]) (by simp [results, Try.results82, go_sem, c0, c1, c2]) rfl ?_
    exact ⟨x, y, o, rfl, HD.out, HT.out, HS.out⟩
end Go.Proofs.Ytcfpfhlgcfmioaa

/- DrawQ -/
namespace Go.Proofs.Ytcfpfhlgcfmioaa
open Go.RowKit

set_option maxHeartbeats 2000000 in
theorem drawMoveBeads_any (a : Option Addr) (zs : List Int) (c : Nat) (w : World) (h : RdU w a zs) :
    Calls Try.prog 21 #[.slice a zs.length c] w fun e w' => ∃ (U L W : Int) (rs : List (Int × Int)) (A : Option Addr) (C : Nat) (x y z : Int), e = .returned (.tuple #[.agg #[.int .i64 U, .int .i64 L, .int .i64 W, .slice A (List.length rs) C], .agg #[.int .i64 x, .int .i64 y, .int .i64 z]]) ∧ BentD U L W rs ∧ (I64 x ∧ I64 y ∧ I64 z) ∧
      OwnF pairF 102 w' w.heap.size w'.heap.size (.slice A rs.length C) rs ∧ Below w.heap.size w w' := by
  obtain ⟨r, hr⟩ : ∃ r, r = w.heap.size := ⟨_, rfl⟩
  go_enter Try.func21, Try.ntmps21
  obtain ⟨u, hu⟩ : ∃ u, u = (w.alloc (.cells #[.int .i64 0, .int .i64 0, .int .i64 0, .slice none 0 0] 26)).alloc (.cells #[.int .i64 0, .int .i64 0, .int .i64 0] 37) := ⟨_, rfl⟩
  have br : Bx u r 26 #[.int .i64 0, .int .i64 0, .int .i64 0, .slice none 0 0] := by rw [hu, hr]; exact (Bx.new _ _ _).alloc _
  have bq : Bx u (r + 1) 37 #[.int .i64 0, .int .i64 0, .int .i64 0] := by rw [hu, hr]; simpa using Bx.new (w.alloc (.cells #[.int .i64 0, .int .i64 0, .int .i64 0, .slice none 0 0] 26)) #[.int .i64 0, .int .i64 0, .int .i64 0] 37
  have hbu : Below w.heap.size w u := by rw [hu]; exact (by repeat (first | exact Below.refl _ _ | refine Below.setCell ?_ (by first | omega | (simp <;> omega)) _ | refine Below.alloc ?_ (by first | omega | (simp <;> omega)) _ | refine Below.drew ?_))
  have hsu : u.heap.size = r + 2 := by rw [hu, hr]; simp
  have HU := Lib.hid hu
  have HR := Lib.hid hr
  clear hu
  go_wp2_with fail
  rw [← HU.out, ← hr]
  clear hr
  refine (from_any a zs c u (h.below hbu)).mono ?_
  rintro e w1 ⟨g, rfl, hg, hs, hb1⟩
  have hl := hb1.size
  replace br := br.below hb1
  replace bq := bq.below hb1
  replace hbu := hbu.trans (hb1.mono hbu.size)
  have hul := hbu.size
  clear hb1
  go_wp2_with fail
  refine (bentAba_any g _ w1 hs (by omega)).mono ?_
  rintro e w2 ⟨U, L, W, rs, A, C, rfl, hd, ow, ht, hs2⟩
  have hl2 := ht.size
  replace br := br.touch ht (by omega)
  replace bq := bq.touch ht (by omega)
  replace hbu : Below w.heap.size w w2 := hbu.trans (ht.below (by have := HR.out; omega) (by omega))
  have hgl := hs2.lt
  have hgl1 := hs.lt
  clear ht hs
  go_upto_region 3 with fail
  obtain ⟨B, hB⟩ : ∃ B, B = w2.heap.size := ⟨_, rfl⟩
  obtain ⟨v, hv⟩ : ∃ v, v = w2.alloc (.cells #[.int .i64 U, .int .i64 L, .int .i64 W, .slice A rs.length C] 26) := ⟨_, rfl⟩
  rw [← hv, ← hB]
  have hbv : Below w2.heap.size w2 v := by rw [hv]; exact (by repeat (first | exact Below.refl _ _ | refine Below.setCell ?_ (by first | omega | (simp <;> omega)) _ | refine Below.alloc ?_ (by first | omega | (simp <;> omega)) _ | refine Below.drew ?_))
  have bB : Bx v B 26 #[.int .i64 U, .int .i64 L, .int .i64 W, .slice A rs.length C] := by rw [hv, hB]; exact Bx.new _ _ _
  have hvz : v.heap.size = B + 1 := by rw [hv, hB]; simp
  replace br := br.below hbv
  replace bq := bq.below hbv
  replace ow := ow.below hbv
  have sv := hs2.lo hbv (by omega)
  replace hbu := hbu.trans (hbv.mono hbu.size)
  have HB := Lib.hid hB
  have hrB : r + 1 < B := by omega
  have hgB : g < B := by omega
  rw [← hB] at ow
  clear hv hbv hs2 hB
  have k0 : ∀ w', Touch g (g + 1) v w' → w'.cell? ⟨B, 0, none⟩ = some (.int .i64 U) := fun _ h => keptT h (bB.at_ 0 rfl) (by omega)
  have k1 : ∀ w', Touch g (g + 1) v w' → w'.cell? ⟨B, 1, none⟩ = some (.int .i64 L) := fun _ h => keptT h (bB.at_ 1 rfl) (by omega)
  have k2 : ∀ w', Touch g (g + 1) v w' → w'.cell? ⟨B, 2, none⟩ = some (.int .i64 W) := fun _ h => keptT h (bB.at_ 2 rfl) (by omega)
  have k3 : ∀ w', Touch g (g + 1) v w' → w'.cell? ⟨B, 3, none⟩ = some (.slice A rs.length C) := fun _ h => keptT h (bB.at_ 3 rfl) (by omega)
  refine wp_region_marked (fun w' => Touch g (g + 1) v w') 3 (by kernel_rfl) ?_
  have hS : Touch g (g + 1) v v.drew := ⟨rfl, rfl, rfl, Nat.le_refl _, fun _ _ _ => rfl⟩
  refine wpAnyM_take (i := 0) (v := ?_) rfl (by kernel_rfl) (by kernel_rfl) (by kernel_rfl) (by kernel_rfl) (by kernel_rfl) (fun _ _ _ h => h) hS (.inl ⟨by rfl, ?_⟩) ?_
  rotate_left 1
  · intro w' hS'; go_simp; try with_reducible rfl
  simp only [Act.put, List.setIfInBounds_toArray]
  clear k0 k1 k2 k3
  refine wpAnyM_one (i := 1) (by kernel_rfl) rfl (by rfl) (fun K hK => ?_)
  go_simp
  refine hK _ _ (.inr hS) ?_
  try simp only [Act.put, List.setIfInBounds_toArray]
  clear hK K
  refine wpAnyM_one (i := 2) (by kernel_rfl) rfl (by rfl) (fun K hK => ?_)
  go_simp
  refine (drawMove_any g _ v.drew (sv.lo (L := v.heap.size) ((Below.refl _ _).drew) (by omega)) (by omega)).mono ?_
  rintro e w4 ⟨x, y, z, rfl, iz, ht4, hs4⟩
  replace hS := hS.trans ht4
  refine hK _ _ (.inr hS) ?_
  try simp only [Act.put, List.setIfInBounds_toArray]
  clear hK K ht4 hs4
  have hl4 := hS.size
  have r4 := br.touch hS (by omega)
  have q4 := bq.touch hS (by omega)
  have o4 := ow.touch hS (.inr (by omega))
  have b4 : Below w.heap.size w w4 := hbu.trans (hS.below (by have := HR.out; omega) (by have := HR.out; omega))
  have c0 := r4.at_ 0 rfl
  have c1 := r4.at_ 1 rfl
  have c2 := r4.at_ 2 rfl
  have c3 := r4.at_ 3 rfl
  have f0 := r4.thaw 0
  have f1 := r4.thaw 1
  have f2 := r4.thaw 2
  have f3 := r4.thaw 3
  clear br ow sv bB hS hbu bq
  refine wpAnyM_one (i := 3) (by kernel_rfl) rfl (by rfl) (fun K hK => ?_)
  go_simp
  obtain ⟨w7, hw7⟩ : ∃ v, v = (((w4.setCell ⟨r, 0, none⟩ (.int .i64 U)).setCell ⟨r, 1, none⟩ (.int .i64 L)).setCell ⟨r, 2, none⟩ (.int .i64 W)).setCell ⟨r, 3, none⟩ (.slice A rs.length C) := ⟨_, rfl⟩
  rw [← hw7]
  have t1 := (Touch.refl r (r + 1) w4).setCell (p := ⟨r, 0, none⟩) (Nat.le_refl _) (Nat.lt_succ_self _) (.int .i64 U)
  have t2 := t1.setCell (p := ⟨r, 1, none⟩) (Nat.le_refl _) (Nat.lt_succ_self _) (.int .i64 L)
  have t3 := t2.setCell (p := ⟨r, 2, none⟩) (Nat.le_refl _) (Nat.lt_succ_self _) (.int .i64 W)
  have tt : Touch r (r + 1) w4 w7 := by rw [hw7]; exact t3.setCell (p := ⟨r, 3, none⟩) (Nat.le_refl _) (Nat.lt_succ_self _) (.slice A rs.length C)
  have b41 := r4.set_ 0 (.int .i64 U)
  have b42 := b41.set_ 1 (.int .i64 L)
  have b43 := b42.set_ 2 (.int .i64 W)
  have b44 := b43.set_ 3 (.slice A rs.length C)
  have r7 : Bx w7 r 26 #[.int .i64 U, .int .i64 L, .int .i64 W, .slice A rs.length C] := by rw [hw7]; exact b44
  have hl7 := tt.size
  have q7 := q4.touch tt (by omega)
  have o7 := o4.touch tt (.inr (by omega))
  have b7 := b4.trans (tt.below (by have := HR.out; omega) (by have := HR.out; omega))
  clear t1 t2 t3 b41 b42 b43 b44 tt hw7 c0 c1 c2 c3 f0 f1 f2 f3 r4 q4 o4 b4
  refine hK _ _ (.inl rfl) ?_
  try simp only [Act.put, List.setIfInBounds_toArray]
  clear hK K
  have c0 := q7.at_ 0 rfl
  have c1 := q7.at_ 1 rfl
  have c2 := q7.at_ 2 rfl
  have f0 := q7.thaw 0
  have f1 := q7.thaw 1
  have f2 := q7.thaw 2
  refine wpAnyM_one (i := 4) (by kernel_rfl) rfl (by rfl) (fun K hK => ?_)
  go_simp
  obtain ⟨w8, hw8⟩ : ∃ v, v = ((w7.setCell ⟨r + 1, 0, none⟩ (.int .i64 x)).setCell ⟨r + 1, 1, none⟩ (.int .i64 y)).setCell ⟨r + 1, 2, none⟩ (.int .i64 z) := ⟨_, rfl⟩
  rw [← hw8]
  have t1 := (Touch.refl (r + 1) (r + 1 + 1) w7).setCell (p := ⟨r + 1, 0, none⟩) (Nat.le_refl _) (Nat.lt_succ_self _) (.int .i64 x)
  have t2 := t1.setCell (p := ⟨r + 1, 1, none⟩) (Nat.le_refl _) (Nat.lt_succ_self _) (.int .i64 y)
  have tt : Touch (r + 1) (r + 1 + 1) w7 w8 := by rw [hw8]; exact t2.setCell (p := ⟨r + 1, 2, none⟩) (Nat.le_refl _) (Nat.lt_succ_self _) (.int .i64 z)
  have b41 := q7.set_ 0 (.int .i64 x)
  have b42 := b41.set_ 1 (.int .i64 y)
  have b43 := b42.set_ 2 (.int .i64 z)
  have q8 : Bx w8 (r + 1) 37 #[.int .i64 x, .int .i64 y, .int .i64 z] := by rw [hw8]; exact b43
  have hl8 := tt.size
  have r8 := r7.touch tt (by omega)
  have o8 := o7.touch tt (.inr (by omega))
  have b8 := b7.trans (tt.below (by have := HR.out; omega) (by have := HR.out; omega))
  clear t1 t2 b41 b42 b43 tt hw8 c0 c1 c2 f0 f1 f2
  refine hK _ _ (.inl rfl) ?_
  try simp only [Act.put, List.setIfInBounds_toArray]
  clear hK K
  refine wpAnyM_done (by kernel_rfl) ?_ _
  have c0 := r8.at_ 0 rfl
  have c1 := r8.at_ 1 rfl
  have c2 := r8.at_ 2 rfl
  have c3 := r8.at_ 3 rfl
  have d0 := q8.at_ 0 rfl
  have d1 := q8.at_ 1 rfl
  have d2 := q8.at_ 2 rfl
  go_wp2_with fail
  refine bodyPost_ret (v := .tuple #[.agg #[.int .i64 U, .int .i64 L, .int .i64 W, .slice A rs.length C], .agg #[.int .i64 x, .int .i64 y, .int .i64 z]]) (by simp [results, Try.results21, go_sem, c0, c1, c2, c3, d0, d1, d2]) rfl ?_
  exact ⟨U, L, W, rs, A, C, x, y, z, rfl, hd, iz, o8.wide (by have := HR.out; omega) (by have := HB.out; omega), b8⟩
end Go.Proofs.Ytcfpfhlgcfmioaa

/- DrawF -/
namespace Go.Proofs.Ytcfpfhlgcfmioaa
open Go.RowKit

theorem ownF_cap {α : Type} {F : Flat α} {t : TypeId} {w : World} {lo hi : Nat} {a : Option Addr} {c : Nat} {xs : List α} (h : OwnF F t w lo hi (.slice a xs.length c) xs) : xs.length ≤ c := by
  rcases h.row.row.2 with ⟨_, hn⟩ | ⟨g, cap, cur, hv, _, _, hc, _⟩
  · omega
  · injection hv with _ _ hc2
    omega

theorem own_rdTail {w : World} {lo hi g n c : Nat} {t : TypeId} {rs : List (Int × Int)} (h : OwnF pairF t w lo hi (.slice (some ⟨g, 0, none⟩) n c) rs) : RdF pairF w (some ⟨g, 2, none⟩) (rs.drop 1) := by
  refine ⟨by have := h.len; simp; omega, fun _ => ⟨g, 2, rfl, fun i x hx j v hv => ?_⟩⟩
  have hx2 : rs[i + 1]? = some x := by rw [List.getElem?_drop] at hx; rw [Nat.add_comm]; exact hx
  have hlt : i + 1 < rs.length := by
    rcases Nat.lt_or_ge (i + 1) rs.length with h1 | h1
    · exact h1
    · rw [List.getElem?_eq_none h1] at hx2; cases hx2
  have := h.get (k := i + 1) (j := j) (u := v) hlt (by rw [elt, hx2]; exact hv)
  rw [show 2 + i * pairF.sz + j = (i + 1) * pairF.sz + j by show 2 + i * 2 + j = (i + 1) * 2 + j; omega]
  exact this

theorem rdF_touch {α : Type} {F : Flat α} {w w' : World} {a : Option Addr} {xs : List α} {lo hi : Nat} (h : RdF F w a xs) (ht : Touch lo hi w w') (hd : ∀ b off, a = some ⟨b, off, none⟩ → b < lo ∨ hi ≤ b) : RdF F w' a xs := by
  refine ⟨h.len, fun hne => ?_⟩
  obtain ⟨b, off, rfl, hc⟩ := h.cells hne
  exact ⟨b, off, rfl, fun i x hx j v hv => keptT ht (hc i x hx j v hv) (hd b off rfl)⟩

end Go.Proofs.Ytcfpfhlgcfmioaa

/- DrawU -/
namespace Go.Proofs.Ytcfpfhlgcfmioaa
open Go.RowKit

/-- A pick among more than two bytes tell apart. -/
theorem pick_big (g K : Nat) (n : Int) (w : World) (h : Src w g K) (hK : K ≤ 900000) (h2 : 200 < n) (hn : n ≤ 1000000) :
    Calls Try.prog 81 #[.pointer (some ⟨g, 0, none⟩), .int .i64 n] w fun e w' => ∃ z : Int, e = .returned (.int .i64 z) ∧ 0 ≤ z ∧ z ≤ n - 1 ∧ Src w' g (K + 2) ∧ Touch g (g + 1) w w' := by
  have h1 : ¬ n ≤ 1 := by omega
  go_enter Try.func81, Try.ntmps81
  go_wp2_with fail
  refine (next_any g K w h (by omega)).mono ?_
  rintro e w1 ⟨x, rfl, x0, x1, hs1, ht1⟩
  have v1 : IntKind.i64.wrap (x * 256) = x * 256 := IntWalk.i64_in _ (by omega)
  go_wp2_with fail
  refine (next_any g (K + 1) w1 hs1 (by omega)).mono ?_
  rintro e w2 ⟨y, rfl, y0, y1, hs2, ht2⟩
  have v2 : IntKind.i64.wrap (x * 256 + y) = x * 256 + y := IntWalk.i64_in _ (by omega)
  go_wp2_with fail
  refine bodyPost_ret (v := .int .i64 ((x * 256 + y) % n)) (by simp [results, Try.results81, go_sem]) rfl ?_
  exact ⟨_, rfl, Int.emod_nonneg _ (by omega), by have := Int.emod_lt_of_pos (x * 256 + y) (b := n) (by omega); omega, hs2, ht1.trans ht2⟩
theorem abaB_bent {U L W : Int} {rs : List (Int × Int)} (h : abaB U L W rs = true) (v : Int) : BentD U L W (setP U W rs.length v) := by
  obtain ⟨h1, h2, _⟩ := abaB_true h
  have hk := kindB_true h1
  have hn : 1 ≤ rs.length ∧ rs.length ≤ 10 := by simpa [numB] using h2
  refine ⟨mid64 (by omega) (by omega), mid64 (by omega) (by omega), mid64 (by omega) (by omega), fun x hx => ?_, by rw [setP_len]; omega⟩
  have := List.all_eq_true.1 (setP_rods h1 rs.length v) x hx
  simp [rodB] at this
  exact ⟨mid64 (by omega) (by omega), mid64 (by omega) (by omega)⟩

set_option maxHeartbeats 8000000 in
theorem drawBetween_any (a : Option Addr) (zs : List Int) (c : Nat) (w : World) (h : RdU w a zs) :
    Calls Try.prog 24 #[.slice a zs.length c] w fun e w' => ∃ (U L W : Int) (rs : List (Int × Int)) (A : Option Addr) (C : Nat) (U2 L2 W2 : Int) (rs2 : List (Int × Int)) (D : Option Addr) (E : Nat),
      e = .returned (.tuple #[.agg #[.int .i64 U, .int .i64 L, .int .i64 W, .slice A (List.length rs) C], .agg #[.int .i64 U2, .int .i64 L2, .int .i64 W2, .slice D (List.length rs2) E]]) ∧ BentD U L W rs ∧ BentD U2 L2 W2 rs2 ∧ RdF pairF w' A rs ∧ RdF pairF w' D rs2 ∧ Below w.heap.size w w' := by
  obtain ⟨r, hr⟩ : ∃ r, r = w.heap.size := ⟨_, rfl⟩
  obtain ⟨u, hu⟩ : ∃ u, u = (w.alloc (.cells #[.int .i64 0, .int .i64 0, .int .i64 0, .slice none 0 0] 26)).alloc (.cells #[.int .i64 0, .int .i64 0, .int .i64 0, .slice none 0 0] 26) := ⟨_, rfl⟩
  have br : Bx u r 26 #[.int .i64 0, .int .i64 0, .int .i64 0, .slice none 0 0] := by rw [hu, hr]; exact (Bx.new _ _ _).alloc _
  have bq : Bx u (r + 1) 26 #[.int .i64 0, .int .i64 0, .int .i64 0, .slice none 0 0] := by rw [hu, hr]; simpa using Bx.new (w.alloc (.cells #[.int .i64 0, .int .i64 0, .int .i64 0, .slice none 0 0] 26)) #[.int .i64 0, .int .i64 0, .int .i64 0, .slice none 0 0] 26
  have hbu : Below w.heap.size w u := by rw [hu]; exact (by repeat (first | exact Below.refl _ _ | refine Below.setCell ?_ (by first | omega | (simp <;> omega)) _ | refine Below.alloc ?_ (by first | omega | (simp <;> omega)) _ | refine Below.drew ?_))
  have hsu : u.heap.size = r + 2 := by rw [hu, hr]; simp
  have HU := Lib.hid hu
  have HR := Lib.hid hr
  clear hu
  go_enter Try.func24, Try.ntmps24
  go_wp2_with fail
  rw [← HU.out, ← hr]
  clear hr
  refine (from_any a zs c u (h.below hbu)).mono ?_
  rintro e w1 ⟨g, rfl, hg, hs, hb1⟩
  have hl := hb1.size
  replace br := br.below hb1
  replace bq := bq.below hb1
  replace hbu := hbu.trans (hb1.mono hbu.size)
  have hul := hbu.size
  clear hb1
  go_wp2_with fail
  refine (bentAba_any g _ w1 hs (by omega)).mono ?_
  rintro e w2 ⟨U, L, W, rs, A, C, rfl, hd, ow, ht, hs2⟩
  have hl2 := ht.size
  replace br := br.touch ht (by omega)
  replace bq := bq.touch ht (by omega)
  replace hbu : Below w.heap.size w w2 := hbu.trans (ht.below (by have := HR.out; omega) (by omega))
  have hgl := hs2.lt
  have hgl1 := hs.lt
  have hD := Lib.hid hd
  clear ht hs hd
  go_upto_region 3 with fail
  obtain ⟨B, hB⟩ : ∃ B, B = w2.heap.size := ⟨_, rfl⟩
  obtain ⟨v, hv⟩ : ∃ v, v = w2.alloc (.cells #[.int .i64 U, .int .i64 L, .int .i64 W, .slice A rs.length C] 26) := ⟨_, rfl⟩
  rw [← hv, ← hB]
  have hbv : Below w2.heap.size w2 v := by rw [hv]; exact (by repeat (first | exact Below.refl _ _ | refine Below.setCell ?_ (by first | omega | (simp <;> omega)) _ | refine Below.alloc ?_ (by first | omega | (simp <;> omega)) _ | refine Below.drew ?_))
  have bB : Bx v B 26 #[.int .i64 U, .int .i64 L, .int .i64 W, .slice A rs.length C] := by rw [hv, hB]; exact Bx.new _ _ _
  replace br := br.below hbv
  replace bq := bq.below hbv
  replace ow := ow.below hbv
  have sv := hs2.lo hbv (by omega)
  replace hbu := hbu.trans (hbv.mono hbu.size)
  have hrB : r + 1 < B := by omega
  have hgB : g < B := by omega
  have hrg : r + 1 < g := by omega
  have hgw : w1.heap.size ≤ B := by omega
  rw [← hB] at ow
  clear hv hbv hs2 hB hl2 hgl hsu hul hg
  have hBl := bB.lt
  have HC := Lib.hid (fun b (hb : abaB U L W rs = b) => l03Ok_at B U L W A C rs v hb (AbaAt.of_box bB) ow.rd)
  cases hok : abaB U L W rs with
  | false =>
    have HC := Lib.hid (HC.out false hok)
    go_wp2_with fail
    refine HC.out.mono ?_
    rintro e w3 ⟨rfl, hb⟩
    have hl3 := hb.size
    replace br := br.below hb
    replace bq := bq.below hb
    replace bB := bB.below hb
    replace ow := ow.below hb
    replace sv := sv.lo hb (by omega)
    replace hbu := hbu.trans (hb.mono hbu.size)
    clear hb HC hok
    go_upto_region 6 with fail
    have k0 : ∀ w', Touch g (g + 1) w3 w' → w'.cell? ⟨B, 0, none⟩ = some (.int .i64 U) := fun _ h => keptT h (bB.at_ 0 rfl) (by omega)
    have k1 : ∀ w', Touch g (g + 1) w3 w' → w'.cell? ⟨B, 1, none⟩ = some (.int .i64 L) := fun _ h => keptT h (bB.at_ 1 rfl) (by omega)
    have k2 : ∀ w', Touch g (g + 1) w3 w' → w'.cell? ⟨B, 2, none⟩ = some (.int .i64 W) := fun _ h => keptT h (bB.at_ 2 rfl) (by omega)
    have k3 : ∀ w', Touch g (g + 1) w3 w' → w'.cell? ⟨B, 3, none⟩ = some (.slice A rs.length C) := fun _ h => keptT h (bB.at_ 3 rfl) (by omega)
    refine wp_region_marked (fun w' => Touch g (g + 1) w3 w') 3 (by kernel_rfl) ?_
    have hS : Touch g (g + 1) w3 w3.drew := ⟨rfl, rfl, rfl, Nat.le_refl _, fun _ _ _ => rfl⟩
    refine wpAnyM_take (i := 0) (v := ?_) rfl (by kernel_rfl) (by kernel_rfl) (by kernel_rfl) (by kernel_rfl) (by kernel_rfl) (fun _ _ _ h => h) hS (.inl ⟨by rfl, ?_⟩) ?_
    rotate_left 1
    · intro w' hS'; go_simp; try with_reducible rfl
    simp only [Act.put, List.setIfInBounds_toArray]
    clear k0 k1 k2 k3
    refine wpAnyM_one (i := 1) (by kernel_rfl) rfl (by rfl) (fun K hK => ?_)
    go_simp
    refine hK _ _ (.inr hS) ?_
    try simp only [Act.put, List.setIfInBounds_toArray]
    clear hK K
    refine wpAnyM_one (i := 2) (by kernel_rfl) rfl (by rfl) (fun K hK => ?_)
    go_simp
    refine (bentAba_any g _ w3.drew (sv.lo (L := w3.heap.size) ((Below.refl _ _).drew) (by omega)) (by omega)).mono ?_
    rintro e w4 ⟨U2, L2, W2, rs2, A2, C2, rfl, hd2, ob, ht4, hs4⟩
    replace hS := hS.trans ht4
    refine hK _ _ (.inr hS) ?_
    try simp only [Act.put, List.setIfInBounds_toArray]
    clear hK K hs4
    have hl4 := hS.size
    replace br := br.touch hS (by omega)
    replace bq := bq.touch hS (by omega)
    have oa := ow.touch hS (.inr (by omega))
    replace ob : OwnF pairF 102 w4 w3.heap.size w4.heap.size (.slice A2 rs2.length C2) rs2 := ob
    have hbe : Below w.heap.size w w4 := hbu.trans (hS.below (by have := HR.out; omega) (by have := HR.out; omega))
    clear ht4 sv bB hS hbu ow
    have c0 := br.at_ 0 rfl
    have c1 := br.at_ 1 rfl
    have c2 := br.at_ 2 rfl
    have c3 := br.at_ 3 rfl
    have f0 := br.thaw 0
    have f1 := br.thaw 1
    have f2 := br.thaw 2
    have f3 := br.thaw 3
    refine wpAnyM_one (i := 3) (by kernel_rfl) rfl (by rfl) (fun K hK => ?_)
    go_simp
    obtain ⟨w7, hw7⟩ : ∃ v, v = ((((w4.setCell ⟨r, 0, none⟩ (.int .i64 U)).setCell ⟨r, 1, none⟩ (.int .i64 L)).setCell ⟨r, 2, none⟩ (.int .i64 W)).setCell ⟨r, 3, none⟩ (.slice A rs.length C)) := ⟨_, rfl⟩
    rw [← hw7]
    have t1 := (Touch.refl r (r + 1) w4).setCell (p := ⟨r, 0, none⟩) (Nat.le_refl _) (Nat.lt_succ_self _) (.int .i64 U)
    have t2 := t1.setCell (p := ⟨r, 1, none⟩) (Nat.le_refl _) (Nat.lt_succ_self _) (.int .i64 L)
    have t3 := t2.setCell (p := ⟨r, 2, none⟩) (Nat.le_refl _) (Nat.lt_succ_self _) (.int .i64 W)
    have t4 := t3.setCell (p := ⟨r, 3, none⟩) (Nat.le_refl _) (Nat.lt_succ_self _) (.slice A rs.length C)
    have tt : Touch r (r + 1) w4 w7 := by rw [hw7]; exact t4
    have b41 := br.set_ 0 (.int .i64 U)
    have b42 := b41.set_ 1 (.int .i64 L)
    have b43 := b42.set_ 2 (.int .i64 W)
    have b44 := b43.set_ 3 (.slice A rs.length C)
    have br7 : Bx w7 r 26 #[.int .i64 U, .int .i64 L, .int .i64 W, .slice A rs.length C] := by rw [hw7]; exact b44
    have hl7 := tt.size
    have bq7 := bq.touch tt (by omega)
    have oa7 := oa.touch tt (.inr (by omega))
    have ob7 := ob.touch tt (.inr (by omega))
    have hb7 := hbe.trans (tt.below (by have := HR.out; omega) hbe.size)
    clear t1 t2 t3 t4 b41 b42 b43 b44 hw7 c0 c1 c2 c3 f0 f1 f2 f3 br bq oa ob hbe
    refine hK _ _ (.inl rfl) ?_
    try simp only [Act.put, List.setIfInBounds_toArray]
    clear hK K
    have c0 := bq7.at_ 0 rfl
    have c1 := bq7.at_ 1 rfl
    have c2 := bq7.at_ 2 rfl
    have c3 := bq7.at_ 3 rfl
    have f0 := bq7.thaw 0
    have f1 := bq7.thaw 1
    have f2 := bq7.thaw 2
    have f3 := bq7.thaw 3
    refine wpAnyM_one (i := 4) (by kernel_rfl) rfl (by rfl) (fun K hK => ?_)
    go_simp
    obtain ⟨w8, hw8⟩ : ∃ v, v = (((w7.setCell ⟨r + 1, 0, none⟩ (.int .i64 U2)).setCell ⟨r + 1, 1, none⟩ (.int .i64 L2)).setCell ⟨r + 1, 2, none⟩ (.int .i64 W2)).setCell ⟨r + 1, 3, none⟩ (.slice A2 rs2.length C2) := ⟨_, rfl⟩
    rw [← hw8]
    have t1 := (Touch.refl (r + 1) (r + 1 + 1) w7).setCell (p := ⟨r + 1, 0, none⟩) (Nat.le_refl _) (Nat.lt_succ_self _) (.int .i64 U2)
    have t2 := t1.setCell (p := ⟨r + 1, 1, none⟩) (Nat.le_refl _) (Nat.lt_succ_self _) (.int .i64 L2)
    have t3 := t2.setCell (p := ⟨r + 1, 2, none⟩) (Nat.le_refl _) (Nat.lt_succ_self _) (.int .i64 W2)
    have t8 : Touch (r + 1) (r + 1 + 1) w7 w8 := by rw [hw8]; exact t3.setCell (p := ⟨r + 1, 3, none⟩) (Nat.le_refl _) (Nat.lt_succ_self _) (.slice A2 rs2.length C2)
    have b41 := bq7.set_ 0 (.int .i64 U2)
    have b42 := b41.set_ 1 (.int .i64 L2)
    have b43 := b42.set_ 2 (.int .i64 W2)
    have b44 := b43.set_ 3 (.slice A2 rs2.length C2)
    have bq8 : Bx w8 (r + 1) 26 #[.int .i64 U2, .int .i64 L2, .int .i64 W2, .slice A2 rs2.length C2] := by rw [hw8]; exact b44
    have br8 := br7.touch t8 (by omega)
    have oa8 := (oa7.touch t8 (.inr (by omega))).rd
    have ob8 := (ob7.touch t8 (.inr (by omega))).rd
    have hb8 := hb7.trans (t8.below (by have := HR.out; omega) hb7.size)
    clear t1 t2 t3 b41 b42 b43 b44 hw8 c0 c1 c2 c3 f0 f1 f2 f3
    refine hK _ _ (.inl rfl) ?_
    try simp only [Act.put, List.setIfInBounds_toArray]
    clear hK K
    refine wpAnyM_done (by kernel_rfl) ?_ _
    have r0 := br8.at_ 0 rfl
    have r1 := br8.at_ 1 rfl
    have r2 := br8.at_ 2 rfl
    have r3 := br8.at_ 3 rfl
    have q0 := bq8.at_ 0 rfl
    have q1 := bq8.at_ 1 rfl
    have q2 := bq8.at_ 2 rfl
    have q3 := bq8.at_ 3 rfl
    go_wp2_with fail
    exact bodyPost_ret (v := .tuple #[.agg #[.int .i64 U, .int .i64 L, .int .i64 W, .slice A rs.length C], .agg #[.int .i64 U2, .int .i64 L2, .int .i64 W2, .slice A2 rs2.length C2]]) (by simp [results, Try.results24, go_sem, r0, r1, r2, r3, q0, q1, q2, q3]) rfl
      ⟨U, L, W, rs, A, C, U2, L2, W2, rs2, A2, C2, rfl, hD.out, hd2, oa8, ob8, hb8⟩
  | true =>
    have HC := Lib.hid (HC.out true hok)
    have HDP := Lib.hid (fun z => abaB_bent hok z)
    have HAB := Lib.hid (aba_of hok)
    go_wp2_with fail
    refine HC.out.mono ?_
    rintro e w3 ⟨rfl, hb⟩
    have hl3 := hb.size
    replace br := br.below hb
    replace bq := bq.below hb
    replace bB := bB.below hb
    replace ow := ow.below hb
    replace sv := sv.lo hb (by omega)
    replace hbu := hbu.trans (hb.mono hbu.size)
    clear hb HC hok
    go_wp2_with fail
    refine (one_any g _ 6 w3 sv (by omega) (by omega)).mono ?_
    rintro e w5 ⟨zb, rfl, sv5, ht⟩
    have hl5 := ht.size
    replace br := br.touch ht (by omega)
    replace bq := bq.touch ht (by omega)
    replace bB := bB.touch ht (by omega)
    replace ow := ow.touch ht (.inr (by omega))
    replace hbu := hbu.trans (ht.below (by have := HR.out; omega) hbu.size)
    clear ht sv
    cases zb with
    | true =>
      have sv := sv5
      clear sv5
      go_upto_region 6 with fail
      have k0 : ∀ w', Touch g (g + 1) w5 w' → w'.cell? ⟨B, 0, none⟩ = some (.int .i64 U) := fun _ h => keptT h (bB.at_ 0 rfl) (by omega)
      have k1 : ∀ w', Touch g (g + 1) w5 w' → w'.cell? ⟨B, 1, none⟩ = some (.int .i64 L) := fun _ h => keptT h (bB.at_ 1 rfl) (by omega)
      have k2 : ∀ w', Touch g (g + 1) w5 w' → w'.cell? ⟨B, 2, none⟩ = some (.int .i64 W) := fun _ h => keptT h (bB.at_ 2 rfl) (by omega)
      have k3 : ∀ w', Touch g (g + 1) w5 w' → w'.cell? ⟨B, 3, none⟩ = some (.slice A rs.length C) := fun _ h => keptT h (bB.at_ 3 rfl) (by omega)
      refine wp_region_marked (fun w' => Touch g (g + 1) w5 w') 3 (by kernel_rfl) ?_
      have hS : Touch g (g + 1) w5 w5.drew := ⟨rfl, rfl, rfl, Nat.le_refl _, fun _ _ _ => rfl⟩
      refine wpAnyM_take (i := 0) (v := ?_) rfl (by kernel_rfl) (by kernel_rfl) (by kernel_rfl) (by kernel_rfl) (by kernel_rfl) (fun _ _ _ h => h) hS (.inl ⟨by rfl, ?_⟩) ?_
      rotate_left 1
      · intro w' hS'; go_simp; try with_reducible rfl
      simp only [Act.put, List.setIfInBounds_toArray]
      clear k0 k1 k2 k3
      refine wpAnyM_one (i := 1) (by kernel_rfl) rfl (by rfl) (fun K hK => ?_)
      go_simp
      refine hK _ _ (.inr hS) ?_
      try simp only [Act.put, List.setIfInBounds_toArray]
      clear hK K
      refine wpAnyM_one (i := 2) (by kernel_rfl) rfl (by rfl) (fun K hK => ?_)
      go_simp
      refine (bentAba_any g _ w5.drew (sv.lo (L := w5.heap.size) ((Below.refl _ _).drew) (by omega)) (by omega)).mono ?_
      rintro e w4 ⟨U2, L2, W2, rs2, A2, C2, rfl, hd2, ob, ht4, hs4⟩
      replace hS := hS.trans ht4
      refine hK _ _ (.inr hS) ?_
      try simp only [Act.put, List.setIfInBounds_toArray]
      clear hK K hs4
      have hl4 := hS.size
      replace br := br.touch hS (by omega)
      replace bq := bq.touch hS (by omega)
      have oa := ow.touch hS (.inr (by omega))
      replace ob : OwnF pairF 102 w4 w5.heap.size w4.heap.size (.slice A2 rs2.length C2) rs2 := ob
      have hbe : Below w.heap.size w w4 := hbu.trans (hS.below (by have := HR.out; omega) (by have := HR.out; omega))
      clear ht4 sv bB hS hbu ow
      have c0 := br.at_ 0 rfl
      have c1 := br.at_ 1 rfl
      have c2 := br.at_ 2 rfl
      have c3 := br.at_ 3 rfl
      have f0 := br.thaw 0
      have f1 := br.thaw 1
      have f2 := br.thaw 2
      have f3 := br.thaw 3
      refine wpAnyM_one (i := 3) (by kernel_rfl) rfl (by rfl) (fun K hK => ?_)
      go_simp
      obtain ⟨w7, hw7⟩ : ∃ v, v = ((((w4.setCell ⟨r, 0, none⟩ (.int .i64 U)).setCell ⟨r, 1, none⟩ (.int .i64 L)).setCell ⟨r, 2, none⟩ (.int .i64 W)).setCell ⟨r, 3, none⟩ (.slice A rs.length C)) := ⟨_, rfl⟩
      rw [← hw7]
      have t1 := (Touch.refl r (r + 1) w4).setCell (p := ⟨r, 0, none⟩) (Nat.le_refl _) (Nat.lt_succ_self _) (.int .i64 U)
      have t2 := t1.setCell (p := ⟨r, 1, none⟩) (Nat.le_refl _) (Nat.lt_succ_self _) (.int .i64 L)
      have t3 := t2.setCell (p := ⟨r, 2, none⟩) (Nat.le_refl _) (Nat.lt_succ_self _) (.int .i64 W)
      have t4 := t3.setCell (p := ⟨r, 3, none⟩) (Nat.le_refl _) (Nat.lt_succ_self _) (.slice A rs.length C)
      have tt : Touch r (r + 1) w4 w7 := by rw [hw7]; exact t4
      have b41 := br.set_ 0 (.int .i64 U)
      have b42 := b41.set_ 1 (.int .i64 L)
      have b43 := b42.set_ 2 (.int .i64 W)
      have b44 := b43.set_ 3 (.slice A rs.length C)
      have br7 : Bx w7 r 26 #[.int .i64 U, .int .i64 L, .int .i64 W, .slice A rs.length C] := by rw [hw7]; exact b44
      have hl7 := tt.size
      have bq7 := bq.touch tt (by omega)
      have oa7 := oa.touch tt (.inr (by omega))
      have ob7 := ob.touch tt (.inr (by omega))
      have hb7 := hbe.trans (tt.below (by have := HR.out; omega) hbe.size)
      clear t1 t2 t3 t4 b41 b42 b43 b44 hw7 c0 c1 c2 c3 f0 f1 f2 f3 br bq oa ob hbe
      refine hK _ _ (.inl rfl) ?_
      try simp only [Act.put, List.setIfInBounds_toArray]
      clear hK K
      have c0 := bq7.at_ 0 rfl
      have c1 := bq7.at_ 1 rfl
      have c2 := bq7.at_ 2 rfl
      have c3 := bq7.at_ 3 rfl
      have f0 := bq7.thaw 0
      have f1 := bq7.thaw 1
      have f2 := bq7.thaw 2
      have f3 := bq7.thaw 3
      refine wpAnyM_one (i := 4) (by kernel_rfl) rfl (by rfl) (fun K hK => ?_)
      go_simp
      obtain ⟨w8, hw8⟩ : ∃ v, v = (((w7.setCell ⟨r + 1, 0, none⟩ (.int .i64 U2)).setCell ⟨r + 1, 1, none⟩ (.int .i64 L2)).setCell ⟨r + 1, 2, none⟩ (.int .i64 W2)).setCell ⟨r + 1, 3, none⟩ (.slice A2 rs2.length C2) := ⟨_, rfl⟩
      rw [← hw8]
      have t1 := (Touch.refl (r + 1) (r + 1 + 1) w7).setCell (p := ⟨r + 1, 0, none⟩) (Nat.le_refl _) (Nat.lt_succ_self _) (.int .i64 U2)
      have t2 := t1.setCell (p := ⟨r + 1, 1, none⟩) (Nat.le_refl _) (Nat.lt_succ_self _) (.int .i64 L2)
      have t3 := t2.setCell (p := ⟨r + 1, 2, none⟩) (Nat.le_refl _) (Nat.lt_succ_self _) (.int .i64 W2)
      have t8 : Touch (r + 1) (r + 1 + 1) w7 w8 := by rw [hw8]; exact t3.setCell (p := ⟨r + 1, 3, none⟩) (Nat.le_refl _) (Nat.lt_succ_self _) (.slice A2 rs2.length C2)
      have b41 := bq7.set_ 0 (.int .i64 U2)
      have b42 := b41.set_ 1 (.int .i64 L2)
      have b43 := b42.set_ 2 (.int .i64 W2)
      have b44 := b43.set_ 3 (.slice A2 rs2.length C2)
      have bq8 : Bx w8 (r + 1) 26 #[.int .i64 U2, .int .i64 L2, .int .i64 W2, .slice A2 rs2.length C2] := by rw [hw8]; exact b44
      have br8 := br7.touch t8 (by omega)
      have oa8 := (oa7.touch t8 (.inr (by omega))).rd
      have ob8 := (ob7.touch t8 (.inr (by omega))).rd
      have hb8 := hb7.trans (t8.below (by have := HR.out; omega) hb7.size)
      clear t1 t2 t3 b41 b42 b43 b44 hw8 c0 c1 c2 c3 f0 f1 f2 f3
      refine hK _ _ (.inl rfl) ?_
      try simp only [Act.put, List.setIfInBounds_toArray]
      clear hK K
      refine wpAnyM_done (by kernel_rfl) ?_ _
      have r0 := br8.at_ 0 rfl
      have r1 := br8.at_ 1 rfl
      have r2 := br8.at_ 2 rfl
      have r3 := br8.at_ 3 rfl
      have q0 := bq8.at_ 0 rfl
      have q1 := bq8.at_ 1 rfl
      have q2 := bq8.at_ 2 rfl
      have q3 := bq8.at_ 3 rfl
      go_wp2_with fail
      exact bodyPost_ret (v := .tuple #[.agg #[.int .i64 U, .int .i64 L, .int .i64 W, .slice A rs.length C], .agg #[.int .i64 U2, .int .i64 L2, .int .i64 W2, .slice A2 rs2.length C2]]) (by simp [results, Try.results24, go_sem, r0, r1, r2, r3, q0, q1, q2, q3]) rfl
        ⟨U, L, W, rs, A, C, U2, L2, W2, rs2, A2, C2, rfl, hD.out, hd2, oa8, ob8, hb8⟩
    | false =>
      go_wp2_with fail
      refine (pick_big g _ 100000 w5 sv5 (by omega) (by omega) (by omega)).mono ?_
      rintro e w4 ⟨z, rfl, z0, z1, hs4, ht⟩
      have hl4 := ht.size
      replace br := br.touch ht (by omega)
      replace bq := bq.touch ht (by omega)
      replace bB := bB.touch ht (by omega)
      replace ow := ow.touch ht (.inr (by omega))
      replace hbu := hbu.trans (ht.below (by have := HR.out; omega) hbu.size)
      clear ht sv5 hs4
      have HST := Lib.hid (l03Set_any B U L W A C rs z w4 (AbaAt.of_box bB) ow.rd HAB.out z0 (by omega))
      go_wp2_with fail
      refine HST.out.mono ?_
      rintro e w6 ⟨D, E, rfl, od, hb⟩
      have hl6 := hb.size
      replace br := br.below hb
      replace bq := bq.below hb
      replace bB := bB.below hb
      replace ow := ow.below hb
      replace hbu := hbu.trans (hb.mono hbu.size)
      have HPL := Lib.hid (setP_len U W rs.length z)
      have HDP := Lib.hid (HDP.out z)
      clear hb HST
      go_upto_region 5 with fail
      obtain ⟨P, hP⟩ : ∃ P, P = w6.heap.size := ⟨_, rfl⟩
      obtain ⟨w9, hw9⟩ : ∃ v, v = w6.alloc (.cells #[.int .i64 U, .int .i64 L, .int .i64 W, .slice D rs.length E] 26) := ⟨_, rfl⟩
      rw [← hw9, ← hP]
      have hb9 : Below w6.heap.size w6 w9 := by rw [hw9]; exact (Below.refl _ _).alloc (Nat.le_refl _) _
      have bP : Bx w9 P 26 #[.int .i64 U, .int .i64 L, .int .i64 W, .slice D rs.length E] := by rw [hw9, hP]; exact Bx.new _ _ _
      have hl9 := hb9.size
      replace br := br.below hb9
      replace bq := bq.below hb9
      replace bB := bB.below hb9
      have oa := ow.below hb9
      have ob := od.below hb9
      have hbe := hbu.trans (hb9.mono hbu.size)
      rw [← hP] at ob hl6
      clear hw9 hb9 hP hbu ow od
      have hPl := bP.lt
      have k0 : ∀ w', Touch r (r + 1) w9 w' → w'.cell? ⟨B, 0, none⟩ = some (.int .i64 U) := fun _ h => keptT h (bB.at_ 0 rfl) (by omega)
      have k1 : ∀ w', Touch r (r + 1) w9 w' → w'.cell? ⟨B, 1, none⟩ = some (.int .i64 L) := fun _ h => keptT h (bB.at_ 1 rfl) (by omega)
      have k2 : ∀ w', Touch r (r + 1) w9 w' → w'.cell? ⟨B, 2, none⟩ = some (.int .i64 W) := fun _ h => keptT h (bB.at_ 2 rfl) (by omega)
      have k3 : ∀ w', Touch r (r + 1) w9 w' → w'.cell? ⟨B, 3, none⟩ = some (.slice A rs.length C) := fun _ h => keptT h (bB.at_ 3 rfl) (by omega)
      have k4 : ∀ w', Touch r (r + 1) w9 w' → w'.cell? ⟨P, 0, none⟩ = some (.int .i64 U) := fun _ h => keptT h (bP.at_ 0 rfl) (by omega)
      have k5 : ∀ w', Touch r (r + 1) w9 w' → w'.cell? ⟨P, 1, none⟩ = some (.int .i64 L) := fun _ h => keptT h (bP.at_ 1 rfl) (by omega)
      have k6 : ∀ w', Touch r (r + 1) w9 w' → w'.cell? ⟨P, 2, none⟩ = some (.int .i64 W) := fun _ h => keptT h (bP.at_ 2 rfl) (by omega)
      have k7 : ∀ w', Touch r (r + 1) w9 w' → w'.cell? ⟨P, 3, none⟩ = some (.slice D rs.length E) := fun _ h => keptT h (bP.at_ 3 rfl) (by omega)
      refine wp_region_marked (fun w' => Touch r (r + 1) w9 w') 3 (by kernel_rfl) ?_
      have hS : Touch r (r + 1) w9 w9.drew := ⟨rfl, rfl, rfl, Nat.le_refl _, fun _ _ _ => rfl⟩
      refine wpAnyM_take (i := 0) (v := ?_) rfl (by kernel_rfl) (by kernel_rfl) (by kernel_rfl) (by kernel_rfl) (by kernel_rfl) (fun _ _ _ h => h) hS (.inl ⟨by rfl, ?_⟩) ?_
      rotate_left 1
      · intro w' hS'; go_simp; try with_reducible rfl
      simp only [Act.put, List.setIfInBounds_toArray]
      refine wpAnyM_take (i := 1) (v := ?_) rfl (by kernel_rfl) (by kernel_rfl) (by kernel_rfl) (by kernel_rfl) (by kernel_rfl) (fun _ _ _ h => h) hS (.inl ⟨by rfl, ?_⟩) ?_
      rotate_left 1
      · intro w' hS'; go_simp; try with_reducible rfl
      simp only [Act.put]
      clear k0 k1 k2 k3 k4 k5 k6 k7 bB bP hS
      have c0 := br.at_ 0 rfl
      have c1 := br.at_ 1 rfl
      have c2 := br.at_ 2 rfl
      have c3 := br.at_ 3 rfl
      have f0 := br.thaw 0
      have f1 := br.thaw 1
      have f2 := br.thaw 2
      have f3 := br.thaw 3
      refine wpAnyM_one (i := 2) (by kernel_rfl) rfl (by rfl) (fun K hK => ?_)
      go_simp
      obtain ⟨w7, hw7⟩ : ∃ v, v = World.drew ((((w9.setCell ⟨r, 0, none⟩ (.int .i64 U)).setCell ⟨r, 1, none⟩ (.int .i64 L)).setCell ⟨r, 2, none⟩ (.int .i64 W)).setCell ⟨r, 3, none⟩ (.slice A rs.length C)) := ⟨_, rfl⟩
      rw [← hw7]
      have t1 := (Touch.refl r (r + 1) w9).setCell (p := ⟨r, 0, none⟩) (Nat.le_refl _) (Nat.lt_succ_self _) (.int .i64 U)
      have t2 := t1.setCell (p := ⟨r, 1, none⟩) (Nat.le_refl _) (Nat.lt_succ_self _) (.int .i64 L)
      have t3 := t2.setCell (p := ⟨r, 2, none⟩) (Nat.le_refl _) (Nat.lt_succ_self _) (.int .i64 W)
      have t4 := t3.setCell (p := ⟨r, 3, none⟩) (Nat.le_refl _) (Nat.lt_succ_self _) (.slice A rs.length C)
      have tt : Touch r (r + 1) w9 w7 := by rw [hw7]; exact t4.drewN 1
      have b41 := br.set_ 0 (.int .i64 U)
      have b42 := b41.set_ 1 (.int .i64 L)
      have b43 := b42.set_ 2 (.int .i64 W)
      have b44 := b43.set_ 3 (.slice A rs.length C)
      have br7 : Bx w7 r 26 #[.int .i64 U, .int .i64 L, .int .i64 W, .slice A rs.length C] := by rw [hw7]; exact b44.drew
      have hl7 := tt.size
      have bq7 := bq.touch tt (by omega)
      have oa7 := oa.touch tt (.inr (by omega))
      have ob7 := ob.touch tt (.inr (by omega))
      have hb7 := hbe.trans (tt.below (by have := HR.out; omega) hbe.size)
      clear t1 t2 t3 t4 b41 b42 b43 b44 hw7 c0 c1 c2 c3 f0 f1 f2 f3 br bq oa ob hbe
      refine hK _ _ (.inr tt) ?_
      try simp only [Act.put, List.setIfInBounds_toArray]
      clear hK K
      have c0 := bq7.at_ 0 rfl
      have c1 := bq7.at_ 1 rfl
      have c2 := bq7.at_ 2 rfl
      have c3 := bq7.at_ 3 rfl
      have f0 := bq7.thaw 0
      have f1 := bq7.thaw 1
      have f2 := bq7.thaw 2
      have f3 := bq7.thaw 3
      refine wpAnyM_one (i := 3) (by kernel_rfl) rfl (by rfl) (fun K hK => ?_)
      go_simp
      obtain ⟨w8, hw8⟩ : ∃ v, v = (((w7.setCell ⟨r + 1, 0, none⟩ (.int .i64 U)).setCell ⟨r + 1, 1, none⟩ (.int .i64 L)).setCell ⟨r + 1, 2, none⟩ (.int .i64 W)).setCell ⟨r + 1, 3, none⟩ (.slice D rs.length E) := ⟨_, rfl⟩
      rw [← hw8]
      have t1 := (Touch.refl (r + 1) (r + 1 + 1) w7).setCell (p := ⟨r + 1, 0, none⟩) (Nat.le_refl _) (Nat.lt_succ_self _) (.int .i64 U)
      have t2 := t1.setCell (p := ⟨r + 1, 1, none⟩) (Nat.le_refl _) (Nat.lt_succ_self _) (.int .i64 L)
      have t3 := t2.setCell (p := ⟨r + 1, 2, none⟩) (Nat.le_refl _) (Nat.lt_succ_self _) (.int .i64 W)
      have t8 : Touch (r + 1) (r + 1 + 1) w7 w8 := by rw [hw8]; exact t3.setCell (p := ⟨r + 1, 3, none⟩) (Nat.le_refl _) (Nat.lt_succ_self _) (.slice D rs.length E)
      have b41 := bq7.set_ 0 (.int .i64 U)
      have b42 := b41.set_ 1 (.int .i64 L)
      have b43 := b42.set_ 2 (.int .i64 W)
      have b44 := b43.set_ 3 (.slice D rs.length E)
      have bq8 : Bx w8 (r + 1) 26 #[.int .i64 U, .int .i64 L, .int .i64 W, .slice D rs.length E] := by rw [hw8]; exact b44
      have br8 := br7.touch t8 (by omega)
      have oa8 := (oa7.touch t8 (.inr (by omega))).rd
      have ob8 := (ob7.touch t8 (.inr (by omega))).rd
      have hb8 := hb7.trans (t8.below (by have := HR.out; omega) hb7.size)
      clear t1 t2 t3 b41 b42 b43 b44 hw8 c0 c1 c2 c3 f0 f1 f2 f3
      refine hK _ _ (.inl rfl) ?_
      try simp only [Act.put, List.setIfInBounds_toArray]
      clear hK K
      refine wpAnyM_done (by kernel_rfl) ?_ _
      have r0 := br8.at_ 0 rfl
      have r1 := br8.at_ 1 rfl
      have r2 := br8.at_ 2 rfl
      have r3 := br8.at_ 3 rfl
      have q0 := bq8.at_ 0 rfl
      have q1 := bq8.at_ 1 rfl
      have q2 := bq8.at_ 2 rfl
      have q3 := bq8.at_ 3 rfl
      go_wp2_with fail
      exact bodyPost_ret (v := .tuple #[.agg #[.int .i64 U, .int .i64 L, .int .i64 W, .slice A rs.length C], .agg #[.int .i64 U, .int .i64 L, .int .i64 W, .slice D rs.length E]]) (by simp [results, Try.results24, go_sem, r0, r1, r2, r3, q0, q1, q2, q3]) rfl
        ⟨U, L, W, rs, A, C, U, L, W, setP U W rs.length z, D, E, by rw [HPL.out], hD.out, HDP.out, oa8, ob8, hb8⟩
end Go.Proofs.Ytcfpfhlgcfmioaa

/- OrdC -/
namespace Go.Proofs.Ytcfpfhlgcfmioaa
open Go

section
variable {P : Program} {ops : Array Oper} {Q : Exit → Act → World → Prop} {md : Region.Mode} {S : World → Prop} {m : Nat}

/-- What is listed waits for nothing that is not. -/
def Shut (md : Region.Mode) (ops : Array Oper) (listed : Array Bool) : Prop := ∀ (k : Nat) (o : Oper), ops[k]? = some o → listed.getD k false = true → ∀ e ∈ o.after, Region.binds md e = true → listed.getD e.on false = true
def shutB (md : Region.Mode) (ops : Array Oper) (listed : Array Bool) : Bool :=
  (List.range ops.size).all fun k => match ops[k]? with
    | some o => !(listed.getD k false) || o.after.all fun e => !(Region.binds md e) || listed.getD e.on false
    | none => true
theorem shutB_spec {listed : Array Bool} (h : shutB md ops listed = true) : Shut md ops listed := by
  intro k o ho hl e he hb
  unfold shutB at h
  rw [List.all_eq_true] at h
  have hk : k < ops.size := by
    rcases Nat.lt_or_ge k ops.size with h' | h'
    · exact h'
    · rw [Array.getElem?_eq_none h'] at ho; cases ho
  have := h k (List.mem_range.2 hk)
  rw [ho] at this
  dsimp only at this
  rw [hl, Bool.not_true, Bool.false_or, ← Array.all_toList, List.all_eq_true] at this
  have := this e (by simpa using he)
  rwa [hb, Bool.not_true, Bool.false_or] at this
theorem Shut.ready {listed : Array Bool} (h : Shut md ops listed) {j : Nat} (hj : j ∈ Region.ready md ops listed) : Shut md ops (listed.setIfInBounds j true) := by
  obtain ⟨_, oj, hoj, hall⟩ := mem_ready.1 hj
  have up : ∀ k, listed.getD k false = true → (listed.setIfInBounds j true).getD k false = true := by
    intro k hk
    by_cases hjk : j = k
    · subst hjk
      rcases Nat.lt_or_ge j listed.size with h' | h'
      · simp [h']
      · simp [Array.getElem?_eq_none h'] at hk
    · rw [getD_set_ne false hjk]; exact hk
  intro k o ho hl e he hb
  by_cases hjk : j = k
  · subst hjk
    rw [hoj] at ho
    obtain rfl : oj = o := by injection ho
    exact up _ (hall e he hb)
  · rw [getD_set_ne false hjk] at hl
    exact up _ (h k o ho hl e he hb)

/-- Does number m wait for number i, maybe by way of others (n steps at most)? -/
def awaits (md : Region.Mode) (ops : Array Oper) : Nat → Nat → Nat → Bool
  | 0, _, _ => false
  | n + 1, m, i => match ops[m]? with
    | some o => o.after.any fun e => Region.binds md e && (e.on == i || awaits md ops n e.on i)
    | none => false
theorem awaits_spec {i : Nat} {listed : Array Bool} (h : Shut md ops listed) : ∀ (n m : Nat), awaits md ops n m i = true → (∀ o, ops[m]? = some o → ∀ e ∈ o.after, Region.binds md e = true → listed.getD e.on false = true) → listed.getD i false = true
  | 0, _, h0, _ => by simp [awaits] at h0
  | n + 1, m, h0, hm => by
    unfold awaits at h0
    cases ho : ops[m]? with
    | none => rw [ho] at h0; cases h0
    | some o =>
      rw [ho] at h0
      dsimp only at h0
      rw [← Array.any_toList, List.any_eq_true] at h0
      obtain ⟨e, he, h1⟩ := h0
      rw [Bool.and_eq_true, Bool.or_eq_true, beq_iff_eq] at h1
      have hl := hm o ho e (by simpa using he) h1.1
      rcases h1.2 with h2 | h2
      · rw [← h2]; exact hl
      · exact awaits_spec h n e.on h2 fun o' ho' e' he' hb' => h e.on o' ho' hl e' he' hb'

theorem wpAnyM_firstC {i : Nat} {oi : Oper} {v : Value} (hi : ops[i]? = some oi) (hsel : ∀ (j : Nat) (o : Oper) cs b, ops[j]? = some o → o.op ≠ .select cs b)
    (hQ : ∀ c a w, Q (.panic c) (a.put oi.dst v) w → Q (.panic c) a w) (hwait : ∀ listed, Shut md ops listed → listed.getD i false = false → m ∉ Region.ready md ops listed) :
    ∀ (fuel : Nat) (listed : Array Bool) (a : Act) (w : World), Shut md ops listed →
      (∀ j oj, ops[j]? = some oj → j ≠ i → listed.getD j true = false → (∀ e ∈ oj.after, Region.binds md e = true → e.on ≠ i) → oi.apart ops oj = true) →
      i ∈ Region.ready md ops listed → listed.getD m true = false → YieldsIf P ops S oi v a → S w →
      wpAnyM P md ops Q S m fuel (listed.setIfInBounds i true) (a.put oi.dst v) w → wpAnyM P md ops Q S m (fuel + 1) listed a w := by
  intro fuel
  induction fuel with
  | zero =>
    intro listed a w _ _ hr _ hy hS H
    refine ⟨fun h => (by rw [h] at hr; cases hr), fun j hj => ?_⟩
    by_cases hji : j = i
    · subst hji; exact hy.wpOp hi hS ⟨.inr hS, H⟩
    · have := ready_mono hj hji
      rw [H.1] at this
      cases this
  | succ fuel ih =>
    intro listed a w hsh hfree hr hmu hy hS H
    refine ⟨fun h => (by rw [h] at hr; cases hr), fun j hj => ?_⟩
    by_cases hji : j = i
    · subst hji; exact hy.wpOp hi hS ⟨.inr hS, H⟩
    · have h1 := H.2 j (ready_mono hj hji)
      obtain ⟨hjun, oj, hoj, hall⟩ := mem_ready.1 hj
      have iun' : listed.getD i true = false := (mem_ready.1 hr).1
      have iun : listed.getD i false = false := by
        rcases Nat.lt_or_ge i listed.size with h' | h'
        · simp [h'] at iun' ⊢; exact iun'
        · simp [Array.getElem?_eq_none h']
      have hjm : j ≠ m := by rintro rfl; exact hwait listed hsh iun hj
      have him : i ≠ m := by rintro rfl; exact hwait listed hsh iun hr
      have hnot : ∀ e ∈ oj.after, Region.binds md e = true → e.on ≠ i := fun e he hb heq => by
        have h1 := hall e he hb
        rw [heq, iun] at h1
        cases h1
      have h2 := wpOp_putIf hoj (hfree j oj hoj hji hjun hnot) (fun cs b => hsel i oi cs b hi) (fun cs b => hsel j oj cs b hoj) hQ hy h1
      have hfree' : ∀ k ok, ops[k]? = some ok → k ≠ i → (listed.setIfInBounds j true).getD k true = false →
          (∀ e ∈ ok.after, Region.binds md e = true → e.on ≠ i) → oi.apart ops ok = true := fun k ok hk hki hun hno => by
        refine hfree k ok hk hki ?_ hno
        by_cases hjk : j = k
        · subst hjk; exact hjun
        · rw [getD_set_ne true hjk] at hun; exact hun
      have hmj : (listed.setIfInBounds j true).getD m true = false := by rw [getD_set_ne true hjm]; exact hmu
      have hmi : ((listed.setIfInBounds i true).setIfInBounds j true).getD m true = false := by
        rw [getD_set_ne true hjm, getD_set_ne true him]; exact hmu
      refine wpOp_mono (fun a' w' h3 => ?_) h2
      obtain ⟨h4, h5, h6⟩ := h3
      have hS' : S w' := by
        rcases h5 with h5 | h5
        · rw [hmi] at h5; cases h5
        · exact h5
      refine ⟨.inr hS', ih (listed.setIfInBounds j true) a' w' (hsh.ready hj) hfree' (ready_mono hr (Ne.symm hji)) hmj h4 hS' ?_⟩
      rw [Array.setIfInBounds_comm _ _ hji]
      exact h6

/-- Number i is taken first. -/
theorem wpAnyM_takeC {i : Nat} {oi : Oper} {v : Value} {fuel : Nat} {listed : Array Bool} {a : Act} {w : World} (n : Nat) (hi : ops[i]? = some oi)
    (hs : Region.noSelect ops = true) (hf : Region.free md ops listed i = true) (hr : (Region.ready md ops listed).contains i = true) (hwm : awaits md ops n m i = true) (hsh : shutB md ops listed = true) (hm : listed.getD m true = false)
    (hQ : ∀ c a w, Q (.panic c) (a.put oi.dst v) w → Q (.panic c) a w) (hS : S w) (hy : YieldsIf P ops S oi v a)
    (h : wpAnyM P md ops Q S m fuel (listed.setIfInBounds i true) (a.put oi.dst v) w) : wpAnyM P md ops Q S m (fuel + 1) listed a w :=
  wpAnyM_firstC hi (Region.noSelect_spec hs) hQ (fun _ hsh' hun hmr => by
    obtain ⟨_, om, hom, hall⟩ := mem_ready.1 hmr
    have := awaits_spec hsh' n m hwm (fun o ho e he hb => by
      rw [hom] at ho
      obtain rfl : om = o := by injection ho
      exact hall e he hb)
    rw [hun] at this; cases this) fuel listed a w (shutB_spec hsh) (Region.free_spec hi hf) (by simpa using hr) hm hy hS h
end
end Go.Proofs.Ytcfpfhlgcfmioaa

/- DrawV -/
namespace Go.Proofs.Ytcfpfhlgcfmioaa
open Go.RowKit

theorem info_MoveV : (Try.prog.info? 37).map (fun i => (i.zero, i.size, i.bytes)) = some (some (.agg #[.int .i64 0, .int .i64 0, .int .i64 0]), 3, 24) := by kernel_rfl
/-- What stands while DrawReplayBeads goes on: the result's box r, the source g, the abacus in box B. -/
structure Dr (w : World) (r g m B : Nat) (U L W : Int) (rs : List (Int × Int)) (A : Option Addr) (C K : Nat) (X : World) : Prop where
  br : Bx X r 26 #[.int .i64 0, .int .i64 0, .int .i64 0, .slice none 0 0]
  bB : Bx X B 26 #[.int .i64 U, .int .i64 L, .int .i64 W, .slice A rs.length C]
  ow : OwnF pairF 102 X m B (.slice A rs.length C) rs
  src : Src X g K
  bel : Below w.heap.size w X
  wr : w.heap.size ≤ r
  rg : r < g
  gm : g < m
  mB : m ≤ B
  d : BentD U L W rs
section
variable {w X Y : World} {r g m B : Nat} {U L W : Int} {rs : List (Int × Int)} {A : Option Addr} {C K K' : Nat}
theorem Dr.lt (h : Dr w r g m B U L W rs A C K X) : B < X.heap.size := h.bB.lt
theorem Dr.touch (h : Dr w r g m B U L W rs A C K X) (ht : Touch g (g + 1) X Y) (hs : Src Y g K') : Dr w r g m B U L W rs A C K' Y := by
  have h1 := h.rg; have h2 := h.gm; have h3 := h.mB; have h4 := h.wr
  exact ⟨h.br.touch ht (by omega), h.bB.touch ht (by omega), h.ow.touch ht (.inr (by omega)), hs, h.bel.trans (ht.below (by omega) h.bel.size), h.wr, h.rg, h.gm, h.mB, h.d⟩
theorem Dr.far {l k : Nat} (h : Dr w r g m B U L W rs A C K X) (ht : Touch l k X Y) (hl : B < l) : Dr w r g m B U L W rs A C K Y := by
  have h1 := h.rg; have h2 := h.gm; have h3 := h.mB; have h4 := h.wr
  exact ⟨h.br.touch ht (by omega), h.bB.touch ht (by omega), h.ow.touch ht (.inl (by omega)), h.src.touch ht (by omega), h.bel.trans (ht.below (by omega) h.bel.size), h.wr, h.rg, h.gm, h.mB, h.d⟩
theorem Dr.lo {M : Nat} (h : Dr w r g m B U L W rs A C K X) (hb : Below M X Y) (hM : B < M) : Dr w r g m B U L W rs A C K Y := by
  have h1 := h.rg; have h2 := h.gm; have h3 := h.mB; have h4 := h.wr
  exact ⟨h.br.lo hb (by omega), h.bB.lo hb hM, h.ow.low hb (by omega), h.src.lo hb (by omega), h.bel.trans (hb.mono (by omega)), h.wr, h.rg, h.gm, h.mB, h.d⟩
theorem Dr.drew (h : Dr w r g m B U L W rs A C K X) : Dr w r g m B U L W rs A C K X.drew := h.lo (M := B + 1) (Below.refl _ _).drew (Nat.lt_succ_self _)
end
/-- The four cells of a box of an abacus are written. -/
theorem bx_put4 {X : World} {G : Nat} {t : TypeId} {a b c d a' b' c' d' : Value} (h : Bx X G t #[a, b, c, d]) :
    Bx ((((X.setCell ⟨G, 0, none⟩ a').setCell ⟨G, 1, none⟩ b').setCell ⟨G, 2, none⟩ c').setCell ⟨G, 3, none⟩ d') G t #[a', b', c', d'] ∧
    Touch G (G + 1) X ((((X.setCell ⟨G, 0, none⟩ a').setCell ⟨G, 1, none⟩ b').setCell ⟨G, 2, none⟩ c').setCell ⟨G, 3, none⟩ d') := by
  have h1 := (((h.set_ 0 a').set_ 1 b').set_ 2 c').set_ 3 d'
  refine ⟨by simpa using h1, ?_⟩
  exact ((((Touch.refl G (G + 1) X).setCell (p := ⟨G, 0, none⟩) (Nat.le_refl _) (Nat.lt_succ_self _) a').setCell (p := ⟨G, 1, none⟩) (Nat.le_refl _) (Nat.lt_succ_self _) b').setCell (p := ⟨G, 2, none⟩) (Nat.le_refl _) (Nat.lt_succ_self _) c').setCell (p := ⟨G, 3, none⟩) (Nat.le_refl _) (Nat.lt_succ_self _) d'
theorem trip_new (w : World) (x y z : Int) : OwnF tripF 37 (w.alloc (.cells #[.int .i64 x, .int .i64 y, .int .i64 z] 37)) w.heap.size (w.heap.size + 1) (.slice (some ⟨w.heap.size, 0, none⟩) 1 1) [(x, y, z)] :=
  ownF_row (n := 1) (row_new 37 3 w #[.int .i64 x, .int .i64 y, .int .i64 z] 1 (by simp) (by omega)) rfl (by simp)

set_option maxRecDepth 100000 in
set_option maxHeartbeats 16000000 in
theorem drawReplay_any (a : Option Addr) (zs : List Int) (c : Nat) (w : World) (h : RdU w a zs) :
    Calls Try.prog 18 #[.slice a zs.length c] w fun e w' => ∃ (U L W : Int) (rs : List (Int × Int)) (A : Option Addr) (C : Nat) (ms : List (Int × Int × Int)) (D : Option Addr) (E : Nat),
      e = .returned (.tuple #[.agg #[.int .i64 U, .int .i64 L, .int .i64 W, .slice A (List.length rs) C], .slice D (List.length ms) E]) ∧ BentD U L W rs ∧ All3 ms ∧ RdF pairF w' A rs ∧ RdF tripF w' D ms ∧ Below w.heap.size w w' := by
  obtain ⟨r, hr⟩ : ∃ r, r = w.heap.size := ⟨_, rfl⟩
  obtain ⟨u, hu⟩ : ∃ u, u = w.alloc (.cells #[.int .i64 0, .int .i64 0, .int .i64 0, .slice none 0 0] 26) := ⟨_, rfl⟩
  have br : Bx u r 26 #[.int .i64 0, .int .i64 0, .int .i64 0, .slice none 0 0] := by rw [hu, hr]; exact Bx.new _ _ _
  have hbu : Below w.heap.size w u := by rw [hu]; exact (by repeat (first | exact Below.refl _ _ | refine Below.setCell ?_ (by first | omega | (simp <;> omega)) _ | refine Below.alloc ?_ (by first | omega | (simp <;> omega)) _ | refine Below.drew ?_))
  have hsu : u.heap.size = r + 1 := by rw [hu, hr]; simp
  have HU := Lib.hid hu
  have HR := Lib.hid hr
  clear hu
  go_enter Try.func18, Try.ntmps18
  go_wp2_with fail
  rw [← HU.out, ← hr]
  clear hr
  refine (from_any a zs c u (h.below hbu)).mono ?_
  rintro e w1 ⟨g, rfl, hg, hs, hb1⟩
  have hl := hb1.size
  replace br := br.below hb1
  replace hbu := hbu.trans (hb1.mono hbu.size)
  clear hb1
  go_wp2_with fail
  refine (bentAba_any g _ w1 hs (by omega)).mono ?_
  rintro e w2 ⟨U, L, W, rs, A, C, rfl, hd, ow, ht, hs2⟩
  have hl2 := ht.size
  replace br := br.touch ht (by omega)
  replace hbu : Below w.heap.size w w2 := hbu.trans (ht.below (by have := HR.out; omega) (by have := hbu.size; omega))
  have hgl1 := hs.lt
  clear ht hs
  go_upto_region 3 with fail
  obtain ⟨B, hB⟩ : ∃ B, B = w2.heap.size := ⟨_, rfl⟩
  obtain ⟨v, hv⟩ : ∃ v, v = w2.alloc (.cells #[.int .i64 U, .int .i64 L, .int .i64 W, .slice A rs.length C] 26) := ⟨_, rfl⟩
  rw [← hv, ← hB]
  have hbv : Below w2.heap.size w2 v := by rw [hv]; exact (by repeat (first | exact Below.refl _ _ | refine Below.setCell ?_ (by first | omega | (simp <;> omega)) _ | refine Below.alloc ?_ (by first | omega | (simp <;> omega)) _ | refine Below.drew ?_))
  have dr : Dr w r g w1.heap.size B U L W rs A C 80 v := by
    have hgl := hs2.lt
    refine ⟨br.below hbv, by rw [hv, hB]; exact Bx.new _ _ _, ?_, hs2.lo hbv hgl, hbu.trans (hbv.mono hbu.size), by have := HR.out; omega, by omega, hgl1, by omega, hd⟩
    rw [hB]; exact ow.below hbv
  obtain ⟨m, hm⟩ : ∃ m, m = w1.heap.size := ⟨_, rfl⟩
  rw [← hm] at dr
  clear hv hbv hs2 hB hl2 hgl1 hg hsu hl br hbu ow hd hm h
  have hrB : r < B := by have := dr.rg; have := dr.gm; have := dr.mB; omega
  have hgB : g < B := by have := dr.gm; have := dr.mB; omega
  have hBv := dr.lt
  go_wp2_with fail
  refine (one_any g _ 2 v dr.src (by omega) (by omega)).mono ?_
  rintro e v1 ⟨zb, rfl, hs, ht⟩
  replace dr := dr.touch ht hs
  have hBv := dr.lt
  clear hs ht
  cases zb with
  | false =>
    go_wp2_with fail
    obtain ⟨P, hP⟩ : ∃ P, P = v1.heap.size := ⟨_, rfl⟩
    obtain ⟨x0, hx0⟩ : ∃ v, v = v1.alloc (.cells #[] 37) := ⟨_, rfl⟩
    have ow0 : OwnF tripF 37 x0 P (P + 1) (.slice (some ⟨P, 0, none⟩) 0 0) [] := by rw [hx0, hP]; exact ownF_row (n := 0) (row_new 37 3 v1 #[] 0 (by simp) (by omega)) rfl (by simp)
    have gr0 : GrowF tripF 37 P x0 (some ⟨P, 0, none⟩) 0 [] := .inr ⟨_, rfl, Nat.le_refl _, ow0⟩
    rw [← hx0, ← hP]
    have hPx : P < x0.heap.size := by rw [hx0, hP]; simp
    have hBP : B < P := by omega
    replace dr : Dr w r g m B U L W rs A C _ x0 := dr.lo (M := P) (by rw [hx0]; exact (Below.refl _ _).alloc (by omega) _) hBP
    clear hx0 hP ow0
    refine (pick_any g _ 6 x0 dr.src (by omega) (by omega)).mono ?_
    rintro e x1 ⟨kz, rfl, z0, z1, hs, ht⟩
    replace z1 : kz ≤ 5 := by omega
    obtain ⟨j0, hj0⟩ : ∃ j : Nat, kz = j := ⟨kz.toNat, by omega⟩
    subst hj0
    replace gr0 := gr0.same fun k o h1 h2 _ => ht.block k (Array.getElem?_eq_some_iff.1 h2).1 (.inr (by omega))
    replace dr := dr.touch ht hs
    have hsz1 := ht.size
    clear hs ht
    go_wp2_with fail
    go_loopw [9, 10] (fun o i wr => ∃ (j : Nat) (ms : List (Int × Int × Int)) (D : Option Addr) (E K' : Nat), j ≤ 5 ∧ ms.length + j ≤ 5 ∧ K' + 20 * j ≤ 300 ∧ i = .int .i64 (j : Nat) ∧ o = .slice D ms.length E ∧ All3 ms ∧ GrowF tripF 37 P wr D E ms ∧ P < wr.heap.size ∧ Dr w r g m B U L W rs A C K' wr) (fun _ i _ => (intOf i).toNat)
    case atStart =>
      refine ⟨j0, [], _, _, _, by omega, by simp; omega, ?_, rfl, rfl, (by intro x hx; cases hx), gr0, by omega, dr⟩
      omega
    case round =>
      obtain ⟨j, ms, D, E, K', hj, hjm, hK, hi, ho, hall, gr, hsz, dr'⟩ := hrel
      subst hi ho
      clear gr0 dr
      have dr := dr'
      clear dr'
      cases j with
      | zero =>
        have om := gr.own (by omega)
        have c0 := dr.bB.at_ 0 rfl
        have c1 := dr.bB.at_ 1 rfl
        have c2 := dr.bB.at_ 2 rfl
        have c3 := dr.bB.at_ 3 rfl
        have d0 := dr.br.at_ 0 rfl
        have d1 := dr.br.at_ 1 rfl
        have d2 := dr.br.at_ 2 rfl
        have d3 := dr.br.at_ 3 rfl
        have f0 := dr.br.thaw 0
        have f1 := dr.br.thaw 1
        have f2 := dr.br.thaw 2
        have f3 := dr.br.thaw 3
        obtain ⟨bz, tz⟩ := bx_put4 (a' := .int .i64 U) (b' := .int .i64 L) (c' := .int .i64 W) (d' := .slice A rs.length C) dr.br
        have q0 := bz.at_ 0 rfl
        have q1 := bz.at_ 1 rfl
        have q2 := bz.at_ 2 rfl
        have q3 := bz.at_ 3 rfl
        have oa := (dr.ow.touch tz (.inr (by have := dr.rg; have := dr.gm; omega))).rd
        have ob := (om.touch tz (.inr (by omega))).rd
        have hbz := dr.bel.trans (tz.below dr.wr dr.bel.size)
        go_wp2_with fail
        exact bodyPost_ret (v := .tuple #[.agg #[.int .i64 U, .int .i64 L, .int .i64 W, .slice A rs.length C], .slice D ms.length E]) (by simp [results, Try.results18, go_sem, q0, q1, q2, q3]) rfl
          ⟨U, L, W, rs, A, C, ms, D, E, rfl, dr.d, hall, oa, ob, hbz⟩
      | succ j =>
        have hpos : (0 : Int) < ((j + 1 : Nat) : Int) := by omega
        have hv1 : IntKind.i64.wrap (((j + 1 : Nat) : Int) - 1) = (j : Int) := by rw [show ((j + 1 : Nat) : Int) - 1 = (j : Int) by omega]; exact fits_int _ (by omega) (by omega)
        go_wp2_with fail
        refine (drawMove_any g K' _ dr.src (by omega)).mono ?_
        rintro e x2 ⟨x, y, z, rfl, hxyz, ht, hs⟩
        have hsz2 := ht.size
        replace gr := gr.same fun k o h1 h2 _ => ht.block k (Array.getElem?_eq_some_iff.1 h2).1 (.inr (by omega))
        replace dr := dr.touch ht hs
        clear hs ht
        go_wp2_with (at_builtin; go_must (refine wpList_appGrow tripF rfl (.tmp 36) (.tmp 39) 29 37 rfl (.agg #[.int .i64 0, .int .i64 0, .int .i64 0]) 24 Try.underlying29 info_MoveV rfl (by omega) rfl (gr.same fun k o _ h2 _ => Below.heap_alloc _ _ _ (Array.getElem?_eq_some_iff.1 h2).1) (by simp; omega) rfl (trip_new x2 x y z) (by omega) ?_); intro D' E' x3 gr3 hg3)
        have hg4 : Below P x2 x3 := ((Below.refl _ _).alloc (by omega) _).trans hg3.1
        replace dr := dr.lo hg4 hBP
        go_roundw
        case rel => exact ⟨j, ms ++ [(x, y, z)], D', E', _, by omega, by simp; omega, by omega, by go_num, by simp, by intro q hq; rcases List.mem_append.1 hq with h1 | h1; exact hall q h1; rw [List.mem_singleton] at h1; subst h1; exact hxyz, gr3, by have := hg4.size; omega, dr⟩
        case measure => (simp [intOf]) <;> omega
  | true =>
    go_upto_region 4 with fail
    have hkeep := dr
    go_cut [6, 7, 8] from 11 (fun s6 s7 s8 wx => ∃ (ms : List (Int × Int × Int)) (D : Option Addr) (E M : Nat) (rc : Int), s7 = .slice D ms.length E ∧ s8 = .int .i64 rc ∧ (rc = 0 → All3 ms) ∧ OwnF tripF 37 wx M wx.heap.size (.slice D ms.length E) ms ∧ B < M ∧ Dr w r g m B U L W rs A C 84 wx)
    case first =>
      have k0 : ∀ w', Bx w' B 26 #[.int .i64 U, .int .i64 L, .int .i64 W, .slice A rs.length C] → w'.cell? ⟨B, 0, none⟩ = some (.int .i64 U) := fun w' h => h.at_ 0 rfl
      have k1 : ∀ w', Bx w' B 26 #[.int .i64 U, .int .i64 L, .int .i64 W, .slice A rs.length C] → w'.cell? ⟨B, 1, none⟩ = some (.int .i64 L) := fun w' h => h.at_ 1 rfl
      have k2 : ∀ w', Bx w' B 26 #[.int .i64 U, .int .i64 L, .int .i64 W, .slice A rs.length C] → w'.cell? ⟨B, 2, none⟩ = some (.int .i64 W) := fun w' h => h.at_ 2 rfl
      have k3 : ∀ w', Bx w' B 26 #[.int .i64 U, .int .i64 L, .int .i64 W, .slice A rs.length C] → w'.cell? ⟨B, 3, none⟩ = some (.slice A rs.length C) := fun w' h => h.at_ 3 rfl
      refine wp_region_marked (fun w' => Bx w' B 26 #[.int .i64 U, .int .i64 L, .int .i64 W, .slice A rs.length C]) 11 (by kernel_rfl) ?_
      have hS : Bx v1.drew B 26 #[.int .i64 U, .int .i64 L, .int .i64 W, .slice A rs.length C] := dr.bB.drew
      refine wpAnyM_takeC (i := 0) (v := ?_) 20 rfl (by kernel_rfl) (by kernel_rfl) (by kernel_rfl) (by kernel_rfl) (by kernel_rfl) (by kernel_rfl) (fun _ _ _ h => h) hS (.inl ⟨by rfl, ?_⟩) ?_
      rotate_left 1
      · intro w' hS'; go_simp; try with_reducible rfl
      simp only [Act.put, List.setIfInBounds_toArray]
      refine wpAnyM_takeC (i := 1) (v := ?_) 20 rfl (by kernel_rfl) (by kernel_rfl) (by kernel_rfl) (by kernel_rfl) (by kernel_rfl) (by kernel_rfl) (fun _ _ _ h => h) hS (.inl ⟨by rfl, ?_⟩) ?_
      rotate_left 1
      · intro w' hS'; go_simp; try with_reducible rfl
      simp only [Act.put]
      clear k0 k1 k2 k3
      replace dr := dr.drew
      have hV : B < v1.drew.heap.size := dr.lt
      clear hkeep hBv hS
      refine wpAnyM_two (i := 2) (j := 8) (by kernel_rfl) rfl rfl (by rfl) (by rfl) (fun K hK => ?_) (fun K hK => ?_)
      · skip
        go_simp
        refine (pick_big g _ 900 v1.drew dr.src (by omega) (by omega) (by omega)).mono ?_
        rintro e x1 ⟨z, rfl, z0, z1, hs, ht⟩
        replace dr := dr.touch ht hs
        have hdlt := dr.lt
        clear hs ht
        refine hK _ _ (.inr dr.bB) ?_
        try simp only [Act.put, List.setIfInBounds_toArray]
        clear hK K
        refine wpAnyM_two (i := 3) (j := 8) (by kernel_rfl) rfl rfl (by rfl) (by rfl) (fun K hK => ?_) (fun K hK => ?_)
        · skip
          go_simp
          obtain ⟨⟨RU, RL, RW, Rr, Rm, Rc⟩, hR⟩ : ∃ R, R = addAR U L W rs z := ⟨_, rfl⟩
          refine (specAddOnAbacus U L W A C rs z x1 dr.ow.rd dr.d.u dr.d.l dr.d.w dr.d.all (i64_of (by omega) (by omega))).mono ?_
          rintro e x2 ⟨A2, C2, D2, E2, M, he, o1, om, hM1, hM2, hb⟩
          rw [← hR] at he om
          replace he : e = .returned (.tuple #[.agg #[.int .i64 RU, .int .i64 RL, .int .i64 RW, .slice A2 Rr.length C2], .slice D2 Rm.length E2, .int .i64 Rc]) := he
          replace om : OwnF tripF 37 x2 M x2.heap.size (.slice D2 Rm.length E2) Rm := om
          have hall : Rc = 0 → All3 Rm := by intro h0; subst h0; exact (addAR_done hR.symm).2.2.2.2
          have HA := Lib.hid hall
          subst he
          have hdl := dr.lt
          replace dr := dr.lo hb dr.lt
          have hdlt := dr.lt
          have hBM : B < M := by omega
          clear hR o1 hb hall
          refine hK _ _ (.inr dr.bB) ?_
          try simp only [Act.put, List.setIfInBounds_toArray]
          clear hK K
          refine wpAnyM_takeC (i := 4) (v := ?_) 20 rfl (by kernel_rfl) (by kernel_rfl) (by kernel_rfl) (by kernel_rfl) (by kernel_rfl) (by kernel_rfl) (fun _ _ _ h => h) dr.bB (.inl ⟨by rfl, ?_⟩) ?_
          rotate_left 1
          · intro w' hS'; go_simp; try with_reducible rfl
          simp only [Act.put, List.setIfInBounds_toArray]
          refine wpAnyM_takeC (i := 5) (v := ?_) 20 rfl (by kernel_rfl) (by kernel_rfl) (by kernel_rfl) (by kernel_rfl) (by kernel_rfl) (by kernel_rfl) (fun _ _ _ h => h) dr.bB (.inl ⟨by rfl, ?_⟩) ?_
          rotate_left 1
          · intro w' hS'; go_simp; try with_reducible rfl
          simp only [Act.put]
          refine wpAnyM_takeC (i := 6) (v := ?_) 20 rfl (by kernel_rfl) (by kernel_rfl) (by kernel_rfl) (by kernel_rfl) (by kernel_rfl) (by kernel_rfl) (fun _ _ _ h => h) dr.bB (.inl ⟨by rfl, ?_⟩) ?_
          rotate_left 1
          · intro w' hS'; go_simp; try with_reducible rfl
          simp only [Act.put]
          refine wpAnyM_takeC (i := 7) (v := ?_) 20 rfl (by kernel_rfl) (by kernel_rfl) (by kernel_rfl) (by kernel_rfl) (by kernel_rfl) (by kernel_rfl) (fun _ _ _ h => h) dr.bB (.inl ⟨by rfl, ?_⟩) ?_
          rotate_left 1
          · intro w' hS'; go_simp; try with_reducible rfl
          simp only [Act.put]
          refine wpAnyM_one (i := 8) (by kernel_rfl) rfl (by rfl) (fun K hK => ?_)
          go_simp
          obtain ⟨G, hG⟩ : ∃ G, G = x2.heap.size := ⟨_, rfl⟩
          obtain ⟨x3, hv⟩ : ∃ v, v = x2.alloc (.cells #[.int .i64 0, .int .i64 0, .int .i64 0, .slice none 0 0] 26) := ⟨_, rfl⟩
          have bz : Bx x3 G 26 #[.int .i64 0, .int .i64 0, .int .i64 0, .slice none 0 0] := by rw [hv, hG]; first | exact Bx.new _ _ _ | exact (Bx.new _ _ _).drew
          have hb : Below x2.heap.size x2 x3 := by rw [hv]; first | exact (Below.refl _ _).alloc (Nat.le_refl _) _ | exact ((Below.refl _ _).alloc (Nat.le_refl _) _).drew | exact (Below.refl _ _).alloc (by simp) _
          replace dr := dr.lo hb dr.lt
          have hGB : B < G := by rw [hG]; exact hdlt
          rw [← hG, ← hv]
          replace om := om.low hb (Nat.le_refl _)
          have hGM : x2.heap.size ≤ G := by omega
          have hbz := hb.size
          clear hv hb hG
          refine hK _ _ (.inr dr.bB) ?_
          try simp only [Act.put, List.setIfInBounds_toArray]
          clear hK K
          have c0 := bz.at_ 0 rfl
          have c1 := bz.at_ 1 rfl
          have c2 := bz.at_ 2 rfl
          have c3 := bz.at_ 3 rfl
          have f0 := bz.thaw 0
          have f1 := bz.thaw 1
          have f2 := bz.thaw 2
          have f3 := bz.thaw 3
          obtain ⟨-, tz⟩ := bx_put4 (a' := .int .i64 RU) (b' := .int .i64 RL) (c' := .int .i64 RW) (d' := .slice A2 Rr.length C2) bz
          refine wpAnyM_one (i := 9) (by kernel_rfl) rfl (by rfl) (fun K hK => ?_)
          go_simp
          obtain ⟨y1, hy1⟩ : ∃ v, v = ((((x3.setCell ⟨G, 0, none⟩ (.int .i64 RU)).setCell ⟨G, 1, none⟩ (.int .i64 RL)).setCell ⟨G, 2, none⟩ (.int .i64 RW)).setCell ⟨G, 3, none⟩ (.slice A2 Rr.length C2)) := ⟨_, rfl⟩
          rw [← hy1] at tz ⊢
          have hsz := tz.size
          replace dr := dr.far tz hGB
          replace om := (om.touch tz (.inl hGM)).wide (Nat.le_refl _) (hi' := y1.heap.size) (by omega)
          clear hy1 c0 c1 c2 c3 f0 f1 f2 f3 bz tz
          refine hK _ _ (.inr dr.bB) ?_
          try simp only [Act.put, List.setIfInBounds_toArray]
          clear hK K
          refine wpAnyM_one (i := 10) (by kernel_rfl) rfl (by rfl) (fun K hK => ?_)
          go_simp
          refine hK _ _ (.inr dr.bB) ?_
          try simp only [Act.put, List.setIfInBounds_toArray]
          clear hK K
          refine wpAnyM_one (i := 11) (by kernel_rfl) rfl (by rfl) (fun K hK => ?_)
          go_simp
          refine hK _ _ (.inl rfl) ?_
          try simp only [Act.put, List.setIfInBounds_toArray]
          clear hK K
          refine wpAnyM_done (by kernel_rfl) ?_ _
          go_wp2_with fail
          go_meet
          case rel => exact ⟨Rm, D2, E2, M, Rc, rfl, rfl, HA.out, om, hBM, dr⟩
        · skip
          skip
          go_simp
          obtain ⟨G, hG⟩ : ∃ G, G = x1.heap.size := ⟨_, rfl⟩
          obtain ⟨x2, hv⟩ : ∃ v, v = x1.alloc (.cells #[.int .i64 0, .int .i64 0, .int .i64 0, .slice none 0 0] 26) := ⟨_, rfl⟩
          have bz : Bx x2 G 26 #[.int .i64 0, .int .i64 0, .int .i64 0, .slice none 0 0] := by rw [hv, hG]; first | exact Bx.new _ _ _ | exact (Bx.new _ _ _).drew
          have hb : Below x1.heap.size x1 x2 := by rw [hv]; first | exact (Below.refl _ _).alloc (Nat.le_refl _) _ | exact ((Below.refl _ _).alloc (Nat.le_refl _) _).drew | exact (Below.refl _ _).alloc (by simp) _
          replace dr := dr.lo hb dr.lt
          have hGB : B < G := by rw [hG]; exact hdlt
          rw [← hG, ← hv]
          clear hv hb hG
          refine hK _ _ (.inr dr.bB) ?_
          try simp only [Act.put, List.setIfInBounds_toArray]
          clear hK K
          refine wpAnyM_one (i := 3) (by kernel_rfl) rfl (by rfl) (fun K hK => ?_)
          go_simp
          obtain ⟨⟨RU, RL, RW, Rr, Rm, Rc⟩, hR⟩ : ∃ R, R = addAR U L W rs z := ⟨_, rfl⟩
          refine (specAddOnAbacus U L W A C rs z x2 dr.ow.rd dr.d.u dr.d.l dr.d.w dr.d.all (i64_of (by omega) (by omega))).mono ?_
          rintro e x3 ⟨A2, C2, D2, E2, M, he, o1, om, hM1, hM2, hb⟩
          rw [← hR] at he om
          replace he : e = .returned (.tuple #[.agg #[.int .i64 RU, .int .i64 RL, .int .i64 RW, .slice A2 Rr.length C2], .slice D2 Rm.length E2, .int .i64 Rc]) := he
          replace om : OwnF tripF 37 x3 M x3.heap.size (.slice D2 Rm.length E2) Rm := om
          have hall : Rc = 0 → All3 Rm := by intro h0; subst h0; exact (addAR_done hR.symm).2.2.2.2
          have HA := Lib.hid hall
          subst he
          have hdl := dr.lt
          have hGl := bz.lt
          replace bz := bz.below hb
          replace dr := dr.lo hb dr.lt
          have hdlt := dr.lt
          have hBM : B < M := by omega
          clear hR o1 hb hall
          refine hK _ _ (.inr dr.bB) ?_
          try simp only [Act.put, List.setIfInBounds_toArray]
          clear hK K
          refine wpAnyM_takeC (i := 4) (v := ?_) 20 rfl (by kernel_rfl) (by kernel_rfl) (by kernel_rfl) (by kernel_rfl) (by kernel_rfl) (by kernel_rfl) (fun _ _ _ h => h) dr.bB (.inl ⟨by rfl, ?_⟩) ?_
          rotate_left 1
          · intro w' hS'; go_simp; try with_reducible rfl
          simp only [Act.put, List.setIfInBounds_toArray]
          refine wpAnyM_takeC (i := 5) (v := ?_) 20 rfl (by kernel_rfl) (by kernel_rfl) (by kernel_rfl) (by kernel_rfl) (by kernel_rfl) (by kernel_rfl) (fun _ _ _ h => h) dr.bB (.inl ⟨by rfl, ?_⟩) ?_
          rotate_left 1
          · intro w' hS'; go_simp; try with_reducible rfl
          simp only [Act.put]
          refine wpAnyM_takeC (i := 6) (v := ?_) 20 rfl (by kernel_rfl) (by kernel_rfl) (by kernel_rfl) (by kernel_rfl) (by kernel_rfl) (by kernel_rfl) (fun _ _ _ h => h) dr.bB (.inl ⟨by rfl, ?_⟩) ?_
          rotate_left 1
          · intro w' hS'; go_simp; try with_reducible rfl
          simp only [Act.put]
          refine wpAnyM_takeC (i := 7) (v := ?_) 20 rfl (by kernel_rfl) (by kernel_rfl) (by kernel_rfl) (by kernel_rfl) (by kernel_rfl) (by kernel_rfl) (fun _ _ _ h => h) dr.bB (.inl ⟨by rfl, ?_⟩) ?_
          rotate_left 1
          · intro w' hS'; go_simp; try with_reducible rfl
          simp only [Act.put]
          have c0 := bz.at_ 0 rfl
          have c1 := bz.at_ 1 rfl
          have c2 := bz.at_ 2 rfl
          have c3 := bz.at_ 3 rfl
          have f0 := bz.thaw 0
          have f1 := bz.thaw 1
          have f2 := bz.thaw 2
          have f3 := bz.thaw 3
          obtain ⟨-, tz⟩ := bx_put4 (a' := .int .i64 RU) (b' := .int .i64 RL) (c' := .int .i64 RW) (d' := .slice A2 Rr.length C2) bz
          refine wpAnyM_one (i := 9) (by kernel_rfl) rfl (by rfl) (fun K hK => ?_)
          go_simp
          obtain ⟨y1, hy1⟩ : ∃ v, v = ((((x3.setCell ⟨G, 0, none⟩ (.int .i64 RU)).setCell ⟨G, 1, none⟩ (.int .i64 RL)).setCell ⟨G, 2, none⟩ (.int .i64 RW)).setCell ⟨G, 3, none⟩ (.slice A2 Rr.length C2)) := ⟨_, rfl⟩
          rw [← hy1] at tz ⊢
          have hsz := tz.size
          replace dr := dr.far tz hGB
          replace om := (om.touch tz (.inr (by omega))).wide (Nat.le_refl _) (hi' := y1.heap.size) hsz
          clear hy1 c0 c1 c2 c3 f0 f1 f2 f3 bz tz
          refine hK _ _ (.inr dr.bB) ?_
          try simp only [Act.put, List.setIfInBounds_toArray]
          clear hK K
          refine wpAnyM_one (i := 10) (by kernel_rfl) rfl (by rfl) (fun K hK => ?_)
          go_simp
          refine hK _ _ (.inr dr.bB) ?_
          try simp only [Act.put, List.setIfInBounds_toArray]
          clear hK K
          refine wpAnyM_one (i := 11) (by kernel_rfl) rfl (by rfl) (fun K hK => ?_)
          go_simp
          refine hK _ _ (.inl rfl) ?_
          try simp only [Act.put, List.setIfInBounds_toArray]
          clear hK K
          refine wpAnyM_done (by kernel_rfl) ?_ _
          go_wp2_with fail
          go_meet
          case rel => exact ⟨Rm, D2, E2, M, Rc, rfl, rfl, HA.out, om, hBM, dr⟩
      · skip
        go_simp
        obtain ⟨G, hG⟩ : ∃ G, G = v1.drew.heap.size := ⟨_, rfl⟩
        obtain ⟨x1, hv⟩ : ∃ v, v = (v1.alloc (.cells #[.int .i64 0, .int .i64 0, .int .i64 0, .slice none 0 0] 26)).drew := ⟨_, rfl⟩
        have bz : Bx x1 G 26 #[.int .i64 0, .int .i64 0, .int .i64 0, .slice none 0 0] := by rw [hv, hG]; first | exact Bx.new _ _ _ | exact (Bx.new _ _ _).drew
        have hb : Below v1.drew.heap.size v1.drew x1 := by rw [hv]; first | exact (Below.refl _ _).alloc (Nat.le_refl _) _ | exact ((Below.refl _ _).alloc (Nat.le_refl _) _).drew | exact (Below.refl _ _).alloc (by simp) _
        replace dr := dr.lo hb dr.lt
        have hGB : B < G := by rw [hG]; exact hV
        rw [← hv]; try rw [show v1.heap.size = G from hG.symm]
        clear hv hb hG
        refine hK _ _ (.inr dr.bB) ?_
        try simp only [Act.put, List.setIfInBounds_toArray]
        clear hK K
        refine wpAnyM_one (i := 2) (by kernel_rfl) rfl (by rfl) (fun K hK => ?_)
        go_simp
        refine (pick_big g _ 900 x1 dr.src (by omega) (by omega) (by omega)).mono ?_
        rintro e x2 ⟨z, rfl, z0, z1, hs, ht⟩
        replace bz := bz.touch ht (.inr (by omega))
        replace dr := dr.touch ht hs
        have hdlt := dr.lt
        clear hs ht
        refine hK _ _ (.inr dr.bB) ?_
        try simp only [Act.put, List.setIfInBounds_toArray]
        clear hK K
        refine wpAnyM_one (i := 3) (by kernel_rfl) rfl (by rfl) (fun K hK => ?_)
        go_simp
        obtain ⟨⟨RU, RL, RW, Rr, Rm, Rc⟩, hR⟩ : ∃ R, R = addAR U L W rs z := ⟨_, rfl⟩
        refine (specAddOnAbacus U L W A C rs z x2 dr.ow.rd dr.d.u dr.d.l dr.d.w dr.d.all (i64_of (by omega) (by omega))).mono ?_
        rintro e x3 ⟨A2, C2, D2, E2, M, he, o1, om, hM1, hM2, hb⟩
        rw [← hR] at he om
        replace he : e = .returned (.tuple #[.agg #[.int .i64 RU, .int .i64 RL, .int .i64 RW, .slice A2 Rr.length C2], .slice D2 Rm.length E2, .int .i64 Rc]) := he
        replace om : OwnF tripF 37 x3 M x3.heap.size (.slice D2 Rm.length E2) Rm := om
        have hall : Rc = 0 → All3 Rm := by intro h0; subst h0; exact (addAR_done hR.symm).2.2.2.2
        have HA := Lib.hid hall
        subst he
        have hdl := dr.lt
        have hGl := bz.lt
        replace bz := bz.below hb
        replace dr := dr.lo hb dr.lt
        have hdlt := dr.lt
        have hBM : B < M := by omega
        clear hR o1 hb hall
        refine hK _ _ (.inr dr.bB) ?_
        try simp only [Act.put, List.setIfInBounds_toArray]
        clear hK K
        refine wpAnyM_takeC (i := 4) (v := ?_) 20 rfl (by kernel_rfl) (by kernel_rfl) (by kernel_rfl) (by kernel_rfl) (by kernel_rfl) (by kernel_rfl) (fun _ _ _ h => h) dr.bB (.inl ⟨by rfl, ?_⟩) ?_
        rotate_left 1
        · intro w' hS'; go_simp; try with_reducible rfl
        simp only [Act.put, List.setIfInBounds_toArray]
        refine wpAnyM_takeC (i := 5) (v := ?_) 20 rfl (by kernel_rfl) (by kernel_rfl) (by kernel_rfl) (by kernel_rfl) (by kernel_rfl) (by kernel_rfl) (fun _ _ _ h => h) dr.bB (.inl ⟨by rfl, ?_⟩) ?_
        rotate_left 1
        · intro w' hS'; go_simp; try with_reducible rfl
        simp only [Act.put]
        refine wpAnyM_takeC (i := 6) (v := ?_) 20 rfl (by kernel_rfl) (by kernel_rfl) (by kernel_rfl) (by kernel_rfl) (by kernel_rfl) (by kernel_rfl) (fun _ _ _ h => h) dr.bB (.inl ⟨by rfl, ?_⟩) ?_
        rotate_left 1
        · intro w' hS'; go_simp; try with_reducible rfl
        simp only [Act.put]
        refine wpAnyM_takeC (i := 7) (v := ?_) 20 rfl (by kernel_rfl) (by kernel_rfl) (by kernel_rfl) (by kernel_rfl) (by kernel_rfl) (by kernel_rfl) (fun _ _ _ h => h) dr.bB (.inl ⟨by rfl, ?_⟩) ?_
        rotate_left 1
        · intro w' hS'; go_simp; try with_reducible rfl
        simp only [Act.put]
        have c0 := bz.at_ 0 rfl
        have c1 := bz.at_ 1 rfl
        have c2 := bz.at_ 2 rfl
        have c3 := bz.at_ 3 rfl
        have f0 := bz.thaw 0
        have f1 := bz.thaw 1
        have f2 := bz.thaw 2
        have f3 := bz.thaw 3
        obtain ⟨-, tz⟩ := bx_put4 (a' := .int .i64 RU) (b' := .int .i64 RL) (c' := .int .i64 RW) (d' := .slice A2 Rr.length C2) bz
        refine wpAnyM_one (i := 9) (by kernel_rfl) rfl (by rfl) (fun K hK => ?_)
        go_simp
        obtain ⟨y1, hy1⟩ : ∃ v, v = ((((x3.setCell ⟨G, 0, none⟩ (.int .i64 RU)).setCell ⟨G, 1, none⟩ (.int .i64 RL)).setCell ⟨G, 2, none⟩ (.int .i64 RW)).setCell ⟨G, 3, none⟩ (.slice A2 Rr.length C2)) := ⟨_, rfl⟩
        rw [← hy1] at tz ⊢
        have hsz := tz.size
        replace dr := dr.far tz hGB
        replace om := (om.touch tz (.inr (by omega))).wide (Nat.le_refl _) (hi' := y1.heap.size) hsz
        clear hy1 c0 c1 c2 c3 f0 f1 f2 f3 bz tz
        refine hK _ _ (.inr dr.bB) ?_
        try simp only [Act.put, List.setIfInBounds_toArray]
        clear hK K
        refine wpAnyM_one (i := 10) (by kernel_rfl) rfl (by rfl) (fun K hK => ?_)
        go_simp
        refine hK _ _ (.inr dr.bB) ?_
        try simp only [Act.put, List.setIfInBounds_toArray]
        clear hK K
        refine wpAnyM_one (i := 11) (by kernel_rfl) rfl (by rfl) (fun K hK => ?_)
        go_simp
        refine hK _ _ (.inl rfl) ?_
        try simp only [Act.put, List.setIfInBounds_toArray]
        clear hK K
        refine wpAnyM_done (by kernel_rfl) ?_ _
        go_wp2_with fail
        go_meet
        case rel => exact ⟨Rm, D2, E2, M, Rc, rfl, rfl, HA.out, om, hBM, dr⟩
    case rest =>
    obtain ⟨ms, D, E, M, rc, rfl, rfl, hms, om, hBM, dr⟩ := hcut
    obtain ⟨v2, rfl⟩ : ∃ u, u = wc := ⟨_, rfl⟩
    clear hkeep hBv
    have hBv := dr.lt
    by_cases hc : rc = 0
    · replace hms := hms hc
      have hc' : (rc == 0) = true := by simp [hc]
      clear hc
      have c0 := dr.bB.at_ 0 rfl
      have c1 := dr.bB.at_ 1 rfl
      have c2 := dr.bB.at_ 2 rfl
      have c3 := dr.bB.at_ 3 rfl
      have d0 := dr.br.at_ 0 rfl
      have d1 := dr.br.at_ 1 rfl
      have d2 := dr.br.at_ 2 rfl
      have d3 := dr.br.at_ 3 rfl
      have f0 := dr.br.thaw 0
      have f1 := dr.br.thaw 1
      have f2 := dr.br.thaw 2
      have f3 := dr.br.thaw 3
      obtain ⟨bz, tz⟩ := bx_put4 (a' := .int .i64 U) (b' := .int .i64 L) (c' := .int .i64 W) (d' := .slice A rs.length C) dr.br
      have q0 := bz.at_ 0 rfl
      have q1 := bz.at_ 1 rfl
      have q2 := bz.at_ 2 rfl
      have q3 := bz.at_ 3 rfl
      have oa := (dr.ow.touch tz (.inr (by have := dr.rg; have := dr.gm; omega))).rd
      have ob := (om.touch tz (.inr (by omega))).rd
      have hbz := dr.bel.trans (tz.below dr.wr dr.bel.size)
      go_wp2_with fail
      exact bodyPost_ret (v := .tuple #[.agg #[.int .i64 U, .int .i64 L, .int .i64 W, .slice A rs.length C], .slice D ms.length E]) (by simp [results, Try.results18, go_sem, q0, q1, q2, q3]) rfl
        ⟨U, L, W, rs, A, C, ms, D, E, rfl, dr.d, hms, oa, ob, hbz⟩
    · have hc' : (rc == 0) = false := by simp [hc]
      clear hc hms om hBM
      go_wp2_with fail
      obtain ⟨P, hP⟩ : ∃ P, P = v2.heap.size := ⟨_, rfl⟩
      obtain ⟨x0, hx0⟩ : ∃ v, v = v2.alloc (.cells #[] 37) := ⟨_, rfl⟩
      have ow0 : OwnF tripF 37 x0 P (P + 1) (.slice (some ⟨P, 0, none⟩) 0 0) [] := by rw [hx0, hP]; exact ownF_row (n := 0) (row_new 37 3 v2 #[] 0 (by simp) (by omega)) rfl (by simp)
      have gr0 : GrowF tripF 37 P x0 (some ⟨P, 0, none⟩) 0 [] := .inr ⟨_, rfl, Nat.le_refl _, ow0⟩
      rw [← hx0, ← hP]
      have hPx : P < x0.heap.size := by rw [hx0, hP]; simp
      have hBP : B < P := by omega
      replace dr : Dr w r g m B U L W rs A C _ x0 := dr.lo (M := P) (by rw [hx0]; exact (Below.refl _ _).alloc (by omega) _) hBP
      clear hx0 hP ow0
      refine (pick_any g _ 6 x0 dr.src (by omega) (by omega)).mono ?_
      rintro e x1 ⟨kz, rfl, z0, z1, hs, ht⟩
      replace z1 : kz ≤ 5 := by omega
      obtain ⟨j0, hj0⟩ : ∃ j : Nat, kz = j := ⟨kz.toNat, by omega⟩
      subst hj0
      replace gr0 := gr0.same fun k o h1 h2 _ => ht.block k (Array.getElem?_eq_some_iff.1 h2).1 (.inr (by omega))
      replace dr := dr.touch ht hs
      have hsz1 := ht.size
      clear hs ht
      go_wp2_with fail
      go_loopw [9, 10] (fun o i wr => ∃ (j : Nat) (ms : List (Int × Int × Int)) (D : Option Addr) (E K' : Nat), j ≤ 5 ∧ ms.length + j ≤ 5 ∧ K' + 20 * j ≤ 300 ∧ i = .int .i64 (j : Nat) ∧ o = .slice D ms.length E ∧ All3 ms ∧ GrowF tripF 37 P wr D E ms ∧ P < wr.heap.size ∧ Dr w r g m B U L W rs A C K' wr) (fun _ i _ => (intOf i).toNat)
      case atStart =>
        refine ⟨j0, [], _, _, _, by omega, by simp; omega, ?_, rfl, rfl, (by intro x hx; cases hx), gr0, by omega, dr⟩
        omega
      case round =>
        obtain ⟨j, ms, D, E, K', hj, hjm, hK, hi, ho, hall, gr, hsz, dr'⟩ := hrel
        subst hi ho
        clear gr0 dr
        have dr := dr'
        clear dr'
        cases j with
        | zero =>
          have om := gr.own (by omega)
          have c0 := dr.bB.at_ 0 rfl
          have c1 := dr.bB.at_ 1 rfl
          have c2 := dr.bB.at_ 2 rfl
          have c3 := dr.bB.at_ 3 rfl
          have d0 := dr.br.at_ 0 rfl
          have d1 := dr.br.at_ 1 rfl
          have d2 := dr.br.at_ 2 rfl
          have d3 := dr.br.at_ 3 rfl
          have f0 := dr.br.thaw 0
          have f1 := dr.br.thaw 1
          have f2 := dr.br.thaw 2
          have f3 := dr.br.thaw 3
          obtain ⟨bz, tz⟩ := bx_put4 (a' := .int .i64 U) (b' := .int .i64 L) (c' := .int .i64 W) (d' := .slice A rs.length C) dr.br
          have q0 := bz.at_ 0 rfl
          have q1 := bz.at_ 1 rfl
          have q2 := bz.at_ 2 rfl
          have q3 := bz.at_ 3 rfl
          have oa := (dr.ow.touch tz (.inr (by have := dr.rg; have := dr.gm; omega))).rd
          have ob := (om.touch tz (.inr (by omega))).rd
          have hbz := dr.bel.trans (tz.below dr.wr dr.bel.size)
          go_wp2_with fail
          exact bodyPost_ret (v := .tuple #[.agg #[.int .i64 U, .int .i64 L, .int .i64 W, .slice A rs.length C], .slice D ms.length E]) (by simp [results, Try.results18, go_sem, q0, q1, q2, q3]) rfl
            ⟨U, L, W, rs, A, C, ms, D, E, rfl, dr.d, hall, oa, ob, hbz⟩
        | succ j =>
          have hpos : (0 : Int) < ((j + 1 : Nat) : Int) := by omega
          have hv1 : IntKind.i64.wrap (((j + 1 : Nat) : Int) - 1) = (j : Int) := by rw [show ((j + 1 : Nat) : Int) - 1 = (j : Int) by omega]; exact fits_int _ (by omega) (by omega)
          go_wp2_with fail
          refine (drawMove_any g K' _ dr.src (by omega)).mono ?_
          rintro e x2 ⟨x, y, z, rfl, hxyz, ht, hs⟩
          have hsz2 := ht.size
          replace gr := gr.same fun k o h1 h2 _ => ht.block k (Array.getElem?_eq_some_iff.1 h2).1 (.inr (by omega))
          replace dr := dr.touch ht hs
          clear hs ht
          go_wp2_with (at_builtin; go_must (refine wpList_appGrow tripF rfl (.tmp 36) (.tmp 39) 29 37 rfl (.agg #[.int .i64 0, .int .i64 0, .int .i64 0]) 24 Try.underlying29 info_MoveV rfl (by omega) rfl (gr.same fun k o _ h2 _ => Below.heap_alloc _ _ _ (Array.getElem?_eq_some_iff.1 h2).1) (by simp; omega) rfl (trip_new x2 x y z) (by omega) ?_); intro D' E' x3 gr3 hg3)
          have hg4 : Below P x2 x3 := ((Below.refl _ _).alloc (by omega) _).trans hg3.1
          replace dr := dr.lo hg4 hBP
          go_roundw
          case rel => exact ⟨j, ms ++ [(x, y, z)], D', E', _, by omega, by simp; omega, by omega, by go_num, by simp, by intro q hq; rcases List.mem_append.1 hq with h1 | h1; exact hall q h1; rw [List.mem_singleton] at h1; subst h1; exact hxyz, gr3, by have := hg4.size; omega, dr⟩
          case measure => (simp [intOf]) <;> omega
end Go.Proofs.Ytcfpfhlgcfmioaa

/- BeadsW -/
namespace Go.Proofs.Ytcfpfhlgcfmioaa
open Go.RowKit

set_option maxHeartbeats 400000 in
theorem specSameAb (U L W : Int) (a : Option Addr) (c : Nat) (xs : List (Int × Int)) (U' L' W' : Int) (b : Option Addr) (d : Nat) (ys : List (Int × Int)) (w : World) (ha : RdF pairF w a xs) (hb : RdF pairF w b ys) :
    Calls Try.prog 27 #[.agg #[.int .i64 U, .int .i64 L, .int .i64 W, .slice a xs.length c], .agg #[.int .i64 U', .int .i64 L', .int .i64 W', .slice b ys.length d]] w fun e w' =>
      e = .returned (.bool (abaEqB U L W U' L' W' xs ys)) ∧ Below w.heap.size w w' := by
  have hbel : Below w.heap.size w ((w.alloc (.cells #[.int .i64 U, .int .i64 L, .int .i64 W, .slice a xs.length c] 26)).alloc (.cells #[.int .i64 U', .int .i64 L', .int .i64 W', .slice b ys.length d] 26)) := (by repeat (first | exact Below.refl _ _ | refine Below.setCell ?_ (by first | omega | (simp <;> omega)) _ | refine Below.alloc ?_ (by first | omega | (simp <;> omega)) _ | refine Below.drew ?_))
  go_enter Try.func27, Try.ntmps27
  go_wp2_with fail
  refine (l03Same_any w.heap.size (w.heap.size + 1) U L W a c xs U' L' W' b d ys _ ⟨by go_simp, by go_simp, by go_simp, by go_simp⟩ ⟨by go_simp, by go_simp, by go_simp, by go_simp⟩ (ha.below hbel) (hb.below hbel)).mono ?_
  rintro e w1 ⟨rfl, n, rfl⟩
  go_wp2
  go_ret
  exact ⟨rfl, bel_drewN hbel _⟩

theorem f6big_anyB (a : Option Addr) (n c : Nat) (w : World) (hn : n ≤ 9223372036854775807) :
    Calls Try.prog 14 #[.slice a n c] w fun e w' => e = .returned (.bool (decide (4096 < n))) ∧ w' = w := by
  go_enter Try.func14, Try.ntmps14
  go_wp2
  go_ret
  exact ⟨ret_bool (by simp; omega), rfl⟩
theorem aba64b {U L W : Int} {rs : List (Int × Int)} (h : abaB U L W rs = true) : I64 U ∧ I64 L ∧ I64 W ∧ All2 rs := by
  obtain ⟨h1, _, h3⟩ := abaB_true h
  have hk := kindB_true h1
  refine ⟨mid64 (by omega) (by omega), mid64 (by omega) (by omega), mid64 (by omega) (by omega), fun x hx => ?_⟩
  have := List.all_eq_true.1 h3 x hx
  simp [rodB] at this
  exact ⟨mid64 (by omega) (by omega), mid64 (by omega) (by omega)⟩
theorem plain64 {U L W : Int} {rs : List (Int × Int)} (h : plainB U L W rs = true) : I64 U ∧ I64 L ∧ I64 W ∧ All2 rs := by
  refine aba64b ?_
  rw [plainB, Bool.and_eq_true] at h
  exact h.1
theorem addAR_bd {U L W U' L' W' v : Int} {rs rs' : List (Int × Int)} {ms : List (Int × Int × Int)} (h : addAR U L W rs v = (U', L', W', rs', ms, 0)) : (0 ≤ abaV W rs ∧ abaV W rs ≤ 57777777772) ∧ 0 ≤ v ∧ v ≤ 1000000000000 := by
  cases ha : abaB U L W rs with
  | false => rw [addAR_bad ha] at h; simp at h
  | true =>
    by_cases hv : 0 ≤ v ∧ v ≤ 1000000000000
    · exact ⟨(aba_of ha).v, hv⟩
    · rw [addAR_range ha hv] at h; simp at h

set_option maxRecDepth 100000 in
set_option maxHeartbeats 40000000 in
theorem beads_walk (xA : Option Addr) (xC : Nat) (xZ : List Int) (w : World) (hx : RawU w xA xZ) :
    Calls Try.prog 3 #[.slice xA xZ.length xC] w fun e w' => e = .returned (.bool true) ∧ Below w.heap.size w w' := by
  have hbel : Below w.heap.size w w := Below.refl _ _
  go_enter Try.func3, Try.ntmps3
  go_wp2_with fail
  refine (f6big_anyB xA xZ.length xC w hx.len).mono ?_
  rintro e w1 ⟨rfl, hq⟩
  subst w1
  by_cases hl : 4096 < xZ.length
  · rw [decide_eq_true hl]
    clear hl
    go_wp2
    go_ret
    exact ⟨rfl, hbel⟩
  · rw [decide_eq_false hl]
    replace hx := hx.rd (by omega)
    clear hl
    go_wp2_with fail
    refine (drawAddOn_any xA xZ xC w hx).mono ?_
    rintro e w1 ⟨U1, L1, W1, rs1, A1, C1, z1, rfl, hd, hz, o1, hb⟩
    have r1 := o1.rd
    have H1 := Lib.hid hd
    have Z1 := Lib.hid hz
    clear hd hz o1
    replace hx := hx.below hb
    replace hbel := hbel.trans (hb.mono hbel.size)
    clear hb
    obtain ⟨⟨xU, xL, xW, xr, xm, xc⟩, eR⟩ : ∃ R, R = addAR U1 L1 W1 rs1 z1 := ⟨_, rfl⟩
    have HR1 := Lib.hid eR
    clear eR
    go_upto_region 4 with fail
    obtain ⟨g3, hg3⟩ : ∃ g, g = w1.heap.size := ⟨_, rfl⟩
    obtain ⟨v1, hv1⟩ : ∃ V, V = w1.alloc (.cells #[.int .i64 U1, .int .i64 L1, .int .i64 W1, .slice A1 rs1.length C1] 26) := ⟨_, rfl⟩
    have b_g3 : Bx v1 g3 26 #[.int .i64 U1, .int .i64 L1, .int .i64 W1, .slice A1 rs1.length C1] := by rw [hv1, hg3]; exact Bx.new _ _ _
    have hb : Below w1.heap.size w1 v1 := by rw [hv1]; exact (Below.refl _ _).alloc (Nat.le_refl _) _
    rw [← hg3, ← hv1]
    clear hv1 hg3
    replace hx := hx.below hb
    replace r1 := r1.below hb
    replace hbel := hbel.trans (hb.mono hbel.size)
    clear hb
    have c30 := b_g3.at_ 0 rfl
    have c31 := b_g3.at_ 1 rfl
    have c32 := b_g3.at_ 2 rfl
    have c33 := b_g3.at_ 3 rfl
    go_wp2_with fail
    refine (implAddOnAbacus U1 L1 W1 A1 C1 rs1 z1 v1 r1 H1.out.u H1.out.l H1.out.w H1.out.all Z1.out).mono ?_
    rintro e w2 ⟨A2, C2, D2, E2, m0, he, o_, om, _, _, hb⟩
    rw [← HR1.out] at o_ om he
    replace he : e = .returned (.tuple #[.agg #[.int .i64 xU, .int .i64 xL, .int .i64 xW, .slice A2 xr.length C2], .slice D2 xm.length E2, .int .i64 xc]) := he
    subst he
    have r2 : RdF pairF w2 A2 xr := o_.rd
    have m2 : RdF tripF w2 D2 xm := om.rd
    clear o_ om
    clear c30 c31 c32 c33
    replace hx := hx.below hb
    replace r1 := r1.below hb
    replace b_g3 := b_g3.below hb
    replace hbel := hbel.trans (hb.mono hbel.size)
    clear hb
    go_upto_region 5 with fail
    obtain ⟨g5, hg5⟩ : ∃ g, g = w2.heap.size := ⟨_, rfl⟩
    obtain ⟨v2, hv2⟩ : ∃ V, V = w2.alloc (.cells #[.int .i64 xU, .int .i64 xL, .int .i64 xW, .slice A2 xr.length C2] 26) := ⟨_, rfl⟩
    have b_g5 : Bx v2 g5 26 #[.int .i64 xU, .int .i64 xL, .int .i64 xW, .slice A2 xr.length C2] := by rw [hv2, hg5]; exact Bx.new _ _ _
    have hb : Below w2.heap.size w2 v2 := by rw [hv2]; exact (Below.refl _ _).alloc (Nat.le_refl _) _
    rw [← hg5, ← hv2]
    clear hv2 hg5
    replace hx := hx.below hb
    replace r1 := r1.below hb
    replace b_g3 := b_g3.below hb
    replace r2 := r2.below hb
    replace m2 := m2.below hb
    replace hbel := hbel.trans (hb.mono hbel.size)
    clear hb
    have c30 := b_g3.at_ 0 rfl
    have c31 := b_g3.at_ 1 rfl
    have c32 := b_g3.at_ 2 rfl
    have c33 := b_g3.at_ 3 rfl
    go_wp2_with fail
    refine (specAddOnAbacus U1 L1 W1 A1 C1 rs1 z1 v2 r1 H1.out.u H1.out.l H1.out.w H1.out.all Z1.out).mono ?_
    rintro e w3 ⟨A3, C3, D3, E3, m0, he, o_, om, _, _, hb⟩
    rw [← HR1.out] at o_ om he
    replace he : e = .returned (.tuple #[.agg #[.int .i64 xU, .int .i64 xL, .int .i64 xW, .slice A3 xr.length C3], .slice D3 xm.length E3, .int .i64 xc]) := he
    subst he
    have r3 : RdF pairF w3 A3 xr := o_.rd
    have m3 : RdF tripF w3 D3 xm := om.rd
    clear o_ om
    clear c30 c31 c32 c33
    replace hx := hx.below hb
    replace r1 := r1.below hb
    replace b_g3 := b_g3.below hb
    replace r2 := r2.below hb
    replace m2 := m2.below hb
    replace b_g5 := b_g5.below hb
    replace hbel := hbel.trans (hb.mono hbel.size)
    clear hb
    go_upto_region 6 with fail
    obtain ⟨g8, hg8⟩ : ∃ g, g = w3.heap.size := ⟨_, rfl⟩
    obtain ⟨v3, hv3⟩ : ∃ V, V = w3.alloc (.cells #[.int .i64 xU, .int .i64 xL, .int .i64 xW, .slice A3 xr.length C3] 26) := ⟨_, rfl⟩
    have b_g8 : Bx v3 g8 26 #[.int .i64 xU, .int .i64 xL, .int .i64 xW, .slice A3 xr.length C3] := by rw [hv3, hg8]; exact Bx.new _ _ _
    have hb : Below w3.heap.size w3 v3 := by rw [hv3]; exact (Below.refl _ _).alloc (Nat.le_refl _) _
    rw [← hg8, ← hv3]
    clear hv3 hg8
    replace hx := hx.below hb
    replace r1 := r1.below hb
    replace b_g3 := b_g3.below hb
    replace r2 := r2.below hb
    replace m2 := m2.below hb
    replace b_g5 := b_g5.below hb
    replace r3 := r3.below hb
    replace m3 := m3.below hb
    replace hbel := hbel.trans (hb.mono hbel.size)
    clear hb
    go_wp2_with fail
    refine (drawReplay_any xA xZ xC v3 hx).mono ?_
    rintro e w4 ⟨U2, L2, W2, rs2, A5, C5, ms2, D5, E5, rfl, hd, hm5, r5, m5, hb⟩
    have H2 := Lib.hid hd
    have M2 := Lib.hid hm5
    clear hd hm5
    replace hx := hx.below hb
    replace r1 := r1.below hb
    replace b_g3 := b_g3.below hb
    replace r2 := r2.below hb
    replace m2 := m2.below hb
    replace b_g5 := b_g5.below hb
    replace r3 := r3.below hb
    replace m3 := m3.below hb
    replace b_g8 := b_g8.below hb
    replace hbel := hbel.trans (hb.mono hbel.size)
    clear hb
    obtain ⟨⟨yU, yL, yW, yr, yn, yc⟩, eR⟩ : ∃ R, R = rplR U2 L2 W2 rs2 ms2 := ⟨_, rfl⟩
    have HR2 := Lib.hid eR
    clear eR
    go_upto_region 7 with fail
    obtain ⟨g11, hg11⟩ : ∃ g, g = w4.heap.size := ⟨_, rfl⟩
    obtain ⟨v4, hv4⟩ : ∃ V, V = w4.alloc (.cells #[.int .i64 U2, .int .i64 L2, .int .i64 W2, .slice A5 rs2.length C5] 26) := ⟨_, rfl⟩
    have b_g11 : Bx v4 g11 26 #[.int .i64 U2, .int .i64 L2, .int .i64 W2, .slice A5 rs2.length C5] := by rw [hv4, hg11]; exact Bx.new _ _ _
    have hb : Below w4.heap.size w4 v4 := by rw [hv4]; exact (Below.refl _ _).alloc (Nat.le_refl _) _
    rw [← hg11, ← hv4]
    clear hv4 hg11
    replace hx := hx.below hb
    replace r1 := r1.below hb
    replace b_g3 := b_g3.below hb
    replace r2 := r2.below hb
    replace m2 := m2.below hb
    replace b_g5 := b_g5.below hb
    replace r3 := r3.below hb
    replace m3 := m3.below hb
    replace b_g8 := b_g8.below hb
    replace r5 := r5.below hb
    replace m5 := m5.below hb
    replace hbel := hbel.trans (hb.mono hbel.size)
    clear hb
    have c110 := b_g11.at_ 0 rfl
    have c111 := b_g11.at_ 1 rfl
    have c112 := b_g11.at_ 2 rfl
    have c113 := b_g11.at_ 3 rfl
    go_wp2_with fail
    refine (implReplayBeads U2 L2 W2 A5 C5 rs2 D5 E5 ms2 v4 r5 H2.out.u H2.out.l H2.out.w H2.out.all m5 M2.out).mono ?_
    rintro e w5 ⟨A6, C6, he, o_, hb⟩
    rw [← HR2.out] at o_ he
    replace he : e = .returned (.tuple #[.agg #[.int .i64 yU, .int .i64 yL, .int .i64 yW, .slice A6 yr.length C6], .int .i64 yn, .int .i64 yc]) := he
    subst he
    have r6 : RdF pairF w5 A6 yr := o_.rd
    clear o_
    clear c110 c111 c112 c113
    replace hx := hx.below hb
    replace r1 := r1.below hb
    replace b_g3 := b_g3.below hb
    replace r2 := r2.below hb
    replace m2 := m2.below hb
    replace b_g5 := b_g5.below hb
    replace r3 := r3.below hb
    replace m3 := m3.below hb
    replace b_g8 := b_g8.below hb
    replace r5 := r5.below hb
    replace m5 := m5.below hb
    replace b_g11 := b_g11.below hb
    replace hbel := hbel.trans (hb.mono hbel.size)
    clear hb
    go_upto_region 8 with fail
    obtain ⟨g13, hg13⟩ : ∃ g, g = w5.heap.size := ⟨_, rfl⟩
    obtain ⟨v5, hv5⟩ : ∃ V, V = w5.alloc (.cells #[.int .i64 yU, .int .i64 yL, .int .i64 yW, .slice A6 yr.length C6] 26) := ⟨_, rfl⟩
    have b_g13 : Bx v5 g13 26 #[.int .i64 yU, .int .i64 yL, .int .i64 yW, .slice A6 yr.length C6] := by rw [hv5, hg13]; exact Bx.new _ _ _
    have hb : Below w5.heap.size w5 v5 := by rw [hv5]; exact (Below.refl _ _).alloc (Nat.le_refl _) _
    rw [← hg13, ← hv5]
    clear hv5 hg13
    replace hx := hx.below hb
    replace r1 := r1.below hb
    replace b_g3 := b_g3.below hb
    replace r2 := r2.below hb
    replace m2 := m2.below hb
    replace b_g5 := b_g5.below hb
    replace r3 := r3.below hb
    replace m3 := m3.below hb
    replace b_g8 := b_g8.below hb
    replace r5 := r5.below hb
    replace m5 := m5.below hb
    replace b_g11 := b_g11.below hb
    replace r6 := r6.below hb
    replace hbel := hbel.trans (hb.mono hbel.size)
    clear hb
    have c110 := b_g11.at_ 0 rfl
    have c111 := b_g11.at_ 1 rfl
    have c112 := b_g11.at_ 2 rfl
    have c113 := b_g11.at_ 3 rfl
    go_wp2_with fail
    refine (specReplayBeads U2 L2 W2 A5 C5 rs2 D5 E5 ms2 v5 r5 H2.out.u H2.out.l H2.out.w H2.out.all m5 M2.out).mono ?_
    rintro e w6 ⟨A7, C7, he, o_, hb⟩
    rw [← HR2.out] at o_ he
    replace he : e = .returned (.tuple #[.agg #[.int .i64 yU, .int .i64 yL, .int .i64 yW, .slice A7 yr.length C7], .int .i64 yn, .int .i64 yc]) := he
    subst he
    have r7 : RdF pairF w6 A7 yr := o_.rd
    clear o_
    clear c110 c111 c112 c113
    replace hx := hx.below hb
    replace r1 := r1.below hb
    replace b_g3 := b_g3.below hb
    replace r2 := r2.below hb
    replace m2 := m2.below hb
    replace b_g5 := b_g5.below hb
    replace r3 := r3.below hb
    replace m3 := m3.below hb
    replace b_g8 := b_g8.below hb
    replace r5 := r5.below hb
    replace m5 := m5.below hb
    replace b_g11 := b_g11.below hb
    replace r6 := r6.below hb
    replace b_g13 := b_g13.below hb
    replace hbel := hbel.trans (hb.mono hbel.size)
    clear hb
    go_upto_region 9 with fail
    obtain ⟨g16, hg16⟩ : ∃ g, g = w6.heap.size := ⟨_, rfl⟩
    obtain ⟨v6, hv6⟩ : ∃ V, V = w6.alloc (.cells #[.int .i64 yU, .int .i64 yL, .int .i64 yW, .slice A7 yr.length C7] 26) := ⟨_, rfl⟩
    have b_g16 : Bx v6 g16 26 #[.int .i64 yU, .int .i64 yL, .int .i64 yW, .slice A7 yr.length C7] := by rw [hv6, hg16]; exact Bx.new _ _ _
    have hb : Below w6.heap.size w6 v6 := by rw [hv6]; exact (Below.refl _ _).alloc (Nat.le_refl _) _
    rw [← hg16, ← hv6]
    clear hv6 hg16
    replace hx := hx.below hb
    replace r1 := r1.below hb
    replace b_g3 := b_g3.below hb
    replace r2 := r2.below hb
    replace m2 := m2.below hb
    replace b_g5 := b_g5.below hb
    replace r3 := r3.below hb
    replace m3 := m3.below hb
    replace b_g8 := b_g8.below hb
    replace r5 := r5.below hb
    replace m5 := m5.below hb
    replace b_g11 := b_g11.below hb
    replace r6 := r6.below hb
    replace b_g13 := b_g13.below hb
    replace r7 := r7.below hb
    replace hbel := hbel.trans (hb.mono hbel.size)
    clear hb
    clear r5 m5 b_g11
    go_wp2_with fail
    refine (drawMoveBeads_any xA xZ xC v6 hx).mono ?_
    rintro e w7 ⟨U3, L3, W3, rs3, A8, C8, mx, my, mz, rfl, hd, hmv, o_, hb⟩
    have r8 := o_.rd
    have H3 := Lib.hid hd
    have M3 := Lib.hid hmv
    clear hd hmv o_
    replace hx := hx.below hb
    replace r1 := r1.below hb
    replace b_g3 := b_g3.below hb
    replace r2 := r2.below hb
    replace m2 := m2.below hb
    replace b_g5 := b_g5.below hb
    replace r3 := r3.below hb
    replace m3 := m3.below hb
    replace b_g8 := b_g8.below hb
    replace r6 := r6.below hb
    replace b_g13 := b_g13.below hb
    replace r7 := r7.below hb
    replace b_g16 := b_g16.below hb
    replace hbel := hbel.trans (hb.mono hbel.size)
    clear hb
    obtain ⟨⟨uU, uL, uW, ur, uc⟩, eR⟩ : ∃ R, R = movR U3 L3 W3 rs3 (mx, my, mz) := ⟨_, rfl⟩
    have HR3 := Lib.hid eR
    clear eR
    go_upto_region 10 with fail
    obtain ⟨g19, hg19⟩ : ∃ g, g = w7.heap.size := ⟨_, rfl⟩
    obtain ⟨v7, hv7⟩ : ∃ V, V = (w7.alloc (.cells #[.int .i64 U3, .int .i64 L3, .int .i64 W3, .slice A8 rs3.length C8] 26)).alloc (.cells #[.int .i64 mx, .int .i64 my, .int .i64 mz] 37) := ⟨_, rfl⟩
    have b_g19 : Bx v7 g19 26 #[.int .i64 U3, .int .i64 L3, .int .i64 W3, .slice A8 rs3.length C8] := by rw [hv7, hg19]; exact (Bx.new _ _ _).alloc _
    have b_g191 : Bx v7 (g19 + 1) 37 #[.int .i64 mx, .int .i64 my, .int .i64 mz] := by rw [hv7, hg19]; simpa using Bx.new (w7.alloc (.cells #[.int .i64 U3, .int .i64 L3, .int .i64 W3, .slice A8 rs3.length C8] 26)) #[.int .i64 mx, .int .i64 my, .int .i64 mz] 37
    have hb : Below w7.heap.size w7 v7 := by rw [hv7]; exact ((Below.refl _ _).alloc (Nat.le_refl _) _).alloc (by simp) _
    rw [← hg19, ← hv7]
    clear hv7 hg19
    replace hx := hx.below hb
    replace r1 := r1.below hb
    replace b_g3 := b_g3.below hb
    replace r2 := r2.below hb
    replace m2 := m2.below hb
    replace b_g5 := b_g5.below hb
    replace r3 := r3.below hb
    replace m3 := m3.below hb
    replace b_g8 := b_g8.below hb
    replace r6 := r6.below hb
    replace b_g13 := b_g13.below hb
    replace r7 := r7.below hb
    replace b_g16 := b_g16.below hb
    replace r8 := r8.below hb
    replace hbel := hbel.trans (hb.mono hbel.size)
    clear hb
    have c190 := b_g19.at_ 0 rfl
    have c191 := b_g19.at_ 1 rfl
    have c192 := b_g19.at_ 2 rfl
    have c193 := b_g19.at_ 3 rfl
    have c1910 := b_g191.at_ 0 rfl
    have c1911 := b_g191.at_ 1 rfl
    have c1912 := b_g191.at_ 2 rfl
    go_wp2_with fail
    refine (implMoveBeads U3 L3 W3 A8 C8 rs3 (mx, my, mz) v7 r8 H3.out.u H3.out.l H3.out.w H3.out.all M3.out).mono ?_
    rintro e w8 ⟨A9, C9, he, o_, hb⟩
    rw [← HR3.out] at o_ he
    replace he : e = .returned (.tuple #[.agg #[.int .i64 uU, .int .i64 uL, .int .i64 uW, .slice A9 ur.length C9], .int .i64 uc]) := he
    subst he
    have r9 : RdF pairF w8 A9 ur := o_.rd
    clear o_
    clear c190 c191 c192 c193
    clear c1910 c1911 c1912
    replace hx := hx.below hb
    replace r1 := r1.below hb
    replace b_g3 := b_g3.below hb
    replace r2 := r2.below hb
    replace m2 := m2.below hb
    replace b_g5 := b_g5.below hb
    replace r3 := r3.below hb
    replace m3 := m3.below hb
    replace b_g8 := b_g8.below hb
    replace r6 := r6.below hb
    replace b_g13 := b_g13.below hb
    replace r7 := r7.below hb
    replace b_g16 := b_g16.below hb
    replace r8 := r8.below hb
    replace b_g19 := b_g19.below hb
    replace b_g191 := b_g191.below hb
    replace hbel := hbel.trans (hb.mono hbel.size)
    clear hb
    go_upto_region 11 with fail
    obtain ⟨g21, hg21⟩ : ∃ g, g = w8.heap.size := ⟨_, rfl⟩
    obtain ⟨v8, hv8⟩ : ∃ V, V = w8.alloc (.cells #[.int .i64 uU, .int .i64 uL, .int .i64 uW, .slice A9 ur.length C9] 26) := ⟨_, rfl⟩
    have b_g21 : Bx v8 g21 26 #[.int .i64 uU, .int .i64 uL, .int .i64 uW, .slice A9 ur.length C9] := by rw [hv8, hg21]; exact Bx.new _ _ _
    have hb : Below w8.heap.size w8 v8 := by rw [hv8]; exact (Below.refl _ _).alloc (Nat.le_refl _) _
    rw [← hg21, ← hv8]
    clear hv8 hg21
    replace hx := hx.below hb
    replace r1 := r1.below hb
    replace b_g3 := b_g3.below hb
    replace r2 := r2.below hb
    replace m2 := m2.below hb
    replace b_g5 := b_g5.below hb
    replace r3 := r3.below hb
    replace m3 := m3.below hb
    replace b_g8 := b_g8.below hb
    replace r6 := r6.below hb
    replace b_g13 := b_g13.below hb
    replace r7 := r7.below hb
    replace b_g16 := b_g16.below hb
    replace r8 := r8.below hb
    replace b_g19 := b_g19.below hb
    replace b_g191 := b_g191.below hb
    replace r9 := r9.below hb
    replace hbel := hbel.trans (hb.mono hbel.size)
    clear hb
    have c190 := b_g19.at_ 0 rfl
    have c191 := b_g19.at_ 1 rfl
    have c192 := b_g19.at_ 2 rfl
    have c193 := b_g19.at_ 3 rfl
    have c1910 := b_g191.at_ 0 rfl
    have c1911 := b_g191.at_ 1 rfl
    have c1912 := b_g191.at_ 2 rfl
    go_wp2_with fail
    refine (specMoveBeads U3 L3 W3 A8 C8 rs3 (mx, my, mz) v8 r8 H3.out.u H3.out.l H3.out.w H3.out.all M3.out).mono ?_
    rintro e w9 ⟨A10, C10, he, o_, hb⟩
    rw [← HR3.out] at o_ he
    replace he : e = .returned (.tuple #[.agg #[.int .i64 uU, .int .i64 uL, .int .i64 uW, .slice A10 ur.length C10], .int .i64 uc]) := he
    subst he
    have r10 : RdF pairF w9 A10 ur := o_.rd
    clear o_
    clear c190 c191 c192 c193
    clear c1910 c1911 c1912
    replace hx := hx.below hb
    replace r1 := r1.below hb
    replace b_g3 := b_g3.below hb
    replace r2 := r2.below hb
    replace m2 := m2.below hb
    replace b_g5 := b_g5.below hb
    replace r3 := r3.below hb
    replace m3 := m3.below hb
    replace b_g8 := b_g8.below hb
    replace r6 := r6.below hb
    replace b_g13 := b_g13.below hb
    replace r7 := r7.below hb
    replace b_g16 := b_g16.below hb
    replace r8 := r8.below hb
    replace b_g19 := b_g19.below hb
    replace b_g191 := b_g191.below hb
    replace r9 := r9.below hb
    replace b_g21 := b_g21.below hb
    replace hbel := hbel.trans (hb.mono hbel.size)
    clear hb
    go_upto_region 12 with fail
    obtain ⟨g23, hg23⟩ : ∃ g, g = w9.heap.size := ⟨_, rfl⟩
    obtain ⟨v9, hv9⟩ : ∃ V, V = w9.alloc (.cells #[.int .i64 uU, .int .i64 uL, .int .i64 uW, .slice A10 ur.length C10] 26) := ⟨_, rfl⟩
    have b_g23 : Bx v9 g23 26 #[.int .i64 uU, .int .i64 uL, .int .i64 uW, .slice A10 ur.length C10] := by rw [hv9, hg23]; exact Bx.new _ _ _
    have hb : Below w9.heap.size w9 v9 := by rw [hv9]; exact (Below.refl _ _).alloc (Nat.le_refl _) _
    rw [← hg23, ← hv9]
    clear hv9 hg23
    replace hx := hx.below hb
    replace r1 := r1.below hb
    replace b_g3 := b_g3.below hb
    replace r2 := r2.below hb
    replace m2 := m2.below hb
    replace b_g5 := b_g5.below hb
    replace r3 := r3.below hb
    replace m3 := m3.below hb
    replace b_g8 := b_g8.below hb
    replace r6 := r6.below hb
    replace b_g13 := b_g13.below hb
    replace r7 := r7.below hb
    replace b_g16 := b_g16.below hb
    replace r8 := r8.below hb
    replace b_g19 := b_g19.below hb
    replace b_g191 := b_g191.below hb
    replace r9 := r9.below hb
    replace b_g21 := b_g21.below hb
    replace r10 := r10.below hb
    replace hbel := hbel.trans (hb.mono hbel.size)
    clear hb
    clear r8 b_g19 b_g191
    go_wp2_with fail
    refine (drawBetween_any xA xZ xC v9 hx).mono ?_
    rintro e w10 ⟨U4, L4, W4, rs4, A11, C11, U5, L5, W5, rs5, A12, C12, rfl, hd, hd2, r11, r12, hb⟩
    have H4 := Lib.hid hd
    have H5 := Lib.hid hd2
    clear hd hd2
    replace hx := hx.below hb
    replace r1 := r1.below hb
    replace b_g3 := b_g3.below hb
    replace r2 := r2.below hb
    replace m2 := m2.below hb
    replace b_g5 := b_g5.below hb
    replace r3 := r3.below hb
    replace m3 := m3.below hb
    replace b_g8 := b_g8.below hb
    replace r6 := r6.below hb
    replace b_g13 := b_g13.below hb
    replace r7 := r7.below hb
    replace b_g16 := b_g16.below hb
    replace r9 := r9.below hb
    replace b_g21 := b_g21.below hb
    replace r10 := r10.below hb
    replace b_g23 := b_g23.below hb
    replace hbel := hbel.trans (hb.mono hbel.size)
    clear hb
    clear hx
    obtain ⟨⟨bk, bc⟩, eR⟩ : ∃ R, R = btwR U4 L4 W4 U5 L5 W5 rs4 rs5 := ⟨_, rfl⟩
    have HR4 := Lib.hid eR
    clear eR
    go_upto_region 13 with fail
    obtain ⟨g25, hg25⟩ : ∃ g, g = w10.heap.size := ⟨_, rfl⟩
    obtain ⟨v10, hv10⟩ : ∃ V, V = (w10.alloc (.cells #[.int .i64 U4, .int .i64 L4, .int .i64 W4, .slice A11 rs4.length C11] 26)).alloc (.cells #[.int .i64 U5, .int .i64 L5, .int .i64 W5, .slice A12 rs5.length C12] 26) := ⟨_, rfl⟩
    have b_g25 : Bx v10 g25 26 #[.int .i64 U4, .int .i64 L4, .int .i64 W4, .slice A11 rs4.length C11] := by rw [hv10, hg25]; exact (Bx.new _ _ _).alloc _
    have b_g251 : Bx v10 (g25 + 1) 26 #[.int .i64 U5, .int .i64 L5, .int .i64 W5, .slice A12 rs5.length C12] := by rw [hv10, hg25]; simpa using Bx.new (w10.alloc (.cells #[.int .i64 U4, .int .i64 L4, .int .i64 W4, .slice A11 rs4.length C11] 26)) #[.int .i64 U5, .int .i64 L5, .int .i64 W5, .slice A12 rs5.length C12] 26
    have hb : Below w10.heap.size w10 v10 := by rw [hv10]; exact ((Below.refl _ _).alloc (Nat.le_refl _) _).alloc (by simp) _
    rw [← hg25, ← hv10]
    clear hv10 hg25
    replace r1 := r1.below hb
    replace b_g3 := b_g3.below hb
    replace r2 := r2.below hb
    replace m2 := m2.below hb
    replace b_g5 := b_g5.below hb
    replace r3 := r3.below hb
    replace m3 := m3.below hb
    replace b_g8 := b_g8.below hb
    replace r6 := r6.below hb
    replace b_g13 := b_g13.below hb
    replace r7 := r7.below hb
    replace b_g16 := b_g16.below hb
    replace r9 := r9.below hb
    replace b_g21 := b_g21.below hb
    replace r10 := r10.below hb
    replace b_g23 := b_g23.below hb
    replace r11 := r11.below hb
    replace r12 := r12.below hb
    replace hbel := hbel.trans (hb.mono hbel.size)
    clear hb
    have c250 := b_g25.at_ 0 rfl
    have c251 := b_g25.at_ 1 rfl
    have c252 := b_g25.at_ 2 rfl
    have c253 := b_g25.at_ 3 rfl
    have c2510 := b_g251.at_ 0 rfl
    have c2511 := b_g251.at_ 1 rfl
    have c2512 := b_g251.at_ 2 rfl
    have c2513 := b_g251.at_ 3 rfl
    go_wp2_with fail
    refine (implBeadsBetween U4 L4 W4 A11 C11 rs4 U5 L5 W5 A12 C12 rs5 v10 r11 H4.out.u H4.out.l H4.out.w H4.out.all r12 H5.out.u H5.out.l H5.out.w H5.out.all).mono ?_
    rintro e w11 ⟨he, hb⟩
    rw [← HR4.out] at he
    replace he : e = .returned (.tuple #[.int .i64 bk, .int .i64 bc]) := he
    subst he
    clear c250 c251 c252 c253
    clear c2510 c2511 c2512 c2513
    replace r1 := r1.below hb
    replace b_g3 := b_g3.below hb
    replace r2 := r2.below hb
    replace m2 := m2.below hb
    replace b_g5 := b_g5.below hb
    replace r3 := r3.below hb
    replace m3 := m3.below hb
    replace b_g8 := b_g8.below hb
    replace r6 := r6.below hb
    replace b_g13 := b_g13.below hb
    replace r7 := r7.below hb
    replace b_g16 := b_g16.below hb
    replace r9 := r9.below hb
    replace b_g21 := b_g21.below hb
    replace r10 := r10.below hb
    replace b_g23 := b_g23.below hb
    replace r11 := r11.below hb
    replace r12 := r12.below hb
    replace b_g25 := b_g25.below hb
    replace b_g251 := b_g251.below hb
    replace hbel := hbel.trans (hb.mono hbel.size)
    clear hb
    go_upto_region 14 with fail
    have c250 := b_g25.at_ 0 rfl
    have c251 := b_g25.at_ 1 rfl
    have c252 := b_g25.at_ 2 rfl
    have c253 := b_g25.at_ 3 rfl
    have c2510 := b_g251.at_ 0 rfl
    have c2511 := b_g251.at_ 1 rfl
    have c2512 := b_g251.at_ 2 rfl
    have c2513 := b_g251.at_ 3 rfl
    go_wp2_with fail
    refine (specBeadsBetween U4 L4 W4 A11 C11 rs4 U5 L5 W5 A12 C12 rs5 w11 r11 H4.out.u H4.out.l H4.out.w H4.out.all r12 H5.out.u H5.out.l H5.out.w H5.out.all).mono ?_
    rintro e w12 ⟨he, hb⟩
    rw [← HR4.out] at he
    replace he : e = .returned (.tuple #[.int .i64 bk, .int .i64 bc]) := he
    subst he
    clear c250 c251 c252 c253
    clear c2510 c2511 c2512 c2513
    replace r1 := r1.below hb
    replace b_g3 := b_g3.below hb
    replace r2 := r2.below hb
    replace m2 := m2.below hb
    replace b_g5 := b_g5.below hb
    replace r3 := r3.below hb
    replace m3 := m3.below hb
    replace b_g8 := b_g8.below hb
    replace r6 := r6.below hb
    replace b_g13 := b_g13.below hb
    replace r7 := r7.below hb
    replace b_g16 := b_g16.below hb
    replace r9 := r9.below hb
    replace b_g21 := b_g21.below hb
    replace r10 := r10.below hb
    replace b_g23 := b_g23.below hb
    replace r11 := r11.below hb
    replace r12 := r12.below hb
    replace b_g25 := b_g25.below hb
    replace b_g251 := b_g251.below hb
    replace hbel := hbel.trans (hb.mono hbel.size)
    clear hb
    go_upto_region 15 with fail
    have n1 : (xc != xc) = false := by simp
    have n2 : (yc != yc) = false := by simp
    have n3 : (yn != yn) = false := by simp
    have n4 : (uc != uc) = false := by simp
    have n5 : (bc != bc) = false := by simp
    have n6 : (bk != bk) = false := by simp
    have c50 := b_g5.at_ 0 rfl
    have c51 := b_g5.at_ 1 rfl
    have c52 := b_g5.at_ 2 rfl
    have c53 := b_g5.at_ 3 rfl
    have c80 := b_g8.at_ 0 rfl
    have c81 := b_g8.at_ 1 rfl
    have c82 := b_g8.at_ 2 rfl
    have c83 := b_g8.at_ 3 rfl
    go_wp2_with fail
    have hsm := specSameAb xU xL xW A2 C2 xr xU xL xW A3 C3 xr w12 r2 r3
    rw [abaEqB_self] at hsm
    refine hsm.mono ?_
    rintro e w13 ⟨rfl, hb⟩
    clear c50 c51 c52 c53
    clear c80 c81 c82 c83
    clear hsm
    replace r1 := r1.below hb
    replace b_g3 := b_g3.below hb
    replace r2 := r2.below hb
    replace m2 := m2.below hb
    replace b_g5 := b_g5.below hb
    replace r3 := r3.below hb
    replace m3 := m3.below hb
    replace b_g8 := b_g8.below hb
    replace r6 := r6.below hb
    replace b_g13 := b_g13.below hb
    replace r7 := r7.below hb
    replace b_g16 := b_g16.below hb
    replace r9 := r9.below hb
    replace b_g21 := b_g21.below hb
    replace r10 := r10.below hb
    replace b_g23 := b_g23.below hb
    replace r11 := r11.below hb
    replace r12 := r12.below hb
    replace b_g25 := b_g25.below hb
    replace b_g251 := b_g251.below hb
    replace hbel := hbel.trans (hb.mono hbel.size)
    clear hb
    go_wp2_with fail
    refine (f6beads_same D2 D3 E2 E3 xm w13 m2 m3).mono ?_
    rintro e w14 ⟨rfl, hb⟩
    replace r1 := r1.below hb
    replace b_g3 := b_g3.below hb
    replace r2 := r2.below hb
    replace m2 := m2.below hb
    replace b_g5 := b_g5.below hb
    replace r3 := r3.below hb
    replace m3 := m3.below hb
    replace b_g8 := b_g8.below hb
    replace r6 := r6.below hb
    replace b_g13 := b_g13.below hb
    replace r7 := r7.below hb
    replace b_g16 := b_g16.below hb
    replace r9 := r9.below hb
    replace b_g21 := b_g21.below hb
    replace r10 := r10.below hb
    replace b_g23 := b_g23.below hb
    replace r11 := r11.below hb
    replace r12 := r12.below hb
    replace b_g25 := b_g25.below hb
    replace b_g251 := b_g251.below hb
    replace hbel := hbel.trans (hb.mono hbel.size)
    clear hb
    have c130 := b_g13.at_ 0 rfl
    have c131 := b_g13.at_ 1 rfl
    have c132 := b_g13.at_ 2 rfl
    have c133 := b_g13.at_ 3 rfl
    have c160 := b_g16.at_ 0 rfl
    have c161 := b_g16.at_ 1 rfl
    have c162 := b_g16.at_ 2 rfl
    have c163 := b_g16.at_ 3 rfl
    go_wp2_with fail
    have hsm := specSameAb yU yL yW A6 C6 yr yU yL yW A7 C7 yr w14 r6 r7
    rw [abaEqB_self] at hsm
    refine hsm.mono ?_
    rintro e w15 ⟨rfl, hb⟩
    clear c130 c131 c132 c133
    clear c160 c161 c162 c163
    clear hsm
    replace r1 := r1.below hb
    replace b_g3 := b_g3.below hb
    replace r2 := r2.below hb
    replace m2 := m2.below hb
    replace b_g5 := b_g5.below hb
    replace r3 := r3.below hb
    replace m3 := m3.below hb
    replace b_g8 := b_g8.below hb
    replace r6 := r6.below hb
    replace b_g13 := b_g13.below hb
    replace r7 := r7.below hb
    replace b_g16 := b_g16.below hb
    replace r9 := r9.below hb
    replace b_g21 := b_g21.below hb
    replace r10 := r10.below hb
    replace b_g23 := b_g23.below hb
    replace r11 := r11.below hb
    replace r12 := r12.below hb
    replace b_g25 := b_g25.below hb
    replace b_g251 := b_g251.below hb
    replace hbel := hbel.trans (hb.mono hbel.size)
    clear hb
    have c210 := b_g21.at_ 0 rfl
    have c211 := b_g21.at_ 1 rfl
    have c212 := b_g21.at_ 2 rfl
    have c213 := b_g21.at_ 3 rfl
    have c230 := b_g23.at_ 0 rfl
    have c231 := b_g23.at_ 1 rfl
    have c232 := b_g23.at_ 2 rfl
    have c233 := b_g23.at_ 3 rfl
    go_wp2_with fail
    have hsm := specSameAb uU uL uW A9 C9 ur uU uL uW A10 C10 ur w15 r9 r10
    rw [abaEqB_self] at hsm
    refine hsm.mono ?_
    rintro e w16 ⟨rfl, hb⟩
    clear c210 c211 c212 c213
    clear c230 c231 c232 c233
    clear hsm
    replace r1 := r1.below hb
    replace b_g3 := b_g3.below hb
    replace r2 := r2.below hb
    replace m2 := m2.below hb
    replace b_g5 := b_g5.below hb
    replace r3 := r3.below hb
    replace m3 := m3.below hb
    replace b_g8 := b_g8.below hb
    replace r6 := r6.below hb
    replace b_g13 := b_g13.below hb
    replace r7 := r7.below hb
    replace b_g16 := b_g16.below hb
    replace r9 := r9.below hb
    replace b_g21 := b_g21.below hb
    replace r10 := r10.below hb
    replace b_g23 := b_g23.below hb
    replace r11 := r11.below hb
    replace r12 := r12.below hb
    replace b_g25 := b_g25.below hb
    replace b_g251 := b_g251.below hb
    replace hbel := hbel.trans (hb.mono hbel.size)
    clear hb
    clear m3 r3 b_g8 r6 b_g13 r7 b_g16 r9 b_g21 r10 b_g23
    go_upto_region 17 with fail
    obtain ⟨w20, hw20⟩ : ∃ X, X = w16 := ⟨_, rfl⟩
    subst hw20
    clear n1 n2 n3 n4 n5 n6
    by_cases hy : bc = 0
    · subst hy
      have hbb := btw_back (U := U4) (L := L4) (W := W4) (U' := U5) (L' := L5) (W' := W5) (rs := rs4) (ss := rs5) (by rw [← HR4.out])
      rw [← HR4.out] at hbb
      obtain ⟨j1, j2⟩ := hbb
      replace j2 : (bk == 0) = abaEqB U4 L4 W4 U5 L5 W5 rs4 rs5 := j2
      obtain ⟨eb, heb⟩ : ∃ b : Bool, b = abaEqB U4 L4 W4 U5 L5 W5 rs4 rs5 := ⟨_, rfl⟩
      rw [← heb] at j2
      have JB := Lib.hid (fun u (h : RdF pairF u A11 rs4) (h' : RdF pairF u A12 rs5) => implBeadsBetween U5 L5 W5 A12 C12 rs5 U4 L4 W4 A11 C11 rs4 u h' H5.out.u H5.out.l H5.out.w H5.out.all h H4.out.u H4.out.l H4.out.w H4.out.all)
      rw [j1] at JB
      have HEB := Lib.hid heb
      clear j1 heb
      have c250 := b_g25.at_ 0 rfl
      have c251 := b_g25.at_ 1 rfl
      have c252 := b_g25.at_ 2 rfl
      have c253 := b_g25.at_ 3 rfl
      have c2510 := b_g251.at_ 0 rfl
      have c2511 := b_g251.at_ 1 rfl
      have c2512 := b_g251.at_ 2 rfl
      have c2513 := b_g251.at_ 3 rfl
      go_wp2_with fail
      refine (JB.out w20 r11 r12).mono ?_
      rintro e w21 ⟨rfl, hb⟩
      clear c250 c251 c252 c253
      clear c2510 c2511 c2512 c2513
      replace r1 := r1.below hb
      replace b_g3 := b_g3.below hb
      replace r2 := r2.below hb
      replace m2 := m2.below hb
      replace b_g5 := b_g5.below hb
      replace r11 := r11.below hb
      replace r12 := r12.below hb
      replace b_g25 := b_g25.below hb
      replace b_g251 := b_g251.below hb
      replace hbel := hbel.trans (hb.mono hbel.size)
      clear hb
      clear JB
      go_upto_region 19 with fail
      have n6 : (bk != bk) = false := by simp
      have n7 : (eb != eb) = false := by simp
      have c250 := b_g25.at_ 0 rfl
      have c251 := b_g25.at_ 1 rfl
      have c252 := b_g25.at_ 2 rfl
      have c253 := b_g25.at_ 3 rfl
      have c2510 := b_g251.at_ 0 rfl
      have c2511 := b_g251.at_ 1 rfl
      have c2512 := b_g251.at_ 2 rfl
      have c2513 := b_g251.at_ 3 rfl
      go_wp2_with fail
      have hsm := specSameAb U4 L4 W4 A11 C11 rs4 U5 L5 W5 A12 C12 rs5 w21 r11 r12
      rw [← HEB.out] at hsm
      refine hsm.mono ?_
      rintro e w22 ⟨rfl, hb⟩
      clear c250 c251 c252 c253
      clear c2510 c2511 c2512 c2513
      clear hsm
      replace r1 := r1.below hb
      replace b_g3 := b_g3.below hb
      replace r2 := r2.below hb
      replace m2 := m2.below hb
      replace b_g5 := b_g5.below hb
      replace r11 := r11.below hb
      replace r12 := r12.below hb
      replace b_g25 := b_g25.below hb
      replace b_g251 := b_g251.below hb
      replace hbel := hbel.trans (hb.mono hbel.size)
      clear hb
      clear r11 r12 b_g25 b_g251
      go_upto_region 21 with fail
      clear j2 n6 n7
      by_cases hc : xc = 0
      · subst hc
        obtain ⟨j1, j2, j3, j4, j5⟩ := addAR_done HR1.out.symm
        obtain ⟨j6, j7, j8⟩ := addAR_bd HR1.out.symm
        have j9 := Lib.hid (plain64 j3)
        obtain ⟨V, hV⟩ : ∃ V, V = abaV W1 rs1 := ⟨_, rfl⟩
        rw [← hV] at j1 j2 j6
        have J1 := Lib.hid (fun u (h : RdF pairF u A1 rs1) => implAbacusValue U1 L1 W1 A1 C1 rs1 u h H1.out.u H1.out.l H1.out.w H1.out.all)
        have J2 := Lib.hid (fun u (h : RdF pairF u A2 xr) => implAbacusValue xU xL xW A2 C2 xr u h j9.out.1 j9.out.2.1 j9.out.2.2.1 j9.out.2.2.2)
        have J3 := Lib.hid (fun u (h : RdF pairF u A2 xr) => implIsPlain xU xL xW A2 C2 xr u h j9.out.1 j9.out.2.1 j9.out.2.2.1 j9.out.2.2.2)
        have J4 := Lib.hid (fun u (h : RdF pairF u A1 rs1) (h' : RdF tripF u D2 xm) => implReplayBeads U1 L1 W1 A1 C1 rs1 D2 E2 xm u h H1.out.u H1.out.l H1.out.w H1.out.all h' j5)
        rw [j1] at J1
        rw [j2] at J2
        rw [j3] at J3
        rw [j4] at J4
        clear hV j1 j2 j3 j4 j5 j9
        have c30 := b_g3.at_ 0 rfl
        have c31 := b_g3.at_ 1 rfl
        have c32 := b_g3.at_ 2 rfl
        have c33 := b_g3.at_ 3 rfl
        go_wp2_with fail
        refine (J1.out w22 r1).mono ?_
        rintro e w30 ⟨rfl, hb⟩
        clear c30 c31 c32 c33
        replace r1 := r1.below hb
        replace b_g3 := b_g3.below hb
        replace r2 := r2.below hb
        replace m2 := m2.below hb
        replace b_g5 := b_g5.below hb
        replace hbel := hbel.trans (hb.mono hbel.size)
        clear hb
        have c50 := b_g5.at_ 0 rfl
        have c51 := b_g5.at_ 1 rfl
        have c52 := b_g5.at_ 2 rfl
        have c53 := b_g5.at_ 3 rfl
        go_wp2_with fail
        refine (J2.out w30 r2).mono ?_
        rintro e w31 ⟨rfl, hb⟩
        clear c50 c51 c52 c53
        replace r1 := r1.below hb
        replace b_g3 := b_g3.below hb
        replace r2 := r2.below hb
        replace m2 := m2.below hb
        replace b_g5 := b_g5.below hb
        replace hbel := hbel.trans (hb.mono hbel.size)
        clear hb
        have c30 := b_g3.at_ 0 rfl
        have c31 := b_g3.at_ 1 rfl
        have c32 := b_g3.at_ 2 rfl
        have c33 := b_g3.at_ 3 rfl
        go_wp2_with fail
        refine (J4.out w31 r1 m2).mono ?_
        rintro e w32 ⟨A13, C13, he, o_, hb⟩
        replace he : e = .returned (.tuple #[.agg #[.int .i64 xU, .int .i64 xL, .int .i64 xW, .slice A13 xr.length C13], .int .i64 (xm.length : Int), .int .i64 0]) := he
        subst he
        have r13 : RdF pairF w32 A13 xr := o_.rd
        clear o_
        clear c30 c31 c32 c33
        replace r1 := r1.below hb
        replace b_g3 := b_g3.below hb
        replace r2 := r2.below hb
        replace m2 := m2.below hb
        replace b_g5 := b_g5.below hb
        replace hbel := hbel.trans (hb.mono hbel.size)
        clear hb
        go_upto_region 26 with fail
        obtain ⟨g37, hg37⟩ : ∃ g, g = w32.heap.size := ⟨_, rfl⟩
        obtain ⟨v11, hv11⟩ : ∃ V, V = w32.alloc (.cells #[.int .i64 xU, .int .i64 xL, .int .i64 xW, .slice A13 xr.length C13] 26) := ⟨_, rfl⟩
        have b_g37 : Bx v11 g37 26 #[.int .i64 xU, .int .i64 xL, .int .i64 xW, .slice A13 xr.length C13] := by rw [hv11, hg37]; exact Bx.new _ _ _
        have hb : Below w32.heap.size w32 v11 := by rw [hv11]; exact (Below.refl _ _).alloc (Nat.le_refl _) _
        rw [← hg37, ← hv11]
        clear hv11 hg37
        replace r1 := r1.below hb
        replace b_g3 := b_g3.below hb
        replace r2 := r2.below hb
        replace m2 := m2.below hb
        replace b_g5 := b_g5.below hb
        replace r13 := r13.below hb
        replace hbel := hbel.trans (hb.mono hbel.size)
        clear hb
        have hxl := m2.len
        have hv1 : IntKind.i64.wrap (V + z1) = V + z1 := IntWalk.i64_in _ (by omega)
        have he1 : (V + z1 == V + z1) = true := by simp
        have he2 : ((xm.length : Int) == (xm.length : Int)) = true := by simp
        have c50 := b_g5.at_ 0 rfl
        have c51 := b_g5.at_ 1 rfl
        have c52 := b_g5.at_ 2 rfl
        have c53 := b_g5.at_ 3 rfl
        go_wp2_with fail
        refine (J3.out v11 r2).mono ?_
        rintro e w33 ⟨rfl, hb⟩
        clear c50 c51 c52 c53
        replace r1 := r1.below hb
        replace b_g3 := b_g3.below hb
        replace r2 := r2.below hb
        replace m2 := m2.below hb
        replace b_g5 := b_g5.below hb
        replace r13 := r13.below hb
        replace b_g37 := b_g37.below hb
        replace hbel := hbel.trans (hb.mono hbel.size)
        clear hb
        clear J1 J2 J3 J4
        have c370 := b_g37.at_ 0 rfl
        have c371 := b_g37.at_ 1 rfl
        have c372 := b_g37.at_ 2 rfl
        have c373 := b_g37.at_ 3 rfl
        have c50 := b_g5.at_ 0 rfl
        have c51 := b_g5.at_ 1 rfl
        have c52 := b_g5.at_ 2 rfl
        have c53 := b_g5.at_ 3 rfl
        go_wp2_with fail
        have hsm := specSameAb xU xL xW A13 C13 xr xU xL xW A2 C2 xr w33 r13 r2
        rw [abaEqB_self] at hsm
        refine hsm.mono ?_
        rintro e w34 ⟨rfl, hb⟩
        clear hsm
        clear c50 c51 c52 c53
        clear c370 c371 c372 c373
        replace r1 := r1.below hb
        replace b_g3 := b_g3.below hb
        replace r2 := r2.below hb
        replace m2 := m2.below hb
        replace b_g5 := b_g5.below hb
        replace r13 := r13.below hb
        replace b_g37 := b_g37.below hb
        replace hbel := hbel.trans (hb.mono hbel.size)
        clear hb
        go_wp2
        go_ret
        exact ⟨rfl, hbel⟩
      · have hc' : (xc != 0) = true := by simp [hc]
        go_wp2
        go_ret
        exact ⟨rfl, hbel⟩
    · have hy' : (bc == 0) = false := beq_eq_false_iff_ne.2 hy
      go_upto_region 21 with fail
      clear hy'
      by_cases hc : xc = 0
      · subst hc
        obtain ⟨j1, j2, j3, j4, j5⟩ := addAR_done HR1.out.symm
        obtain ⟨j6, j7, j8⟩ := addAR_bd HR1.out.symm
        have j9 := Lib.hid (plain64 j3)
        obtain ⟨V, hV⟩ : ∃ V, V = abaV W1 rs1 := ⟨_, rfl⟩
        rw [← hV] at j1 j2 j6
        have J1 := Lib.hid (fun u (h : RdF pairF u A1 rs1) => implAbacusValue U1 L1 W1 A1 C1 rs1 u h H1.out.u H1.out.l H1.out.w H1.out.all)
        have J2 := Lib.hid (fun u (h : RdF pairF u A2 xr) => implAbacusValue xU xL xW A2 C2 xr u h j9.out.1 j9.out.2.1 j9.out.2.2.1 j9.out.2.2.2)
        have J3 := Lib.hid (fun u (h : RdF pairF u A2 xr) => implIsPlain xU xL xW A2 C2 xr u h j9.out.1 j9.out.2.1 j9.out.2.2.1 j9.out.2.2.2)
        have J4 := Lib.hid (fun u (h : RdF pairF u A1 rs1) (h' : RdF tripF u D2 xm) => implReplayBeads U1 L1 W1 A1 C1 rs1 D2 E2 xm u h H1.out.u H1.out.l H1.out.w H1.out.all h' j5)
        rw [j1] at J1
        rw [j2] at J2
        rw [j3] at J3
        rw [j4] at J4
        clear hV j1 j2 j3 j4 j5 j9
        have c30 := b_g3.at_ 0 rfl
        have c31 := b_g3.at_ 1 rfl
        have c32 := b_g3.at_ 2 rfl
        have c33 := b_g3.at_ 3 rfl
        go_wp2_with fail
        refine (J1.out w20 r1).mono ?_
        rintro e w30 ⟨rfl, hb⟩
        clear c30 c31 c32 c33
        replace r1 := r1.below hb
        replace b_g3 := b_g3.below hb
        replace r2 := r2.below hb
        replace m2 := m2.below hb
        replace b_g5 := b_g5.below hb
        replace r11 := r11.below hb
        replace r12 := r12.below hb
        replace b_g25 := b_g25.below hb
        replace b_g251 := b_g251.below hb
        replace hbel := hbel.trans (hb.mono hbel.size)
        clear hb
        have c50 := b_g5.at_ 0 rfl
        have c51 := b_g5.at_ 1 rfl
        have c52 := b_g5.at_ 2 rfl
        have c53 := b_g5.at_ 3 rfl
        go_wp2_with fail
        refine (J2.out w30 r2).mono ?_
        rintro e w31 ⟨rfl, hb⟩
        clear c50 c51 c52 c53
        replace r1 := r1.below hb
        replace b_g3 := b_g3.below hb
        replace r2 := r2.below hb
        replace m2 := m2.below hb
        replace b_g5 := b_g5.below hb
        replace r11 := r11.below hb
        replace r12 := r12.below hb
        replace b_g25 := b_g25.below hb
        replace b_g251 := b_g251.below hb
        replace hbel := hbel.trans (hb.mono hbel.size)
        clear hb
        have c30 := b_g3.at_ 0 rfl
        have c31 := b_g3.at_ 1 rfl
        have c32 := b_g3.at_ 2 rfl
        have c33 := b_g3.at_ 3 rfl
        go_wp2_with fail
        refine (J4.out w31 r1 m2).mono ?_
        rintro e w32 ⟨A13, C13, he, o_, hb⟩
        replace he : e = .returned (.tuple #[.agg #[.int .i64 xU, .int .i64 xL, .int .i64 xW, .slice A13 xr.length C13], .int .i64 (xm.length : Int), .int .i64 0]) := he
        subst he
        have r13 : RdF pairF w32 A13 xr := o_.rd
        clear o_
        clear c30 c31 c32 c33
        replace r1 := r1.below hb
        replace b_g3 := b_g3.below hb
        replace r2 := r2.below hb
        replace m2 := m2.below hb
        replace b_g5 := b_g5.below hb
        replace r11 := r11.below hb
        replace r12 := r12.below hb
        replace b_g25 := b_g25.below hb
        replace b_g251 := b_g251.below hb
        replace hbel := hbel.trans (hb.mono hbel.size)
        clear hb
        go_upto_region 26 with fail
        obtain ⟨g37, hg37⟩ : ∃ g, g = w32.heap.size := ⟨_, rfl⟩
        obtain ⟨v11, hv11⟩ : ∃ V, V = w32.alloc (.cells #[.int .i64 xU, .int .i64 xL, .int .i64 xW, .slice A13 xr.length C13] 26) := ⟨_, rfl⟩
        have b_g37 : Bx v11 g37 26 #[.int .i64 xU, .int .i64 xL, .int .i64 xW, .slice A13 xr.length C13] := by rw [hv11, hg37]; exact Bx.new _ _ _
        have hb : Below w32.heap.size w32 v11 := by rw [hv11]; exact (Below.refl _ _).alloc (Nat.le_refl _) _
        rw [← hg37, ← hv11]
        clear hv11 hg37
        replace r1 := r1.below hb
        replace b_g3 := b_g3.below hb
        replace r2 := r2.below hb
        replace m2 := m2.below hb
        replace b_g5 := b_g5.below hb
        replace r11 := r11.below hb
        replace r12 := r12.below hb
        replace b_g25 := b_g25.below hb
        replace b_g251 := b_g251.below hb
        replace r13 := r13.below hb
        replace hbel := hbel.trans (hb.mono hbel.size)
        clear hb
        have hxl := m2.len
        have hv1 : IntKind.i64.wrap (V + z1) = V + z1 := IntWalk.i64_in _ (by omega)
        have he1 : (V + z1 == V + z1) = true := by simp
        have he2 : ((xm.length : Int) == (xm.length : Int)) = true := by simp
        have c50 := b_g5.at_ 0 rfl
        have c51 := b_g5.at_ 1 rfl
        have c52 := b_g5.at_ 2 rfl
        have c53 := b_g5.at_ 3 rfl
        go_wp2_with fail
        refine (J3.out v11 r2).mono ?_
        rintro e w33 ⟨rfl, hb⟩
        clear c50 c51 c52 c53
        replace r1 := r1.below hb
        replace b_g3 := b_g3.below hb
        replace r2 := r2.below hb
        replace m2 := m2.below hb
        replace b_g5 := b_g5.below hb
        replace r11 := r11.below hb
        replace r12 := r12.below hb
        replace b_g25 := b_g25.below hb
        replace b_g251 := b_g251.below hb
        replace r13 := r13.below hb
        replace b_g37 := b_g37.below hb
        replace hbel := hbel.trans (hb.mono hbel.size)
        clear hb
        clear J1 J2 J3 J4
        have c370 := b_g37.at_ 0 rfl
        have c371 := b_g37.at_ 1 rfl
        have c372 := b_g37.at_ 2 rfl
        have c373 := b_g37.at_ 3 rfl
        have c50 := b_g5.at_ 0 rfl
        have c51 := b_g5.at_ 1 rfl
        have c52 := b_g5.at_ 2 rfl
        have c53 := b_g5.at_ 3 rfl
        go_wp2_with fail
        have hsm := specSameAb xU xL xW A13 C13 xr xU xL xW A2 C2 xr w33 r13 r2
        rw [abaEqB_self] at hsm
        refine hsm.mono ?_
        rintro e w34 ⟨rfl, hb⟩
        clear hsm
        clear c50 c51 c52 c53
        clear c370 c371 c372 c373
        replace r1 := r1.below hb
        replace b_g3 := b_g3.below hb
        replace r2 := r2.below hb
        replace m2 := m2.below hb
        replace b_g5 := b_g5.below hb
        replace r11 := r11.below hb
        replace r12 := r12.below hb
        replace b_g25 := b_g25.below hb
        replace b_g251 := b_g251.below hb
        replace r13 := r13.below hb
        replace b_g37 := b_g37.below hb
        replace hbel := hbel.trans (hb.mono hbel.size)
        clear hb
        go_wp2
        go_ret
        exact ⟨rfl, hbel⟩
      · have hc' : (xc != 0) = true := by simp [hc]
        go_wp2
        go_ret
        exact ⟨rfl, hbel⟩
end Go.Proofs.Ytcfpfhlgcfmioaa
