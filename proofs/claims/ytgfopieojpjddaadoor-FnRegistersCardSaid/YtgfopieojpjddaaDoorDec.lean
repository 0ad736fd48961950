/-
  The decimal form of a number, in the specification.
-/
import Derived.Test.YtgfopieojpjddaaDoorProg
import Derived.Test.YtgfopieojpjddaaDoorRow
import Derived.Lib.ItoaNum
import Derived.Laws.IdiomStrings
namespace Go.Proofs.YtgfopieojpjddaaDoor
open Go.RowKit

/-- The decimal digits of a number, none for 0. -/
def dg (u : Nat) : List UInt8 :=
  if _ : u = 0 then [] else dg (u / 10) ++ [UInt8.ofNat (48 + u % 10)]
termination_by u
decreasing_by omega
theorem dg_zero : dg 0 = [] := by rw [dg, dif_pos rfl]
theorem dg_pos {u : Nat} (h : u ≠ 0) : dg u = dg (u / 10) ++ [UInt8.ofNat (48 + u % 10)] := by rw [dg, dif_neg h]
theorem dg_ne {u : Nat} (h : u ≠ 0) : dg u ≠ [] := by rw [dg_pos h]; simp
theorem dg_dec : ∀ {u : Nat}, u ≠ 0 → dg u = Lib.decDigits u := by
  intro u
  induction u using Nat.strongRecOn with
  | _ u ih =>
    intro h
    rw [dg_pos h, Lib.decDigits]
    by_cases h10 : u < 10
    · rw [dif_pos h10, show u / 10 = 0 by omega, dg_zero, List.nil_append, show u % 10 = u by omega]
    · rw [dif_neg h10, ih (u / 10) (by omega) (by omega)]
theorem dg_len : ∀ (k u : Nat), u < 10 ^ k → (dg u).length ≤ k := by
  intro k
  induction k with
  | zero => intro u h; have : u = 0 := by simpa using h
            rw [this, dg_zero]; simp
  | succ k ih =>
    intro u h
    by_cases h0 : u = 0
    · rw [h0, dg_zero]; simp
    · rw [dg_pos h0]
      have := ih (u / 10) (by rw [Nat.pow_succ] at h; omega)
      simp; omega
theorem itoa_zero : Lib.itoa 0 = [48] := by unfold Lib.itoa; rw [if_neg (by omega)]; rw [Lib.decDigits, dif_pos (by decide)]; rfl
theorem itoa_neg {n : Int} (h : n < 0) : Lib.itoa n = 45 :: dg n.natAbs := by unfold Lib.itoa; rw [if_pos h, dg_dec (by omega)]
theorem itoa_pos {n : Int} (h : 0 < n) : Lib.itoa n = dg n.natAbs := by unfold Lib.itoa; rw [if_neg (by omega), dg_dec (by omega)]; congr 1; omega

/-- Bytes as cells. -/
def u8s (l : List UInt8) : List Value := l.map fun b => Value.int .u8 (b.toNat : Int)
theorem u8s_cons (b : UInt8) (l : List UInt8) : u8s (b :: l) = [Value.int .u8 (b.toNat : Int)] ++ u8s l := rfl
theorem u8s_len (l : List UInt8) : (u8s l).length = l.length := by simp [u8s]
theorem u8s_at {l : List UInt8} {j : Nat} (h : j < l.length) : (u8s l)[j]? = some (.int .u8 (l[j].toNat : Int)) := by simp [u8s, List.getElem?_map, List.getElem?_eq_getElem h]
theorem info_u8 : (Tryd.prog.info? 5).map (fun i => (i.zero, i.size, i.bytes)) = some (some (.int .u8 0), 1, 1) := by kernel_rfl

theorem td10 (j : Int) : ∃ q r : Int, j.tdiv 10 = q ∧ j.tmod 10 = r ∧ q.natAbs = j.natAbs / 10 ∧ r.natAbs = j.natAbs % 10 ∧ (0 ≤ j → 0 ≤ q ∧ 0 ≤ r) ∧ (j ≤ 0 → q ≤ 0 ∧ r ≤ 0) := by
  rcases Int.le_total 0 j with h | h
  · refine ⟨j / 10, j % 10, Int.tdiv_eq_ediv_of_nonneg h, Int.tmod_eq_emod_of_nonneg h, by omega, by omega, fun _ => by omega, fun _ => by omega⟩
  · obtain ⟨m, rfl⟩ : ∃ m : Nat, j = -(m : Int) := ⟨j.natAbs, by omega⟩
    refine ⟨-((m : Int) / 10), -((m : Int) % 10), ?_, ?_, by omega, by omega, fun _ => by omega, fun _ => by omega⟩
    · rw [Int.neg_tdiv, Int.tdiv_eq_ediv_of_nonneg (by omega)]
    · rw [Int.neg_tmod, Int.tmod_eq_emod_of_nonneg (by omega)]
/-- The next digit. -/
theorem dg_next {j q r n : Int} {l : List UInt8} (h : dg j.natAbs ++ l = dg n.natAbs) (hj : j ≠ 0) (hq : q.natAbs = j.natAbs / 10) (hr : r.natAbs = j.natAbs % 10) : dg q.natAbs ++ (UInt8.ofNat (48 + r.natAbs) :: l) = dg n.natAbs := by
  rw [← h, dg_pos (u := j.natAbs) (by omega), hq, hr]; simp
theorem u8_val {r : Int} (h1 : -9 ≤ r) (h2 : r ≤ 9) : ((UInt8.ofNat (48 + r.natAbs)).toNat : Int) = 48 + (r.natAbs : Int) := by
  rw [UInt8.toNat_ofNat']; omega

theorem u8s_one {l : List UInt8} : ∀ u ∈ u8s l, u.oneCell' = true := by
  intro u hu
  obtain ⟨b, _, rfl⟩ := List.mem_map.1 hu
  rfl

/-- What has been written so far, and what is left. -/
def DecRel (n : Int) (w : World) (o k : Value) (wr : World) : Prop := ∃ (j : Int) (l : List UInt8) (A : Addr) (C : Nat), k = .int .i64 j ∧ o = .slice (some A) l.length C ∧
  Hid (dg j.natAbs ++ l = dg n.natAbs) ∧ Hid (0 ≤ n ∧ 0 ≤ j ∨ n ≤ 0 ∧ j ≤ 0) ∧ -9223372036854775808 ≤ j ∧ j ≤ 9223372036854775807 ∧ l.length ≤ 20 ∧ Row 5 1 wr w.heap.size wr.heap.size (.slice (some A) l.length C) l.length (u8s l) ∧ Below w.heap.size w wr

set_option maxRecDepth 100000 in
set_option maxHeartbeats 4000000 in
theorem l01Dec_any (n : Int) (w : World) (h0 : -9223372036854775808 ≤ n) (h1 : n ≤ 9223372036854775807) :
    Calls Tryd.prog 117 #[.int .i64 n] w fun e w' => e = .returned (.string ⟨(Lib.itoa n).toArray⟩) ∧ Below w.heap.size w w' := by
  have HH : Hid ((dg n.natAbs).length ≤ 20) := Lib.hid (dg_len 20 n.natAbs (by omega))
  go_enter Tryd.func117, Tryd.ntmps117
  go_wp2
  go_loopw [3, 4] (fun o k wr => DecRel n w o k wr) (fun _ k _ => (intOf k).natAbs)
  case atStart =>
    refine ⟨n, [], _, _, rfl, rfl, Lib.hid (by simp), Lib.hid (by omega), h0, h1, by simp, ?_, (Below.refl _ _).alloc (Nat.le_refl _) _⟩
    have := row_new 5 1 w #[] 0 rfl (by omega)
    simpa [u8s] using this
  case round =>
    obtain ⟨j, l, A, C, rfl, rfl, hd, hsg, hj3, hj4, hl, row, hbel⟩ := hrel
    by_cases hj : j = 0
    · subst hj
      have hd0 : l = dg n.natAbs := by have := hd.out; rw [show (0 : Int).natAbs = 0 from rfl, dg_zero, List.nil_append] at this; exact this
      have hcv := run_convert_bytes_back (P := Tryd.prog) wr 57 9 5 A C l Tryd.underlying57 Tryd.underlying5 Tryd.underlying9 (fun j hj => row.cell (u8s_at hj))
      clear hd hsg row
      rcases Int.lt_trichotomy n 0 with hn | hn | hn
      · have HI : Hid (Lib.itoa n = 45 :: l) := Lib.hid (by rw [itoa_neg hn, hd0])
        have hlp : 0 < l.length := by
          rw [hd0]; exact List.length_pos_iff.2 (dg_ne (by omega))
        clear hd0
        go_wp2
        go_ret
        exact ⟨by rw [HI.out]; rfl, hbel⟩
      · subst hn
        have hl0 : l = [] := by rw [hd0]; exact dg_zero
        subst hl0
        have HI := Lib.hid itoa_zero
        clear hd0
        go_wp2
        go_ret
        exact ⟨by rw [HI.out]; rfl, hbel⟩
      · have HI : Hid (Lib.itoa n = l) := Lib.hid (by rw [itoa_pos hn, hd0])
        have hlp : 0 < l.length := by
          rw [hd0]; exact List.length_pos_iff.2 (dg_ne (by omega))
        clear hd0
        go_wp2
        go_ret
        exact ⟨by rw [HI.out]; rfl, hbel⟩
    · obtain ⟨q, r, hq, hr, hqa, hra, hp, hn⟩ := td10 j
      have hr1 : -9 ≤ r := by omega
      have hr2 : r ≤ 9 := by omega
      have hq1 : -9223372036854775808 ≤ q := by omega
      have hq2 : q ≤ 9223372036854775807 := by omega
      have hqw : wrap64 q = q := IntWalk.wrap64_in _ ⟨by omega, by omega⟩
      have HD := Lib.hid (dg_next hd.out hj hqa hra)
      have hl2 : l.length + 1 ≤ 20 := by have := HH.out; rw [← HD.out] at this; simp at this; omega
      have HS : Hid (0 ≤ n ∧ 0 ≤ q ∨ n ≤ 0 ∧ q ≤ 0) := Lib.hid (by rcases hsg.out with h | h; exact .inl ⟨h.1, (hp h.2).1⟩; exact .inr ⟨h.1, (hn h.2).1⟩)
      have hm : Hid (q.natAbs < j.natAbs) := Lib.hid (by omega)
      have HB := Lib.hid (u8_val hr1 hr2)
      have hrow := row.alloc (.cells #[.int .u8 (48 + (r.natAbs : Int))] 5)
      have hnew := row_new 5 1 wr #[.int .u8 (48 + (r.natAbs : Int))] 1 rfl (by omega)
      clear hd hsg hqa hra hp hn row
      by_cases hr0 : r < 0
      · have hab : (r.natAbs : Int) = -r := by omega
        rw [hab] at hrow hnew HB
        clear hab
        go_wp2_with (at_builtin; go_must (refine wpList_appR rfl (.tmp 21) (.tmp 22) 57 5 rfl (.int .u8 0) 1 1 Tryd.underlying57 info_u8 rfl (by omega) (by omega) rfl hnew A l.length C (u8s l) rfl (by simp [u8s_len]) (fun j u h => hrow.cell h) u8s_one (by omega) (by simp) ?_); intro A' C' w1 row1 ht1)
        have hb1 : Below w.heap.size w w1 := (hbel.alloc (by have := hbel.size; omega) _).trans (ht1.below hbel.size (by have := hbel.size; simp; omega))
        obtain ⟨A2, rfl⟩ : ∃ A2, A' = some A2 := by
          cases A' with
          | none => have := row1.none_.1; omega
          | some A2 => exact ⟨A2, rfl⟩
        go_roundw
        case rel =>
          refine ⟨q, _ :: l, A2, C', rfl, ?_, HD, HS, hq1, hq2, by simpa using hl2, ?_, hb1⟩
          · simp [Nat.add_comm]
          · rw [u8s_cons, HB.out]
            have := row1.wide (lo' := w.heap.size) hbel.size (Nat.le_refl _)
            simpa [Nat.add_comm] using this
        case measure => have := hm.out; simp [intOf]; omega
      · have hab : (r.natAbs : Int) = r := by omega
        rw [hab] at hrow hnew HB
        clear hab
        have hr3 : 0 ≤ r := by omega
        go_wp2_with (at_builtin; go_must (refine wpList_appR rfl (.tmp 21) (.tmp 22) 57 5 rfl (.int .u8 0) 1 1 Tryd.underlying57 info_u8 rfl (by omega) (by omega) rfl hnew A l.length C (u8s l) rfl (by simp [u8s_len]) (fun j u h => hrow.cell h) u8s_one (by omega) (by simp) ?_); intro A' C' w1 row1 ht1)
        have hb1 : Below w.heap.size w w1 := (hbel.alloc (by have := hbel.size; omega) _).trans (ht1.below hbel.size (by have := hbel.size; simp; omega))
        obtain ⟨A2, rfl⟩ : ∃ A2, A' = some A2 := by
          cases A' with
          | none => have := row1.none_.1; omega
          | some A2 => exact ⟨A2, rfl⟩
        go_roundw
        case rel =>
          refine ⟨q, _ :: l, A2, C', rfl, ?_, HD, HS, hq1, hq2, by simpa using hl2, ?_, hb1⟩
          · simp [Nat.add_comm]
          · rw [u8s_cons, HB.out]
            have := row1.wide (lo' := w.heap.size) hbel.size (Nat.le_refl _)
            simpa [Nat.add_comm] using this
        case measure => have := hm.out; simp [intOf]; omega
end Go.Proofs.YtgfopieojpjddaaDoor
