/-
  Several texts in one: Num, SplitM, Dec, DecI, MarkT, ReadI, ReadS, StrS, SplitS, RgM, RgI, RgS, RmM, RmS, RmI.
-/
import Derived.Test.YtlahobdopmdfmaaGreatDoorProg
import Derived.Test.YtlahobdopmdfmaaGreatDoorRow
import Derived.Test.YtlahobdopmdfmaaGreatDoorShFmt
import Derived.Test.YtlahobdopmdfmaaGreatDoorBase
import Derived.Test.YtlahobdopmdfmaaGreatDoorShNum
import Derived.Test.YtlahobdopmdfmaaGreatDoorFlat
import Derived.Test.YtlahobdopmdfmaaGreatDoorLeft
import Derived.Test.YtlahobdopmdfmaaGreatDoorInS
import Derived.Test.YtlahobdopmdfmaaGreatDoorVal
import Derived.Test.YtlahobdopmdfmaaGreatDoorOkI
import Derived.Test.YtlahobdopmdfmaaGreatDoorApp
import Derived.Test.YtlahobdopmdfmaaGreatDoorToI
import Derived.Test.YtlahobdopmdfmaaGreatDoorShCut
import Derived.Test.YtlahobdopmdfmaaGreatDoorOkS
import Derived.Test.YtlahobdopmdfmaaGreatDoorOrd
import Derived.Test.YtlahobdopmdfmaaGreatDoorMacLow
import Derived.Test.YtlahobdopmdfmaaGreatDoorShSpl
import Derived.Lib.ItoaNum
import Derived.Lib.ParseIntB
import Derived.WalkKit
import Derived.Laws.IdiomStrings
import Derived.Lib.LaidTab
import Derived.KernelRfl
import Derived.Lib.AppendIntMem
import Derived.Lib.SmallJoins
import Derived.Lib.Strings
import Derived.Deep.Cut
import Derived.Lib.IndexMore
import Derived.Laws.RangeAny
import Derived.Lib.SplitLaws

/- Num -/
namespace Go.Proofs.YtlahobdopmdfmaaGreatDoor
open Go Go.Lib

/-- What digits say, behind a number. -/
def pv (acc : Nat) (l : List UInt8) : Nat := l.foldl (fun a c => a * 10 + (c.toNat - 48)) acc
def isNum (c : UInt8) : Prop := 48 ≤ c.toNat ∧ c.toNat ≤ 57
theorem pv_nil (acc : Nat) : pv acc [] = acc := rfl
theorem pv_cons (acc : Nat) (c : UInt8) (l : List UInt8) : pv acc (c :: l) = pv (acc * 10 + (c.toNat - 48)) l := by unfold pv; rw [List.foldl_cons]
theorem pv_snoc (acc : Nat) (l : List UInt8) (c : UInt8) : pv acc (l ++ [c]) = pv acc l * 10 + (c.toNat - 48) := by unfold pv; rw [List.foldl_append, List.foldl_cons, List.foldl_nil]
theorem pv_ge : ∀ (l : List UInt8) (acc : Nat), acc ≤ pv acc l
  | [], acc => Nat.le_refl _
  | c :: l, acc => by rw [pv_cons]; exact Nat.le_trans (by omega) (pv_ge l _)
theorem pv_lt : ∀ (l : List UInt8) (acc : Nat), (∀ c ∈ l, isNum c) → pv acc l < (acc + 1) * 10 ^ l.length
  | [], acc, _ => by simp [pv_nil]
  | c :: l, acc, h => by
    have hc := h c (by simp)
    have := pv_lt l (acc * 10 + (c.toNat - 48)) (fun x hx => h x (by simp [hx]))
    rw [pv_cons, List.length_cons, Nat.pow_succ]
    refine Nat.lt_of_lt_of_le this ?_
    rw [Nat.mul_comm (10 ^ l.length) 10, ← Nat.mul_assoc]
    exact Nat.mul_le_mul_right _ (by have := hc.2; omega)
theorem pu_ok : ∀ (l : List UInt8) (acc : Nat), (∀ c ∈ l, isNum c) → pv acc l < 10 ^ 18 → parseUintM (2 ^ 64 - 1) acc l = .ok (pv acc l)
  | [], acc, _, _ => rfl
  | c :: l, acc, h, hb => by
    have hc := h c (by simp)
    have hge := pv_ge l (acc * 10 + (c.toNat - 48))
    rw [pv_cons] at hb ⊢
    rw [parseUintM, if_pos (show 48 ≤ c.toNat ∧ c.toNat ≤ 57 from hc), if_neg (by omega), if_neg (by omega)]
    exact pu_ok l _ (fun x hx => h x (by simp [hx])) hb
theorem dd_rec (u : Nat) : (u < 10 ∧ decDigits u = [UInt8.ofNat (48 + u)]) ∨ (¬ u < 10 ∧ decDigits u = decDigits (u / 10) ++ [UInt8.ofNat (48 + u % 10)]) := by
  by_cases h : u < 10
  · exact .inl ⟨h, by rw [decDigits, dif_pos h]⟩
  · exact .inr ⟨h, by rw [decDigits, dif_neg h]⟩
theorem ofDig {d : Nat} (h : d < 10) : (UInt8.ofNat (48 + d)).toNat = 48 + d := by rw [UInt8.toNat_ofNat']; omega
theorem dd_dig : ∀ (u : Nat), ∀ c ∈ decDigits u, isNum c := by
  intro u
  induction u using Nat.strongRecOn with
  | _ u ih =>
    intro c hc
    rcases dd_rec u with ⟨h, e⟩ | ⟨h, e⟩ <;> rw [e] at hc
    · rw [List.mem_singleton] at hc; subst hc; unfold isNum; rw [ofDig h]; omega
    · rcases List.mem_append.1 hc with hc | hc
      · exact ih (u / 10) (by omega) c hc
      · rw [List.mem_singleton] at hc; subst hc; unfold isNum; rw [ofDig (by omega)]; omega
theorem dd_pv : ∀ (u : Nat), pv 0 (decDigits u) = u := by
  intro u
  induction u using Nat.strongRecOn with
  | _ u ih =>
    rcases dd_rec u with ⟨h, e⟩ | ⟨h, e⟩ <;> rw [e]
    · rw [pv_cons, pv_nil, ofDig h]; omega
    · rw [pv_snoc, ih (u / 10) (by omega), ofDig (by omega)]; omega
theorem dd_ne (u : Nat) : decDigits u ≠ [] := by
  rcases dd_rec u with ⟨_, e⟩ | ⟨_, e⟩ <;> rw [e] <;> simp
theorem dd_len : ∀ (k u : Nat), u < 10 ^ (k + 1) → (decDigits u).length ≤ k + 1 := by
  intro k
  induction k with
  | zero => intro u h; rcases dd_rec u with ⟨_, e⟩ | ⟨h2, e⟩ <;> rw [e] <;> simp <;> omega
  | succ k ih =>
    intro u h
    rcases dd_rec u with ⟨_, e⟩ | ⟨h2, e⟩ <;> rw [e]
    · simp
    · have := ih (u / 10) (by rw [Nat.pow_succ] at h; omega)
      simp; omega
theorem dd_head (u : Nat) : ∃ c l, decDigits u = c :: l ∧ isNum c := by
  cases h : decDigits u with
  | nil => exact absurd h (dd_ne u)
  | cons c l => exact ⟨c, l, rfl, dd_dig u c (by rw [h]; simp)⟩
/-- The decimal form of a number of at most 18 digits is read as that number. -/
theorem parse_itoa {v : Int} (h : v.natAbs < 10 ^ 18) : parseIntB 64 (itoa v) = .ok v := by
  obtain ⟨c, l, e, hc⟩ := dd_head v.natAbs
  have hu : parseUintB 64 (decDigits v.natAbs) = .ok v.natAbs := by
    unfold parseUintB
    rw [if_neg (dd_ne _), pu_ok _ _ (dd_dig _) (by rw [dd_pv]; exact h), dd_pv]
  unfold itoa
  by_cases hv : v < 0
  · rw [if_pos hv]
    unfold parseIntB
    dsimp only
    rw [if_pos (.inr rfl), hu]
    dsimp only
    rw [if_neg (by simp), if_neg (by omega)]
    simp; omega
  · rw [if_neg hv, show v.toNat = v.natAbs by omega]
    unfold parseIntB
    rw [e] at hu ⊢
    have h1 : ¬ c.toNat = 45 := by have := hc.1; omega
    have h2 : ¬ (c.toNat = 43 ∨ c.toNat = 45) := by have := hc.1; omega
    dsimp only
    rw [if_neg h2, hu]
    dsimp only
    rw [if_neg (by omega), if_neg (by simp [h1]), if_neg h1]
    congr 1; omega
theorem itoa_inj {v v' : Int} (h : v.natAbs < 10 ^ 18) (h' : v'.natAbs < 10 ^ 18) (e : itoa v = itoa v') : v = v' := by
  have h1 := parse_itoa h
  rw [e, parse_itoa h'] at h1
  injection h1 with h1; exact h1.symm

/-- s is the decimal form of a number of at most 18 digits. -/
def isDec (s : ByteArray) (v : Int) : Prop := v.natAbs < 10 ^ 18 ∧ s = ⟨(itoa v).toArray⟩
/-- The number with this decimal form. -/
noncomputable def rdR (s : ByteArray) : Int × Bool := open Classical in if h : ∃ v, isDec s v then (Classical.choose h, true) else (0, false)
theorem rdR_yes {s : ByteArray} {v : Int} (h : isDec s v) : rdR s = (v, true) := by
  have hx : ∃ v, isDec s v := ⟨v, h⟩
  have hc := Classical.choose_spec hx
  have : Classical.choose hx = v := itoa_inj hc.1 h.1 (by
    have := hc.2.symm.trans h.2
    injection this with this
    exact List.toArray_inj this)
  unfold rdR
  rw [dif_pos hx, this]
theorem rdR_no {s : ByteArray} (h : ¬ ∃ v, isDec s v) : rdR s = (0, false) := by unfold rdR; rw [dif_neg h]
end Go.Proofs.YtlahobdopmdfmaaGreatDoor

/- SplitM -/
namespace Go.Proofs.YtlahobdopmdfmaaGreatDoor
open Go

/-- The i-th byte. -/
def byteAt (s : ByteArray) (i : Nat) : UInt8 := if h : i < s.size then s[i]'h else 0
theorem byteAt_get {s : ByteArray} {i : Nat} (h : i < s.size) : s[i]'h = byteAt s i := by rw [byteAt, dif_pos h]
/-- The parts between bytes c, from a part's beginning f on, at place i. -/
def splitGo (s : ByteArray) (c : UInt8) : Nat → Nat → Nat → List ByteArray
  | 0, _, f => [s.extract f s.size]
  | n + 1, i, f => if byteAt s i = c then s.extract f i :: splitGo s c n (i + 1) (i + 1) else splitGo s c n (i + 1) f
def splitL (s : ByteArray) (c : UInt8) : List ByteArray := splitGo s c s.size 0 0
theorem splitGo_hit {s : ByteArray} {c : UInt8} {n i f : Nat} (h : byteAt s i = c) : splitGo s c (n + 1) i f = s.extract f i :: splitGo s c n (i + 1) (i + 1) := by rw [splitGo, if_pos h]
theorem splitGo_miss {s : ByteArray} {c : UInt8} {n i f : Nat} (h : ¬ byteAt s i = c) : splitGo s c (n + 1) i f = splitGo s c n (i + 1) f := by rw [splitGo, if_neg h]
theorem splitGo_len {s : ByteArray} {c : UInt8} : ∀ (n i f : Nat), (splitGo s c n i f).length ≤ n + 1
  | 0, _, _ => by simp [splitGo]
  | n + 1, i, f => by
    rw [splitGo]
    split
    · have := splitGo_len (s := s) (c := c) n (i + 1) (i + 1)
      simp; omega
    · have := splitGo_len (s := s) (c := c) n (i + 1) f
      omega
theorem splitL_len (s : ByteArray) (c : UInt8) : (splitL s c).length ≤ s.size + 1 := splitGo_len _ _ _
/-- The parts that are not empty. -/
def someB (x : ByteArray) : Bool := decide (x.data.toList ≠ [])
def wordsL (s : ByteArray) : List ByteArray := (splitL s 32).filter someB
end Go.Proofs.YtlahobdopmdfmaaGreatDoor

/- Dec -/
namespace Go.Proofs.YtlahobdopmdfmaaGreatDoor
open Go.RowKit

/-- The decimal digits of a number, none for 0. -/
def dg (u : Nat) : List UInt8 :=
  if _ : u = 0 then [] else dg (u / 10) ++ [UInt8.ofNat (48 + u % 10)]
termination_by u
decreasing_by omega
theorem dg_zero : dg 0 = [] := by rw [dg, dif_pos rfl]
theorem dg_pos {u : Nat} (h : u ≠ 0) : dg u = dg (u / 10) ++ [UInt8.ofNat (48 + u % 10)] := by rw [dg, dif_neg h]
theorem dg_ne {u : Nat} (h : u ≠ 0) : dg u ≠ [] := by rw [dg_pos h]; simp
theorem dg_dec : ∀ {u : Nat}, u ≠ 0 → dg u = Lib.decDigits u := by
  intro u
  induction u using Nat.strongRecOn with
  | _ u ih =>
    intro h
    rw [dg_pos h, Lib.decDigits]
    by_cases h10 : u < 10
    · rw [dif_pos h10, show u / 10 = 0 by omega, dg_zero, List.nil_append, show u % 10 = u by omega]
    · rw [dif_neg h10, ih (u / 10) (by omega) (by omega)]
theorem dg_len : ∀ (k u : Nat), u < 10 ^ k → (dg u).length ≤ k := by
  intro k
  induction k with
  | zero => intro u h; have : u = 0 := by simpa using h
            rw [this, dg_zero]; simp
  | succ k ih =>
    intro u h
    by_cases h0 : u = 0
    · rw [h0, dg_zero]; simp
    · rw [dg_pos h0]
      have := ih (u / 10) (by rw [Nat.pow_succ] at h; omega)
      simp; omega
theorem itoa_zero : Lib.itoa 0 = [48] := by unfold Lib.itoa; rw [if_neg (by omega)]; rw [Lib.decDigits, dif_pos (by decide)]; rfl
theorem itoa_neg {n : Int} (h : n < 0) : Lib.itoa n = 45 :: dg n.natAbs := by unfold Lib.itoa; rw [if_pos h, dg_dec (by omega)]
theorem itoa_pos {n : Int} (h : 0 < n) : Lib.itoa n = dg n.natAbs := by unfold Lib.itoa; rw [if_neg (by omega), dg_dec (by omega)]; congr 1; omega

/-- Bytes as cells. -/
def u8s (l : List UInt8) : List Value := l.map fun b => Value.int .u8 (b.toNat : Int)
theorem u8s_cons (b : UInt8) (l : List UInt8) : u8s (b :: l) = [Value.int .u8 (b.toNat : Int)] ++ u8s l := rfl
theorem u8s_len (l : List UInt8) : (u8s l).length = l.length := by simp [u8s]
theorem u8s_at {l : List UInt8} {j : Nat} (h : j < l.length) : (u8s l)[j]? = some (.int .u8 (l[j].toNat : Int)) := by simp [u8s, List.getElem?_map, List.getElem?_eq_getElem h]
theorem info_u8 : (Tryz.prog.info? 5).map (fun i => (i.zero, i.size, i.bytes)) = some (some (.int .u8 0), 1, 1) := by kernel_rfl

theorem td10 (j : Int) : ∃ q r : Int, j.tdiv 10 = q ∧ j.tmod 10 = r ∧ q.natAbs = j.natAbs / 10 ∧ r.natAbs = j.natAbs % 10 ∧ (0 ≤ j → 0 ≤ q ∧ 0 ≤ r) ∧ (j ≤ 0 → q ≤ 0 ∧ r ≤ 0) := by
  rcases Int.le_total 0 j with h | h
  · refine ⟨j / 10, j % 10, Int.tdiv_eq_ediv_of_nonneg h, Int.tmod_eq_emod_of_nonneg h, by omega, by omega, fun _ => by omega, fun _ => by omega⟩
  · obtain ⟨m, rfl⟩ : ∃ m : Nat, j = -(m : Int) := ⟨j.natAbs, by omega⟩
    refine ⟨-((m : Int) / 10), -((m : Int) % 10), ?_, ?_, by omega, by omega, fun _ => by omega, fun _ => by omega⟩
    · rw [Int.neg_tdiv, Int.tdiv_eq_ediv_of_nonneg (by omega)]
    · rw [Int.neg_tmod, Int.tmod_eq_emod_of_nonneg (by omega)]
/-- The next digit. -/
theorem dg_next {j q r n : Int} {l : List UInt8} (h : dg j.natAbs ++ l = dg n.natAbs) (hj : j ≠ 0) (hq : q.natAbs = j.natAbs / 10) (hr : r.natAbs = j.natAbs % 10) : dg q.natAbs ++ (UInt8.ofNat (48 + r.natAbs) :: l) = dg n.natAbs := by
  rw [← h, dg_pos (u := j.natAbs) (by omega), hq, hr]; simp
theorem u8_val {r : Int} (h1 : -9 ≤ r) (h2 : r ≤ 9) : ((UInt8.ofNat (48 + r.natAbs)).toNat : Int) = 48 + (r.natAbs : Int) := by
  rw [UInt8.toNat_ofNat']; omega

theorem u8s_one {l : List UInt8} : ∀ u ∈ u8s l, u.oneCell' = true := by
  intro u hu
  obtain ⟨b, _, rfl⟩ := List.mem_map.1 hu
  rfl

/-- What has been written so far, and what is left. -/
def DecRel (n : Int) (w : World) (o k : Value) (wr : World) : Prop := ∃ (j : Int) (l : List UInt8) (A : Addr) (C : Nat), k = .int .i64 j ∧ o = .slice (some A) l.length C ∧
  Hid (dg j.natAbs ++ l = dg n.natAbs) ∧ Hid (0 ≤ n ∧ 0 ≤ j ∨ n ≤ 0 ∧ j ≤ 0) ∧ -9223372036854775808 ≤ j ∧ j ≤ 9223372036854775807 ∧ l.length ≤ 20 ∧ Row 5 1 wr w.heap.size wr.heap.size (.slice (some A) l.length C) l.length (u8s l) ∧ Below w.heap.size w wr

set_option maxRecDepth 100000 in
set_option maxHeartbeats 4000000 in
theorem l01Dec_any (n : Int) (w : World) (h0 : -9223372036854775808 ≤ n) (h1 : n ≤ 9223372036854775807) :
    Calls Tryz.prog 77 #[.int .i64 n] w fun e w' => e = .returned (.string ⟨(Lib.itoa n).toArray⟩) ∧ Below w.heap.size w w' := by
  have HH : Hid ((dg n.natAbs).length ≤ 20) := Lib.hid (dg_len 20 n.natAbs (by omega))
  go_enter Tryz.func77, Tryz.ntmps77
  go_wp2
  go_loopw [3, 4] (fun o k wr => DecRel n w o k wr) (fun _ k _ => (intOf k).natAbs)
  case atStart =>
    refine ⟨n, [], _, _, rfl, rfl, Lib.hid (by simp), Lib.hid (by omega), h0, h1, by simp, ?_, (Below.refl _ _).alloc (Nat.le_refl _) _⟩
    have := row_new 5 1 w #[] 0 rfl (by omega)
    simpa [u8s] using this
  case round =>
    obtain ⟨j, l, A, C, rfl, rfl, hd, hsg, hj3, hj4, hl, row, hbel⟩ := hrel
    by_cases hj : j = 0
    · subst hj
      have hd0 : l = dg n.natAbs := by have := hd.out; rw [show (0 : Int).natAbs = 0 from rfl, dg_zero, List.nil_append] at this; exact this
      have hcv := run_convert_bytes_back (P := Tryz.prog) wr 22 9 5 A C l Tryz.underlying22 Tryz.underlying5 Tryz.underlying9 (fun j hj => row.cell (u8s_at hj))
      clear hd hsg row
      rcases Int.lt_trichotomy n 0 with hn | hn | hn
      · have HI : Hid (Lib.itoa n = 45 :: l) := Lib.hid (by rw [itoa_neg hn, hd0])
        have hlp : 0 < l.length := by
          rw [hd0]; exact List.length_pos_iff.2 (dg_ne (by omega))
        clear hd0
        go_wp2
        go_ret
        exact ⟨by rw [HI.out]; rfl, hbel⟩
      · subst hn
        have hl0 : l = [] := by rw [hd0]; exact dg_zero
        subst hl0
        have HI := Lib.hid itoa_zero
        clear hd0
        go_wp2
        go_ret
        exact ⟨by rw [HI.out]; rfl, hbel⟩
      · have HI : Hid (Lib.itoa n = l) := Lib.hid (by rw [itoa_pos hn, hd0])
        have hlp : 0 < l.length := by
          rw [hd0]; exact List.length_pos_iff.2 (dg_ne (by omega))
        clear hd0
        go_wp2
        go_ret
        exact ⟨by rw [HI.out]; rfl, hbel⟩
    · obtain ⟨q, r, hq, hr, hqa, hra, hp, hn⟩ := td10 j
      have hr1 : -9 ≤ r := by omega
      have hr2 : r ≤ 9 := by omega
      have hq1 : -9223372036854775808 ≤ q := by omega
      have hq2 : q ≤ 9223372036854775807 := by omega
      have hqw : wrap64 q = q := IntWalk.wrap64_in _ ⟨by omega, by omega⟩
      have HD := Lib.hid (dg_next hd.out hj hqa hra)
      have hl2 : l.length + 1 ≤ 20 := by have := HH.out; rw [← HD.out] at this; simp at this; omega
      have HS : Hid (0 ≤ n ∧ 0 ≤ q ∨ n ≤ 0 ∧ q ≤ 0) := Lib.hid (by rcases hsg.out with h | h; exact .inl ⟨h.1, (hp h.2).1⟩; exact .inr ⟨h.1, (hn h.2).1⟩)
      have hm : Hid (q.natAbs < j.natAbs) := Lib.hid (by omega)
      have HB := Lib.hid (u8_val hr1 hr2)
      have hrow := row.alloc (.cells #[.int .u8 (48 + (r.natAbs : Int))] 5)
      have hnew := row_new 5 1 wr #[.int .u8 (48 + (r.natAbs : Int))] 1 rfl (by omega)
      clear hd hsg hqa hra hp hn row
      by_cases hr0 : r < 0
      · have hab : (r.natAbs : Int) = -r := by omega
        rw [hab] at hrow hnew HB
        clear hab
        go_wp2_with (at_builtin; go_must (refine wpList_appR rfl (.tmp 21) (.tmp 22) 22 5 rfl (.int .u8 0) 1 1 Tryz.underlying22 info_u8 rfl (by omega) (by omega) rfl hnew A l.length C (u8s l) rfl (by simp [u8s_len]) (fun j u h => hrow.cell h) u8s_one (by omega) (by simp) ?_); intro A' C' w1 row1 ht1)
        have hb1 : Below w.heap.size w w1 := (hbel.alloc (by have := hbel.size; omega) _).trans (ht1.below hbel.size (by have := hbel.size; simp; omega))
        obtain ⟨A2, rfl⟩ : ∃ A2, A' = some A2 := by
          cases A' with
          | none => have := row1.none_.1; omega
          | some A2 => exact ⟨A2, rfl⟩
        go_roundw
        case rel =>
          refine ⟨q, _ :: l, A2, C', rfl, ?_, HD, HS, hq1, hq2, by simpa using hl2, ?_, hb1⟩
          · simp [Nat.add_comm]
          · rw [u8s_cons, HB.out]
            have := row1.wide (lo' := w.heap.size) hbel.size (Nat.le_refl _)
            simpa [Nat.add_comm] using this
        case measure => have := hm.out; simp [intOf]; omega
      · have hab : (r.natAbs : Int) = r := by omega
        rw [hab] at hrow hnew HB
        clear hab
        have hr3 : 0 ≤ r := by omega
        go_wp2_with (at_builtin; go_must (refine wpList_appR rfl (.tmp 21) (.tmp 22) 22 5 rfl (.int .u8 0) 1 1 Tryz.underlying22 info_u8 rfl (by omega) (by omega) rfl hnew A l.length C (u8s l) rfl (by simp [u8s_len]) (fun j u h => hrow.cell h) u8s_one (by omega) (by simp) ?_); intro A' C' w1 row1 ht1)
        have hb1 : Below w.heap.size w w1 := (hbel.alloc (by have := hbel.size; omega) _).trans (ht1.below hbel.size (by have := hbel.size; simp; omega))
        obtain ⟨A2, rfl⟩ : ∃ A2, A' = some A2 := by
          cases A' with
          | none => have := row1.none_.1; omega
          | some A2 => exact ⟨A2, rfl⟩
        go_roundw
        case rel =>
          refine ⟨q, _ :: l, A2, C', rfl, ?_, HD, HS, hq1, hq2, by simpa using hl2, ?_, hb1⟩
          · simp [Nat.add_comm]
          · rw [u8s_cons, HB.out]
            have := row1.wide (lo' := w.heap.size) hbel.size (Nat.le_refl _)
            simpa [Nat.add_comm] using this
        case measure => have := hm.out; simp [intOf]; omega
end Go.Proofs.YtlahobdopmdfmaaGreatDoor

/- DecI -/
namespace Go.Proofs.YtlahobdopmdfmaaGreatDoor
open Go.RowKit

/-- The library's table of powers of ten, as its text lays it. -/
def PowTab (w : World) : Prop := Lib.TabIs Tryz.prog w "internal/strconv.uint64pow10" .u64 Lib.pow10Tab
theorem tabIs_below {n : String} {g : Nat} {k : IntKind} {zs : List Int} {w w' : World} (hg : Tryz.prog.globalNamed n = some g) (h : Lib.TabIs Tryz.prog w n k zs) (hb : Below w.heap.size w w') : Lib.TabIs Tryz.prog w' n k zs := by
  unfold Lib.TabIs World.var? at h ⊢
  rw [hg] at h ⊢
  simp only [Option.bind_some] at h ⊢
  have hl : g < w.heap.size := by
    rcases Nat.lt_or_ge g w.heap.size with h1 | h1
    · exact h1
    · rw [Array.getElem?_eq_none h1] at h; cases h
  rw [hb.block g hl]
  exact h
theorem powTab_below {w w' : World} (h : PowTab w) (hb : Below w.heap.size w w') : PowTab w' := tabIs_below (g := 5) (by kernel_rfl) h hb

theorem i64_bd {n : Int} (h : I64 n) : -9223372036854775808 ≤ n ∧ n ≤ 9223372036854775807 := by
  unfold I64 at h
  simp [Lit.wf, IntKind.min, IntKind.max, IntKind.signed, IntKind.bits] at h
  exact h

theorem implDecimal (n : Int) (w : World) (b : I64 n) (hD : PowTab w) :
    Calls Tryz.prog 31 #[.int .i64 n] w fun e w' => e = .returned (.string ⟨(Lib.itoa n).toArray⟩) ∧ Below w.heap.size w w' := by
  obtain ⟨h0, h1⟩ := i64_bd b
  have c := fun w => Tryz.strconv_FormatInt_10 n h0 h1 w
  have c1 := c w hD
  clear c hD b
  go_enter Tryz.func31, Tryz.ntmps31
  go_wp2_with (go_at_call 69; refine c1.mono ?_; rintro e w' ⟨rfl, hg⟩)
  obtain ⟨k, os, rfl⟩ := hg
  go_ret
  exact ⟨rfl, Lib.below_grow _ _ (Nat.le_refl _) _ _⟩
end Go.Proofs.YtlahobdopmdfmaaGreatDoor

/- MarkT -/
namespace Go.Proofs.YtlahobdopmdfmaaGreatDoor
open Go.RowKit

/-- What markText makes of a number, ahead of what it has made. -/
def mtL (n : Nat) (acc : List UInt8) : List UInt8 := if h : n = 0 then acc else mtL (n / 10) (UInt8.ofNat (48 + n % 10) :: acc)
termination_by n
decreasing_by omega
theorem mtL_zero (acc : List UInt8) : mtL 0 acc = acc := by rw [mtL, dif_pos rfl]
theorem mtL_step {n : Nat} (h : n ≠ 0) (acc : List UInt8) : mtL n acc = mtL (n / 10) (UInt8.ofNat (48 + n % 10) :: acc) := by rw [mtL, dif_neg h]
def mtx (k : Int) : ByteArray := if k ≤ 0 then ⟨#[109, 48]⟩ else ⟨(109 :: mtL k.toNat []).toArray⟩
theorem bs_ext {a b : ByteArray} (h : a.data.toList = b.data.toList) : a = b := by
  obtain ⟨a⟩ := a
  obtain ⟨b⟩ := b
  simp only at h
  congr 1
  exact Array.toList_inj.1 h

end Go.Proofs.YtlahobdopmdfmaaGreatDoor

/- ReadI -/
namespace Go.Proofs.YtlahobdopmdfmaaGreatDoor
open Go.RowKit

/-- The library's variables that reading a number meets: the table of powers of ten; two errors. -/
structure RdDoor (w : World) : Prop where
  tab : PowTab w
  syn : ∃ ev, w.cell? ⟨2, 0, none⟩ = some ev ∧ ∃ te pe, ev = .iface te pe
  rng : ∃ ev, w.cell? ⟨3, 0, none⟩ = some ev ∧ ∃ te pe, ev = .iface te pe
theorem rdDoor_below {w w' : World} (h : RdDoor w) (hb : Below w.heap.size w w') : RdDoor w' := by
  obtain ⟨h1, ⟨e2, h2, h3⟩, ⟨e4, h4, h5⟩⟩ := h
  exact ⟨powTab_below h1 hb, ⟨e2, kept hb h2, h3⟩, ⟨e4, kept hb h4, h5⟩⟩

theorem dec_ne {s : ByteArray} {n : Int} (h : ¬ ∃ v, isDec s v) (h1 : -1000000000000000000 < n) (h2 : n < 1000000000000000000) : ¬ (⟨(Lib.itoa n).toArray⟩ : ByteArray) = s :=
  fun e => h ⟨n, by omega, e.symm⟩
/-- Two texts that part, as the walk asks. -/
theorem str_ne {a b : ByteArray} (h : ¬ a = b) : (a.toList == b.toList) = false := by
  rw [beq_eq_false_iff_ne]
  intro e
  rw [Lib.toList_data, Lib.toList_data] at e
  exact h (WideShapes.bytes_inj e)
theorem i64_at {n : Int} (h1 : -9223372036854775808 ≤ n) (h2 : n ≤ 9223372036854775807) : I64 n := by
  unfold I64
  simp [Lit.wf, IntKind.min, IntKind.max, IntKind.signed, IntKind.bits]
  exact ⟨h1, h2⟩

set_option maxRecDepth 100000 in
set_option maxHeartbeats 2000000 in
theorem implReadDecimal (s : ByteArray) (w : World) (hs : s.size ≤ 1048576) (hD : RdDoor w) :
    Calls Tryz.prog 26 #[.string s] w fun e w' => e = .returned (.tuple #[.int .i64 (rdR s).1, .bool (rdR s).2]) ∧ Below w.heap.size w w' := by
  by_cases hx : ∃ v, isDec s v
  · obtain ⟨v, hv⟩ := hx
    have hr := rdR_yes hv
    obtain ⟨hv, hsv⟩ := hv
    have c1 := (Tryz.strconv_ParseInt_10_at64_ok s (by omega) v (by rw [hsv]; simpa using parse_itoa hv) w).mono (R' := fun e w' => e = .returned (.tuple #[.int .i64 v, .nilIface]) ∧ Below w.heap.size w w')
      fun e w' ⟨he, hb⟩ => ⟨he, by rcases hb with rfl | ⟨t, rfl⟩; exact Below.refl _ _; exact Joins.below_bytesWorld _ _ _ _ (Nat.le_refl _)⟩
    have c2 := fun w1 (hb : Below w.heap.size w w1) => implDecimal v w1 (i64_at (by omega) (by omega)) (powTab_below hD.tab hb)
    have h1 : -1000000000000000000 < v := by omega
    have h2 : v < 1000000000000000000 := by omega
    rw [← hsv] at c2
    have HR := Lib.hid hr
    clear hD hv hsv hr hs
    go_enter Tryz.func26, Tryz.ntmps26
    go_wp2_with (first | (go_at_call 55; refine c1.mono ?_; rintro e w1 ⟨rfl, hb⟩) | (go_at_call 31; refine (c2 _ hb).mono ?_; rintro e w2 ⟨rfl, hb2⟩))
    go_ret2
    exact ⟨by rw [HR.out]; rfl, hb.trans (hb2.mono hb.size)⟩
  · have HR := Lib.hid (rdR_no hx)
    cases hp : Lib.parseIntB 64 s.data.toList with
    | ok n =>
      have c1 := (Tryz.strconv_ParseInt_10_at64_ok s (by omega) n hp w).mono (R' := fun e w' => e = .returned (.tuple #[.int .i64 n, .nilIface]) ∧ Below w.heap.size w w')
        fun e w' ⟨he, hb⟩ => ⟨he, by rcases hb with rfl | ⟨t, rfl⟩; exact Below.refl _ _; exact Joins.below_bytesWorld _ _ _ _ (Nat.le_refl _)⟩
      have hT := hD.tab
      clear hD hp hs
      by_cases h1 : n ≤ -1000000000000000000
      · clear hx hT
        go_enter Tryz.func26, Tryz.ntmps26
        go_wp2_with (go_at_call 55; refine c1.mono ?_; rintro e w1 ⟨rfl, hb⟩)
        go_ret2
        exact ⟨by rw [HR.out]; rfl, hb⟩
      by_cases h2 : 1000000000000000000 ≤ n
      · clear hx hT
        go_enter Tryz.func26, Tryz.ntmps26
        go_wp2_with (go_at_call 55; refine c1.mono ?_; rintro e w1 ⟨rfl, hb⟩)
        go_ret2
        exact ⟨by rw [HR.out]; rfl, hb⟩
      have c2 := fun w1 (hb : Below w.heap.size w w1) => implDecimal n w1 (i64_at (by omega) (by omega)) (powTab_below hT hb)
      have hne := dec_ne hx (by omega) (by omega : n < 1000000000000000000)
      clear hx hT
      obtain ⟨S, hS⟩ : ∃ S : ByteArray, S = ⟨(Lib.itoa n).toArray⟩ := ⟨_, rfl⟩
      rw [← hS] at c2 hne
      have hneb := str_ne hne
      clear hS
      go_enter Tryz.func26, Tryz.ntmps26
      go_wp2_with (first | (go_at_call 55; refine c1.mono ?_; rintro e w1 ⟨rfl, hb⟩) | (go_at_call 31; refine (c2 _ hb).mono ?_; rintro e w2 ⟨rfl, hb2⟩))
      go_ret2
      exact ⟨by rw [HR.out]; rfl, hb.trans (hb2.mono hb.size)⟩
    | range =>
      obtain ⟨ev, h1, h2⟩ := hD.rng
      have c1 := Tryz.strconv_ParseInt_10_at64_range s (by omega) hp ev w h1 (.inr h2)
      clear hD h1 h2 hp hx
      go_enter Tryz.func26, Tryz.ntmps26
      go_wp2_with (go_at_call 55; refine c1.mono ?_; rintro e w1 ⟨N, rfl, _, _, hb⟩; clear c1)
      go_ret2
      exact ⟨by rw [HR.out]; rfl, hb⟩
    | _ =>
      obtain ⟨ev, h1, h2⟩ := hD.syn
      have c1 := Tryz.strconv_ParseInt_10_at64_syntax s (by omega) (hp.trans rfl) ev w h1 (.inr h2)
      clear hD h1 h2 hp hx
      go_enter Tryz.func26, Tryz.ntmps26
      go_wp2_with (go_at_call 55; refine c1.mono ?_; rintro e w1 ⟨N, rfl, _, _, hb⟩; clear c1)
      go_ret2
      exact ⟨by rw [HR.out]; rfl, hb⟩
end Go.Proofs.YtlahobdopmdfmaaGreatDoor

/- ReadS -/
namespace Go.Proofs.YtlahobdopmdfmaaGreatDoor
open Go.RowKit

/-- What is left of s behind a sign says the number, if s is the form of one. -/
def Rest (s : ByteArray) (l : List UInt8) (neg : Bool) : Prop := ∀ v, isDec s v → l = Lib.decDigits v.natAbs ∧ v = if neg then -(v.natAbs : Int) else (v.natAbs : Int)
theorem dec_list {s : ByteArray} {v : Int} (h : isDec s v) : (0 ≤ v ∧ s.data.toList = Lib.decDigits v.natAbs) ∨ (v < 0 ∧ s.data.toList = 45 :: Lib.decDigits v.natAbs) := by
  rw [h.2]
  unfold Lib.itoa
  by_cases hv : v < 0
  · exact .inr ⟨hv, by rw [if_pos hv]⟩
  · exact .inl ⟨by omega, by rw [if_neg hv, show v.toNat = v.natAbs by omega]⟩
theorem rest_pos {s : ByteArray} {c : UInt8} {l : List UInt8} (hl : s.data.toList = c :: l) (hc : ¬ c.toNat = 45) : Rest s s.data.toList false := by
  intro v hv
  rcases dec_list hv with ⟨h1, h2⟩ | ⟨h1, h2⟩
  · exact ⟨h2, by simp; omega⟩
  · rw [hl] at h2
    injection h2 with h2 _
    exact absurd (by rw [h2]; rfl) hc
theorem rest_neg {s : ByteArray} {c : UInt8} {l : List UInt8} (hl : s.data.toList = c :: l) (hc : c.toNat = 45) : Rest s l true := by
  intro v hv
  rcases dec_list hv with ⟨h1, h2⟩ | ⟨h1, h2⟩
  · obtain ⟨d, l', e, hd⟩ := dd_head v.natAbs
    rw [hl, e] at h2
    injection h2 with h2 _
    have := hd.1
    rw [← h2] at this
    omega
  · rw [hl] at h2
    injection h2 with _ h2
    exact ⟨h2, by simp; omega⟩
theorem rest_empty {s : ByteArray} (hl : s.data.toList = []) : ¬ ∃ v, isDec s v := by
  rintro ⟨v, hv⟩
  rcases dec_list hv with ⟨_, h2⟩ | ⟨_, h2⟩ <;> rw [hl] at h2
  · exact dd_ne _ h2.symm
  · cases h2
theorem rest_len {s : ByteArray} {l : List UInt8} {b : Bool} (h : Rest s l b) (hl : l.length < 1 ∨ 18 < l.length) : ¬ ∃ v, isDec s v := by
  rintro ⟨v, hv⟩
  obtain ⟨rfl, _⟩ := h v hv
  have h1 := dd_len 17 v.natAbs hv.1
  have h2 := List.length_pos_iff.2 (dd_ne v.natAbs)
  omega
theorem rest_dig {s : ByteArray} {l : List UInt8} {b : Bool} (h : Rest s l b) {k : Nat} (hk : k < l.length) (hd : ¬ isNum l[k]) : ¬ ∃ v, isDec s v := by
  rintro ⟨v, hv⟩
  obtain ⟨rfl, _⟩ := h v hv
  exact hd (dd_dig _ _ (List.getElem_mem hk))
theorem rest_yes {s : ByteArray} {l : List UInt8} {n : Int} (hd : ∀ c ∈ l, isNum c) (hl : l.length ≤ 18) (hn : n.natAbs = pv 0 l) (e : (⟨(Lib.itoa n).toArray⟩ : ByteArray) = s) : rdR s = (n, true) := by
  refine rdR_yes ⟨?_, e.symm⟩
  have := pv_lt l 0 hd
  rw [hn]
  refine Nat.lt_of_lt_of_le this ?_
  rw [Nat.zero_add, Nat.one_mul]
  exact Nat.pow_le_pow_right (by decide) hl
theorem rest_no {s : ByteArray} {l : List UInt8} {b : Bool} {n : Int} (h : Rest s l b) (hn : n = if b then -(pv 0 l : Int) else (pv 0 l : Int)) (e : ¬ (⟨(Lib.itoa n).toArray⟩ : ByteArray) = s) : rdR s = (0, false) := by
  refine rdR_no ?_
  rintro ⟨v, hv⟩
  obtain ⟨rfl, h2⟩ := h v hv
  rw [dd_pv, ← h2] at hn
  subst hn
  exact e hv.2.symm
theorem pv_bd {l : List UInt8} (hd : ∀ c ∈ l, isNum c) (hl : l.length ≤ 18) : pv 0 l < 1000000000000000000 := by
  have := pv_lt l 0 hd
  refine Nat.lt_of_lt_of_le this ?_
  rw [Nat.zero_add, Nat.one_mul]
  exact Nat.pow_le_pow_right (n := 10) (by decide) hl
theorem bytes_at {t : ByteArray} {k : Nat} (h : k < t.size) : t.data.toList[k]'(by simpa using h) = t[k] := rfl
theorem take_at {t : ByteArray} {k : Nat} (h : k < t.size) : t.data.toList.take (k + 1) = t.data.toList.take k ++ [t[k]] := by
  rw [List.take_succ_eq_append_getElem (by simpa using h)]; rfl
theorem sDig_t (c : Int) (w : World) (h : 48 ≤ c ∧ c ≤ 57) : Calls Tryz.prog 76 #[.int .u8 c] w fun e w' => e = .returned (.bool true) ∧ w' = w := by
  obtain ⟨h1, h2⟩ := h
  go_enter Tryz.func76, Tryz.ntmps76
  go_wp2
  go_ret
  exact ⟨ret_bool (by simp), rfl⟩
theorem sDig_f (c : Int) (w : World) (h : ¬ (48 ≤ c ∧ c ≤ 57)) : Calls Tryz.prog 76 #[.int .u8 c] w fun e w' => e = .returned (.bool false) ∧ w' = w := by
  by_cases h1 : 48 ≤ c
  · have h2 : ¬ c ≤ 57 := by omega
    clear h
    go_enter Tryz.func76, Tryz.ntmps76
    go_wp2
    go_ret
    exact ⟨ret_bool (by simp), rfl⟩
  · clear h
    go_enter Tryz.func76, Tryz.ntmps76
    go_wp2
    go_ret
    exact ⟨rfl, rfl⟩

theorem str_nonempty {s : ByteArray} (h : 0 < s.size) : s.toList.isEmpty = false := by
  rw [Lib.toList_data]
  cases h' : s.data.toList with
  | nil => have : s.data.toList.length = 0 := by rw [h']; rfl
           have h2 : s.data.toList.length = s.size := by simp
           omega
  | cons _ _ => rfl

set_option maxRecDepth 100000 in
set_option maxHeartbeats 4000000 in
theorem l01Number_pos (s : ByteArray) (w : World) (hs : s.size ≤ 1048576) (h0 : 0 < s.size) (hc : ¬ ((s[0]'h0).toNat : Int) = 45) (hR : Rest s s.data.toList false) :
    Calls Tryz.prog 38 #[.string s] w fun e w' => e = .returned (.tuple #[.int .i64 (rdR s).1, .bool (rdR s).2]) ∧ Below w.heap.size w w' := by
  have HR := Lib.hid hR
  have hcb : (((s[0]'h0).toNat : Int) == 45) = false := by simp; omega
  have hse := str_nonempty h0
  have hsb : (s.toList == ([] : List UInt8)) = false := by cases h : s.toList with
    | nil => rw [h] at hse; cases hse
    | cons _ _ => rfl
  have HZ := Lib.hid (show s.data.toList.length = s.size by simp)
  clear hR
  rcases Nat.lt_or_ge s.size 1 with hl | hl
  · omega
  rcases Nat.lt_or_ge 18 s.size with hl2 | hl2
  · have HN := Lib.hid (rdR_no (rest_len HR.out (.inr (by rw [HZ.out]; exact hl2))))
    go_enter Tryz.func38, Tryz.ntmps38
    go_wp2
    go_ret2
    exact ⟨by rw [HN.out]; rfl, Below.refl _ _⟩
  go_enter Tryz.func38, Tryz.ntmps38
  go_wp2
  go_loop [5, 6] (fun v i => ∃ k : Nat, k ≤ s.size ∧ i = .int .i64 k ∧ v = .int .i64 (pv 0 (s.data.toList.take k) : Int) ∧ Hid (∀ c ∈ s.data.toList.take k, isNum c)) (fun _ i => s.size - (intOf i).toNat)
  case atStart => exact ⟨0, Nat.zero_le _, rfl, rfl, Lib.hid (by simp)⟩
  case round =>
    obtain ⟨k, hk, rfl, rfl, hd⟩ := hrel
    have hb := pv_bd hd.out (by rw [List.length_take]; omega)
    by_cases hlt : k < s.size
    · by_cases hg : 48 ≤ ((s[k]'hlt).toNat : Int) ∧ ((s[k]'hlt).toNat : Int) ≤ 57
      · have c1 := fun w => sDig_t ((s[k]'hlt).toNat : Int) w hg
        have HT := Lib.hid (take_at hlt)
        have HD : Hid (∀ c ∈ s.data.toList.take (k + 1), isNum c) := Lib.hid (by
          rw [HT.out]; intro c hc
          rcases List.mem_append.1 hc with hc | hc
          · exact hd.out c hc
          · rw [List.mem_singleton] at hc; subst hc; exact ⟨by omega, by omega⟩)
        have HP : Hid ((pv 0 (s.data.toList.take (k + 1)) : Int) = 10 * (pv 0 (s.data.toList.take k) : Int) + (((s[k]'hlt).toNat : Int) - 48)) := Lib.hid (by
          rw [HT.out, pv_snoc]; omega)
        obtain ⟨hg1, hg2⟩ := hg
        clear hd
        go_wp2_with (go_at_call 76; refine (c1 _).mono ?_; rintro e w' ⟨rfl, rfl⟩)
        go_round
        case rel =>
          have hb2 := pv_bd HD.out (by rw [List.length_take]; omega)
          have hb3 := HP.out
          refine ⟨k + 1, by omega, by go_num, ?_, HD⟩
          rw [HP.out, IntWalk.wrap64_in (10 * _) ⟨by omega, by omega⟩, IntWalk.wrap64_in _ ⟨by omega, by omega⟩]
        case measure => simp [intOf]; omega
      · have c1 := fun w => sDig_f ((s[k]'hlt).toNat : Int) w hg
        have HN := Lib.hid (rdR_no (rest_dig HR.out (k := k) (by rw [HZ.out]; exact hlt) (by rw [bytes_at hlt]; intro h; exact hg ⟨by have := h.1; omega, by have := h.2; omega⟩)))
        clear hg hd
        go_wp2_with (go_at_call 76; refine (c1 _).mono ?_; rintro e w' ⟨rfl, rfl⟩)
        go_ret2
        exact ⟨by rw [HN.out]; rfl, Below.refl _ _⟩
    · obtain rfl : k = s.size := by omega
      have ht : s.data.toList.take s.size = s.data.toList := List.take_of_length_le (by rw [HZ.out]; exact Nat.le_refl _)
      rw [ht] at hd hb ⊢
      clear ht
      have c1 := l01Dec_any (pv 0 s.data.toList : Int) w (by omega) (by omega)
      obtain ⟨S, hS⟩ : ∃ S : ByteArray, S = ⟨(Lib.itoa (pv 0 s.data.toList : Int)).toArray⟩ := ⟨_, rfl⟩
      rw [← hS] at c1
      by_cases he : S = s
      · have HN := Lib.hid (rest_yes (n := (pv 0 s.data.toList : Int)) hd.out (by rw [HZ.out]; exact hl2) (by simp) (hS ▸ he))
        subst he
        clear hS hd
        go_wp2_with (go_at_call 77; refine c1.mono ?_; rintro e w' ⟨rfl, hbl⟩)
        go_ret2
        exact ⟨by rw [HN.out]; rfl, hbl⟩
      · have HN := Lib.hid (rest_no (n := (pv 0 s.data.toList : Int)) HR.out (by simp) (hS ▸ he))
        have hne := str_ne he
        clear hS hd he
        go_wp2_with (go_at_call 77; refine c1.mono ?_; rintro e w' ⟨rfl, hbl⟩)
        go_ret2
        exact ⟨by rw [HN.out]; rfl, hbl⟩

set_option maxRecDepth 100000 in
set_option maxHeartbeats 4000000 in
theorem l01Number_neg (s : ByteArray) (w : World) (hs : s.size ≤ 1048576) (h0 : 0 < s.size) (hc : ((s[0]'h0).toNat : Int) = 45) (T : ByteArray) (hT : s.extract 1 s.size = T) (hTs : T.size < s.size) (hR : Rest s T.data.toList true) :
    Calls Tryz.prog 38 #[.string s] w fun e w' => e = .returned (.tuple #[.int .i64 (rdR s).1, .bool (rdR s).2]) ∧ Below w.heap.size w w' := by
  have HR := Lib.hid hR
  have hcb : (((s[0]'h0).toNat : Int) == 45) = true := by simp [hc]
  have hse := str_nonempty h0
  have hsb : (s.toList == ([] : List UInt8)) = false := by cases h : s.toList with
    | nil => rw [h] at hse; cases hse
    | cons _ _ => rfl
  have HZ := Lib.hid (show T.data.toList.length = T.size by simp)
  clear hR
  rcases Nat.lt_or_ge T.size 1 with hl | hl
  · have HN := Lib.hid (rdR_no (rest_len HR.out (.inl (by rw [HZ.out]; exact hl))))
    go_enter Tryz.func38, Tryz.ntmps38
    go_wp2
    go_ret2
    exact ⟨by rw [HN.out]; rfl, Below.refl _ _⟩
  rcases Nat.lt_or_ge 18 T.size with hl2 | hl2
  · have HN := Lib.hid (rdR_no (rest_len HR.out (.inr (by rw [HZ.out]; exact hl2))))
    go_enter Tryz.func38, Tryz.ntmps38
    go_wp2
    go_ret2
    exact ⟨by rw [HN.out]; rfl, Below.refl _ _⟩
  go_enter Tryz.func38, Tryz.ntmps38
  go_wp2
  go_loop [5, 6] (fun v i => ∃ k : Nat, k ≤ T.size ∧ i = .int .i64 k ∧ v = .int .i64 (pv 0 (T.data.toList.take k) : Int) ∧ Hid (∀ c ∈ T.data.toList.take k, isNum c)) (fun _ i => T.size - (intOf i).toNat)
  case atStart => exact ⟨0, Nat.zero_le _, rfl, rfl, Lib.hid (by simp)⟩
  case round =>
    obtain ⟨k, hk, rfl, rfl, hd⟩ := hrel
    have hb := pv_bd hd.out (by rw [List.length_take]; omega)
    by_cases hlt : k < T.size
    · by_cases hg : 48 ≤ ((T[k]'hlt).toNat : Int) ∧ ((T[k]'hlt).toNat : Int) ≤ 57
      · have c1 := fun w => sDig_t ((T[k]'hlt).toNat : Int) w hg
        have HT := Lib.hid (take_at hlt)
        have HD : Hid (∀ c ∈ T.data.toList.take (k + 1), isNum c) := Lib.hid (by
          rw [HT.out]; intro c hc
          rcases List.mem_append.1 hc with hc | hc
          · exact hd.out c hc
          · rw [List.mem_singleton] at hc; subst hc; exact ⟨by omega, by omega⟩)
        have HP : Hid ((pv 0 (T.data.toList.take (k + 1)) : Int) = 10 * (pv 0 (T.data.toList.take k) : Int) + (((T[k]'hlt).toNat : Int) - 48)) := Lib.hid (by
          rw [HT.out, pv_snoc]; omega)
        obtain ⟨hg1, hg2⟩ := hg
        clear hd
        go_wp2_with (go_at_call 76; refine (c1 _).mono ?_; rintro e w' ⟨rfl, rfl⟩)
        go_round
        case rel =>
          have hb2 := pv_bd HD.out (by rw [List.length_take]; omega)
          have hb3 := HP.out
          refine ⟨k + 1, by omega, by go_num, ?_, HD⟩
          rw [HP.out, IntWalk.wrap64_in (10 * _) ⟨by omega, by omega⟩, IntWalk.wrap64_in _ ⟨by omega, by omega⟩]
        case measure => simp [intOf]; omega
      · have c1 := fun w => sDig_f ((T[k]'hlt).toNat : Int) w hg
        have HN := Lib.hid (rdR_no (rest_dig HR.out (k := k) (by rw [HZ.out]; exact hlt) (by rw [bytes_at hlt]; intro h; exact hg ⟨by have := h.1; omega, by have := h.2; omega⟩)))
        clear hg hd
        go_wp2_with (go_at_call 76; refine (c1 _).mono ?_; rintro e w' ⟨rfl, rfl⟩)
        go_ret2
        exact ⟨by rw [HN.out]; rfl, Below.refl _ _⟩
    · obtain rfl : k = T.size := by omega
      have ht : T.data.toList.take T.size = T.data.toList := List.take_of_length_le (by rw [HZ.out]; exact Nat.le_refl _)
      rw [ht] at hd hb ⊢
      clear ht
      have c1 := l01Dec_any (-(pv 0 T.data.toList : Int)) w (by omega) (by omega)
      obtain ⟨S, hS⟩ : ∃ S : ByteArray, S = ⟨(Lib.itoa (-(pv 0 T.data.toList : Int))).toArray⟩ := ⟨_, rfl⟩
      rw [← hS] at c1
      by_cases he : S = s
      · have HN := Lib.hid (rest_yes (n := (-(pv 0 T.data.toList : Int))) hd.out (by rw [HZ.out]; exact hl2) (by simp) (hS ▸ he))
        subst he
        clear hS hd
        go_wp2_with (go_at_call 77; refine c1.mono ?_; rintro e w' ⟨rfl, hbl⟩)
        go_ret2
        exact ⟨by rw [HN.out]; rfl, hbl⟩
      · have HN := Lib.hid (rest_no (n := (-(pv 0 T.data.toList : Int))) HR.out (by simp) (hS ▸ he))
        have hne := str_ne he
        clear hS hd he
        go_wp2_with (go_at_call 77; refine c1.mono ?_; rintro e w' ⟨rfl, hbl⟩)
        go_ret2
        exact ⟨by rw [HN.out]; rfl, hbl⟩

theorem l01Number_any (s : ByteArray) (w : World) (hs : s.size ≤ 1048576) :
    Calls Tryz.prog 38 #[.string s] w fun e w' => e = .returned (.tuple #[.int .i64 (rdR s).1, .bool (rdR s).2]) ∧ Below w.heap.size w w' := by
  rcases Nat.eq_zero_or_pos s.size with h0 | h0
  · obtain rfl : s = ByteArray.empty := by
      cases s with | mk d => (have : d = #[] := Array.eq_empty_of_size_eq_zero h0); rw [this]; rfl
    have HN := Lib.hid (rdR_no (rest_empty (s := ByteArray.empty) rfl))
    clear h0 hs
    go_enter Tryz.func38, Tryz.ntmps38
    go_wp2
    go_ret2
    exact ⟨by rw [HN.out]; rfl, Below.refl _ _⟩
  · obtain ⟨c, l, hl⟩ : ∃ c l, s.data.toList = c :: l := by
      cases h : s.data.toList with
      | nil => have h2 : s.data.toList.length = s.size := by simp
               rw [h] at h2; simp at h2; omega
      | cons c l => exact ⟨c, l, rfl⟩
    have hc0 : s[0]'h0 = c := by
      have : s.data.toList[0]'(by rw [hl]; simp) = c := by simp [hl]
      rw [← this]; rfl
    by_cases hc : ((s[0]'h0).toNat : Int) = 45
    · have hT : (s.extract 1 s.size).data.toList = l := by
        rw [Lib.extract_data, hl, List.drop_one, List.tail_cons, List.take_of_length_le]
        have h2 : s.data.toList.length = s.size := by simp
        rw [hl] at h2; simp at h2; omega
      have hTs : (s.extract 1 s.size).size < s.size := by simp; omega
      exact l01Number_neg s w hs h0 hc _ rfl hTs (by rw [hT]; exact rest_neg hl (by rw [← hc0]; omega))
    · exact l01Number_pos s w hs h0 hc (rest_pos hl (by rw [← hc0]; omega))

end Go.Proofs.YtlahobdopmdfmaaGreatDoor

/- StrS -/
namespace Go.Proofs.YtlahobdopmdfmaaGreatDoor
open Go.RowKit Go.BigFrame

theorem info_string : (Tryz.prog.info? 9).map (fun i => (i.zero, i.size, i.bytes)) = some (some (.string ByteArray.empty), 1, 16) := by kernel_rfl
/-- The texts of marks from k on. -/
def seqT (k : Int) (n : Nat) : List ByteArray := (List.range n).map fun i : Nat => mtx (k + (i : Int))
theorem seqT_len (k : Int) (n : Nat) : (seqT k n).length = n := by simp [seqT]
theorem seqT_at {k : Int} {n i : Nat} (h : i < n) : elt textF (seqT k n) i = mtx (k + (i : Int)) := elt_range h
section
variable {w : World} {t : TypeId} {lo hi g n c k : Nat}
theorem RdF.atT {a : Option Addr} {xs : List ByteArray} (h : RdF textF w a xs) (hk : k < xs.length) : ∃ b off, a = some ⟨b, off, none⟩ ∧ w.cell? ⟨b, off + k, none⟩ = some (.string (elt textF xs k)) := by
  obtain ⟨b, off, rfl, hc⟩ := h.at_ hk
  refine ⟨b, off, rfl, ?_⟩
  have := hc 0 (.string (elt textF xs k)) rfl
  simpa [textF] using this
theorem OwnF.getT {xs : List ByteArray} (h : OwnF textF t w lo hi (.slice (some ⟨g, 0, none⟩) n c) xs) (hk : k < xs.length) : w.cell? ⟨g, k, none⟩ = some (.string (elt textF xs k)) := by
  have := h.get (k := k) (j := 0) (u := .string (elt textF xs k)) hk rfl
  simpa [textF] using this
theorem OwnF.putT {xs : List ByteArray} (h : OwnF textF t w lo hi (.slice (some ⟨g, 0, none⟩) n c) xs) (hk : k < xs.length) (x : ByteArray) : OwnF textF t (w.setCell ⟨g, k, none⟩ (.string x)) lo hi (.slice (some ⟨g, 0, none⟩) n c) (xs.set k x) := by
  have := h.put (k := k) (j := 0) (y := x) (u := .string x) hk (by decide) rfl
  simpa [textF] using this
end
theorem str_eqB {a b : ByteArray} (h : a = b) : (a.toList == b.toList) = true := by rw [h]; simp
theorem str_neB {a b : ByteArray} (h : ¬ a = b) : (a.toList == b.toList) = false := by
  rw [beq_eq_false_iff_ne]
  intro e
  rw [Lib.toList_data, Lib.toList_data] at e
  exact h (bs_ext e)

end Go.Proofs.YtlahobdopmdfmaaGreatDoor

/- SplitS -/
namespace Go.Proofs.YtlahobdopmdfmaaGreatDoor
open Go.RowKit

theorem news_text (w : World) (x : ByteArray) (e : TypeId) : ∀ i u, (flat textF [x])[i]? = some u → (w.alloc (.cells #[.string x] e)).cell? ((⟨w.heap.size, 0, none⟩ : Addr).add i) = some u := by
  intro i u hu
  match i, hu with
  | 0, hu => simp [flat, textF] at hu; subst hu; exact cell_new1 w _ _

set_option maxHeartbeats 4000000 in
theorem l01Split_any (s : ByteArray) (c : UInt8) (w : World) (hs : s.size ≤ 1048576) :
    Calls Tryz.prog 36 #[.string s, .int .u8 (c.toNat : Int)] w fun e w' => ∃ A C, e = .returned (.slice A (splitL s c).length C) ∧
      OwnF textF 9 w' w.heap.size w'.heap.size (.slice A (splitL s c).length C) (splitL s c) ∧ Below w.heap.size w w' := by
  obtain ⟨u, hu⟩ : ∃ u, u = w.alloc (.cells #[] 9) := ⟨_, rfl⟩
  have hbu : Below w.heap.size w u := by rw [hu]; exact (by repeat (first | exact Below.refl _ _ | refine Below.setCell ?_ (by first | omega | (simp <;> omega)) _ | refine Below.alloc ?_ (by first | omega | (simp <;> omega)) _ | refine Below.drew ?_))
  have hsu : u.heap.size = w.heap.size + 1 := by rw [hu]; simp
  have ow0 : OwnF textF 9 u w.heap.size u.heap.size (.slice (some ⟨w.heap.size, 0, none⟩) 0 0) [] := by
    rw [hsu, hu]
    exact ownF_row (n := 0) (row_new 9 1 w #[] 0 (by simp) (by omega)) rfl (by simp)
  have HU := Lib.hid hu
  clear hu
  have hL := splitL_len s c
  have HL := Lib.hid (show ([] : List ByteArray) ++ splitGo s c (s.size - 0) 0 0 = splitL s c from rfl)
  have HLL := Lib.hid hL
  clear hL
  go_enter Tryz.func36, Tryz.ntmps36
  go_wp2_with fail
  rw [← HU.out]
  go_loopw [5, 6, 7] (fun o f i wr => ∃ (k g : Nat) (acc : List ByteArray) (A : Option Addr) (C : Nat), k ≤ s.size ∧ g ≤ k ∧ acc.length ≤ k ∧ i = .int .i64 (k : Nat) ∧ f = .int .i64 (g : Nat) ∧ o = .slice A acc.length C ∧ Hid (acc ++ splitGo s c (s.size - k) k g = splitL s c) ∧
    OwnF textF 9 wr w.heap.size wr.heap.size (.slice A acc.length C) acc ∧ Below w.heap.size w wr) (fun _ _ i _ => s.size - (intOf i).toNat)
  case atStart => exact ⟨0, 0, [], some ⟨w.heap.size, 0, none⟩, 0, Nat.zero_le _, Nat.le_refl _, by simp, rfl, rfl, rfl, HL, ow0, hbu⟩
  case round =>
    clear ow0 hbu HL
    obtain ⟨k, g, acc, A, C, hk, hg, hl, rfl, rfl, rfl, HS, ow, hbel⟩ := hrel
    have hsz := hbel.size
    by_cases hlt : k < s.size
    · have hb := byteAt_get hlt
      have hn : s.size - k = (s.size - (k + 1)) + 1 := by omega
      by_cases hc : byteAt s k = c
      · have hbe : ((s[k]'hlt).toNat : Int) = (c.toNat : Int) := by rw [hb, hc]
        have HS2 : Hid ((acc ++ [s.extract g k]) ++ splitGo s c (s.size - (k + 1)) (k + 1) (k + 1) = splitL s c) := Lib.hid (by
          have := HS.out
          rw [hn, splitGo_hit hc] at this
          rw [← this]; simp)
        clear hb hn hc HS
        go_wp2_with (at_builtin; go_must (refine wpList_appR rfl (.tmp 20) (.tmp 25) 53 9 rfl (.string ByteArray.empty) 1 16 Tryz.underlying53 info_string rfl (by omega) (by omega) rfl ((ow.row).alloc _) ⟨wr.heap.size, 0, none⟩ 1 1 (flat textF [s.extract g k]) rfl rfl (news_text wr _ _) flat_mem (by omega) (by simp <;> omega) ?_); intro A' C' w5 row5 ht5)
        have ow5 : OwnF textF 9 w5 w.heap.size w5.heap.size (.slice A' (acc ++ [s.extract g k]).length C') (acc ++ [s.extract g k]) := ownF_row (n := acc.length + 1) (by rw [flat_append, List.length_append]; exact row5) (by simp) (by simp; omega)
        have hb5 : Below w.heap.size w w5 := (hbel.alloc hsz _).trans (ht5.below (Nat.le_refl _) (by simp; omega))
        go_roundw
        case rel => exact ⟨k + 1, k + 1, acc ++ [s.extract g k], A', C', by omega, Nat.le_refl _, by simp; omega, by go_num, by go_num, by simp, HS2, ow5, hb5⟩
        case measure => (simp [intOf]) <;> omega
      · have hbe : ¬ (((s[k]'hlt).toNat : Int) = (c.toNat : Int)) := by
          rw [hb]
          intro e
          exact hc (UInt8.toNat_inj.1 (by omega))
        have HS2 : Hid (acc ++ splitGo s c (s.size - (k + 1)) (k + 1) g = splitL s c) := Lib.hid (by
          have := HS.out
          rwa [hn, splitGo_miss hc] at this)
        clear hb hn hc HS
        go_wp2_with fail
        go_roundw
        case rel => exact ⟨k + 1, g, acc, A, C, by omega, by omega, by omega, by go_num, rfl, rfl, HS2, ow, hbel⟩
        case measure => (simp [intOf]) <;> omega
    · obtain rfl : k = s.size := by omega
      have HS2 : Hid (acc ++ [s.extract g s.size] = splitL s c) := Lib.hid (by
        have := HS.out
        rwa [Nat.sub_self] at this)
      clear HS
      go_wp2_with (at_builtin; go_must (refine wpList_appR rfl (.tmp 29) (.tmp 33) 53 9 rfl (.string ByteArray.empty) 1 16 Tryz.underlying53 info_string rfl (by omega) (by omega) rfl ((ow.row).alloc _) ⟨wr.heap.size, 0, none⟩ 1 1 (flat textF [s.extract g s.size]) rfl rfl (news_text wr _ _) flat_mem (by omega) (by simp <;> omega) ?_); intro A' C' w5 row5 ht5)
      have ow5 : OwnF textF 9 w5 w.heap.size w5.heap.size (.slice A' (acc ++ [s.extract g s.size]).length C') (acc ++ [s.extract g s.size]) := ownF_row (n := acc.length + 1) (by rw [flat_append, List.length_append]; exact row5) (by simp) (by simp; omega)
      have hb5 : Below w.heap.size w w5 := (hbel.alloc hsz _).trans (ht5.below (Nat.le_refl _) (by simp; omega))
      rw [HS2.out] at ow5
      have hlen : acc.length + 1 = (splitL s c).length := by rw [← HS2.out]; simp
      go_ret
      exact ⟨A', C', by rw [← hlen]; rfl, ow5, hb5⟩

/-- The parts that are not empty, among the first k. -/
theorem wordsL_step {xs : List ByteArray} {k : Nat} (hk : k < xs.length) : (xs.take (k + 1)).filter someB = (xs.take k).filter someB ++ (if (elt textF xs k).data.toList = [] then [] else [elt textF xs k]) := by
  rw [takeE_succ (F := textF) hk, List.filter_append]
  congr 1
  by_cases h : (elt textF xs k).data.toList = []
  · have hb : someB (elt textF xs k) = false := decide_eq_false (by simpa using h)
    rw [if_pos h, List.filter_cons, hb]; rfl
  · have hb : someB (elt textF xs k) = true := decide_eq_true h
    rw [if_neg h, List.filter_cons, hb]; rfl

end Go.Proofs.YtlahobdopmdfmaaGreatDoor

/- RgM -/
namespace Go.Proofs.YtlahobdopmdfmaaGreatDoor
open Go Go.RowKit

/-- The digit of a sign; -1: no sign. -/
def sgV (c : Nat) : Int := if 48 ≤ c ∧ c ≤ 57 then (c : Int) - 48 else if 97 ≤ c ∧ c ≤ 102 then (c : Int) - 87 else -1
theorem sgV_bd (c : Nat) : -1 ≤ sgV c ∧ sgV c ≤ 15 := by unfold sgV; split <;> (try split) <;> omega
theorem sgV_dec {c : Nat} (h : 48 ≤ c ∧ c ≤ 57) : sgV c = (c : Int) - 48 := by unfold sgV; rw [if_pos h]
theorem sgV_let {c : Nat} (h : 97 ≤ c ∧ c ≤ 102) : sgV c = (c : Int) - 87 := by unfold sgV; rw [if_neg (by omega), if_pos h]
theorem sgV_no {c : Nat} (h : ¬ (48 ≤ c ∧ c ≤ 57)) (h2 : ¬ (97 ≤ c ∧ c ≤ 102)) : sgV c = -1 := by unfold sgV; rw [if_neg h, if_neg h2]
/-- The first j digits of a text, read from its end. -/
def tdL (t : ByteArray) (j : Nat) : List Int := (List.range j).map fun k => sgV (byteAt t (t.size - 1 - k)).toNat
theorem tdL_len (t : ByteArray) (j : Nat) : (tdL t j).length = j := by simp [tdL]
theorem tdL_succ (t : ByteArray) (j : Nat) : tdL t (j + 1) = tdL t j ++ [sgV (byteAt t (t.size - 1 - j)).toNat] := by simp [tdL, List.range_succ]
theorem tdL_all (t : ByteArray) (j : Nat) : ∀ d ∈ tdL t j, -1 ≤ d ∧ d ≤ 15 := by
  intro d hd
  simp only [tdL, List.mem_map] at hd
  obtain ⟨k, _, rfl⟩ := hd
  exact sgV_bd _
/-- The row of digits when the text's first k signs are read. -/
def tdP (t : ByteArray) (k : Nat) : List Int := (List.range t.size).map fun i => if t.size - 1 - i < k then sgV (byteAt t (t.size - 1 - i)).toNat else 0
theorem tdP_len (t : ByteArray) (k : Nat) : (tdP t k).length = t.size := by simp [tdP]
theorem tdP_zero (t : ByteArray) : tdP t 0 = List.replicate t.size 0 := by
  refine List.ext_getElem (by simp [tdP]) fun i h1 h2 => by simp [tdP]
theorem tdP_last (t : ByteArray) : tdP t t.size = tdL t t.size := by
  refine List.ext_getElem (by simp [tdP, tdL]) fun i h1 h2 => ?_
  rw [tdP_len] at h1
  simp only [tdP, tdL, List.getElem_map, List.getElem_range]
  rw [if_pos (by omega)]
theorem tdP_step {t : ByteArray} {k : Nat} (h : k < t.size) : (tdP t k).set (t.size - 1 - k) (sgV (byteAt t k).toNat) = tdP t (k + 1) := by
  refine List.ext_getElem (by simp [tdP]) fun i h1 h2 => ?_
  rw [tdP_len] at h2
  rw [List.getElem_set]
  simp only [tdP, List.getElem_map, List.getElem_range]
  by_cases hi : t.size - 1 - k = i
  · rw [if_pos hi, if_pos (by omega)]
    rw [show t.size - 1 - i = k by omega]
  · rw [if_neg hi]
    by_cases h3 : t.size - 1 - i < k
    · rw [if_pos h3, if_pos (by omega)]
    · rw [if_neg h3, if_neg (by omega)]
theorem okB_sign {b : Int} {t : ByteArray} {k : Nat} (h : k < t.size) (hs : sgV (byteAt t k).toNat = -1) : okB b (tdL t t.size) = false := by
  cases hb : okB b (tdL t t.size) with
  | false => rfl
  | true =>
    obtain ⟨_, _, _, _, h5, _⟩ := okB_spec hb
    have := h5 (-1) (by
      simp only [tdL, List.mem_map, List.mem_range]
      exact ⟨t.size - 1 - k, by omega, by rw [show t.size - 1 - (t.size - 1 - k) = k by omega]; exact hs⟩)
    omega

/-- What reading a register's text gives. -/
noncomputable def rgT (b : Int × Bool) (t : ByteArray) : Int × List Int × Bool := if t.size ≤ 16 ∧ b.2 = true ∧ okB b.1 (tdL t t.size) = true then (b.1, tdL t t.size, true) else (0, [], false)
noncomputable def rgL : List ByteArray → Int × List Int × Bool
  | [h, t] => rgT (rdR h) t
  | _ => (0, [], false)
noncomputable def rgR (s : ByteArray) : Int × List Int × Bool := rgL (splitL s 58)
theorem rgT_yes {b : Int × Bool} {t : ByteArray} (h1 : t.size ≤ 16) (h2 : b.2 = true) (h3 : okB b.1 (tdL t t.size) = true) : rgT b t = (b.1, tdL t t.size, true) := if_pos ⟨h1, h2, h3⟩
theorem rgT_long {b : Int × Bool} {t : ByteArray} (h : 16 < t.size) : rgT b t = (0, [], false) := if_neg fun h2 => by omega
theorem rgT_head {b : Int × Bool} {t : ByteArray} (h : b.2 = false) : rgT b t = (0, [], false) := if_neg fun h2 => by rw [h] at h2; simp at h2
theorem rgT_bad {b : Int × Bool} {t : ByteArray} (h : okB b.1 (tdL t t.size) = false) : rgT b t = (0, [], false) := if_neg fun h2 => by rw [h] at h2; simp at h2
theorem rgL_len {l : List ByteArray} (h : ¬ l.length = 2) : rgL l = (0, [], false) := by
  match l, h with
  | [], _ => rfl
  | [_], _ => rfl
  | [_, _], h => exact absurd rfl h
  | _ :: _ :: _ :: _, _ => rfl

theorem splitGo_none {s : ByteArray} {c : UInt8} : ∀ (n i f : Nat), i + n = s.size → (∀ j, i ≤ j → j < s.size → ¬ byteAt s j = c) → splitGo s c n i f = [s.extract f s.size]
  | 0, _, _, _, _ => rfl
  | n + 1, i, f, h, hn => by rw [splitGo_miss (hn i (Nat.le_refl _) (by omega))]; exact splitGo_none n (i + 1) f (by omega) fun j h1 h2 => hn j (by omega) h2
theorem splitGo_first {s : ByteArray} {c : UInt8} : ∀ (m n i f : Nat), (∀ j, i ≤ j → j < i + m → ¬ byteAt s j = c) → byteAt s (i + m) = c → splitGo s c (m + 1 + n) i f = s.extract f (i + m) :: splitGo s c n (i + m + 1) (i + m + 1)
  | 0, n, i, f, _, hc => by rw [show 0 + 1 + n = n + 1 by omega]; exact splitGo_hit hc
  | m + 1, n, i, f, hn, hc => by
    rw [show m + 1 + 1 + n = (m + 1 + n) + 1 by omega, splitGo_miss (hn i (Nat.le_refl _) (by omega)), splitGo_first m n (i + 1) f (fun j h1 h2 => hn j (by omega) (by omega)) (by rw [show i + 1 + m = i + (m + 1) by omega]; exact hc), show i + 1 + m = i + (m + 1) by omega]
theorem splitGo_pos {s : ByteArray} {c : UInt8} : ∀ (n i f : Nat), 1 ≤ (splitGo s c n i f).length
  | 0, _, _ => by simp [splitGo]
  | n + 1, i, f => by rw [splitGo]; split; simp; exact splitGo_pos n (i + 1) f
theorem splitGo_some {s : ByteArray} {c : UInt8} : ∀ (n i f : Nat), i + n = s.size → (∃ j, i ≤ j ∧ j < s.size ∧ byteAt s j = c) → 2 ≤ (splitGo s c n i f).length
  | 0, i, f, h, ⟨j, h1, h2, _⟩ => by omega
  | n + 1, i, f, h, ⟨j, h1, h2, h3⟩ => by
    by_cases hc : byteAt s i = c
    · rw [splitGo_hit hc]
      have := splitGo_pos (s := s) (c := c) n (i + 1) (i + 1)
      simp; omega
    · rw [splitGo_miss hc]
      refine splitGo_some n (i + 1) f (by omega) ⟨j, ?_, h2, h3⟩
      rcases Nat.lt_or_ge i j with h4 | h4
      · omega
      · obtain rfl : i = j := by omega
        exact absurd h3 hc

theorem occ_byte {s : ByteArray} {c : UInt8} {j : Nat} (h : j < s.size) : Lib.occAt s.data.toList [c] j = true ↔ byteAt s j = c := by
  have h2 : j < s.data.toList.length := by simpa using h
  rw [Lib.occAt_iff_take _ _ _ (by simp; omega), ← byteAt_get h, List.drop_eq_getElem_cons h2]
  simp only [List.length_cons, List.length_nil, Nat.zero_add, List.take_succ_cons, List.take_zero, beq_iff_eq, List.cons.injEq, and_true]
  exact Iff.rfl

/-- What the text's cut at the first ':' tells. -/
theorem cut_tells (s : ByteArray) :
    ((Lib.cut s.data.toList [58]).2.2 = false ∧ (⟨(Lib.cut s.data.toList [58]).1.toArray⟩ : ByteArray).size ≤ s.size ∧ rgR s = (0, [], false)) ∨
    ((Lib.cut s.data.toList [58]).2.2 = true ∧ (⟨(Lib.cut s.data.toList [58]).1.toArray⟩ : ByteArray).size ≤ s.size ∧ (⟨(Lib.cut s.data.toList [58]).2.1.toArray⟩ : ByteArray).size ≤ s.size ∧
      rgR s = rgT (rdR ⟨(Lib.cut s.data.toList [58]).1.toArray⟩) ⟨(Lib.cut s.data.toList [58]).2.1.toArray⟩) := by
  rcases Lib.index_spec s.data.toList [58] with ⟨h1, h2⟩ | ⟨i, h1, h2, h3, h4⟩
  · refine .inl ⟨by unfold Lib.cut; rw [if_neg (by omega)], by unfold Lib.cut; rw [if_neg (by omega)]; simp, ?_⟩
    have hn : ∀ j, 0 ≤ j → j < s.size → ¬ byteAt s j = 58 := fun j _ hj hc => by
      have := h2 j (by have : s.data.toList.length = s.size := by simp
                       omega)
      rw [(occ_byte hj).2 hc] at this
      cases this
    unfold rgR splitL
    rw [splitGo_none s.size 0 0 (by omega) hn]
    rfl
  · have hsz : s.data.toList.length = s.size := by simp
    have hi : i < s.size := by
      rcases Lib.occAt_room h3 with h | h
      · simp at h; omega
      · cases h
    have hc : byteAt s i = 58 := (occ_byte hi).1 h3
    have hn : ∀ j, 0 ≤ j → j < 0 + i → ¬ byteAt s j = 58 := fun j _ hj hc => by
      have := h4 j (by omega)
      rw [(occ_byte (by omega)).2 hc] at this
      cases this
    have e1 : (Lib.cut s.data.toList [58]) = (s.data.toList.take i, s.data.toList.drop (i + 1), true) := by
      unfold Lib.cut; rw [if_pos (by omega), h1]; simp
    have e2 : (⟨(s.data.toList.take i).toArray⟩ : ByteArray) = s.extract 0 i := by
      apply WideShapes.bytes_inj
      rw [Lib.extract_data]; simp
    have e3 : (⟨(s.data.toList.drop (i + 1)).toArray⟩ : ByteArray) = s.extract (i + 1) s.size := by
      apply WideShapes.bytes_inj
      rw [Lib.extract_to_end]
    have e4 : splitL s 58 = s.extract 0 i :: splitGo s 58 (s.size - (i + 1)) (i + 1) (i + 1) := by
      have := splitGo_first (s := s) (c := 58) i (s.size - (i + 1)) 0 0 hn (by rw [Nat.zero_add]; exact hc)
      rw [show i + 1 + (s.size - (i + 1)) = s.size by omega, Nat.zero_add] at this
      exact this
    rw [e1]
    refine .inr ⟨rfl, ?_, ?_, ?_⟩
    · rw [e2]; (simp) <;> omega
    · rw [e3]; (simp) <;> omega
    · simp only [e2, e3]
      unfold rgR
      rw [e4]
      by_cases hx : ∃ j, i + 1 ≤ j ∧ j < s.size ∧ byteAt s j = 58
      · have hl := splitGo_some (s := s) (c := 58) (s.size - (i + 1)) (i + 1) (i + 1) (by omega) hx
        rw [rgL_len (by simp; omega)]
        obtain ⟨j, j1, j2, j3⟩ := hx
        refine (rgT_bad (okB_sign (k := j - (i + 1)) (by simp; omega) ?_)).symm
        have hk : j - (i + 1) < (s.extract (i + 1) s.size).size := by simp; omega
        have : byteAt (s.extract (i + 1) s.size) (j - (i + 1)) = 58 := by
          rw [← byteAt_get hk, ← j3, ← byteAt_get j2]
          simp only [ByteArray.getElem_extract]
          congr 1
          omega
        rw [this]; decide
      · rw [splitGo_none (s.size - (i + 1)) (i + 1) (i + 1) (by omega) fun j h1 h2 h3 => hx ⟨j, h1, h2, h3⟩]
        rfl
end Go.Proofs.YtlahobdopmdfmaaGreatDoor

/- RgI -/
namespace Go.Proofs.YtlahobdopmdfmaaGreatDoor
open Go.RowKit

theorem rgDec_t (c : Int) (w : World) (h : 48 ≤ c ∧ c ≤ 57) : Calls Tryz.prog 97 #[.int .i32 c] w fun e w' => e = .returned (.bool true) ∧ w' = w := by
  obtain ⟨h1, h2⟩ := h
  go_enter Tryz.func97, Tryz.ntmps97
  go_wp2
  go_ret
  exact ⟨ret_bool (by simp), rfl⟩
theorem rgDec_f (c : Int) (w : World) (h : ¬ (48 ≤ c ∧ c ≤ 57)) : Calls Tryz.prog 97 #[.int .i32 c] w fun e w' => e = .returned (.bool false) ∧ w' = w := by
  by_cases h1 : 48 ≤ c
  · have h2 : ¬ c ≤ 57 := by omega
    clear h
    go_enter Tryz.func97, Tryz.ntmps97
    go_wp2
    go_ret
    exact ⟨ret_bool (by simp), rfl⟩
  · clear h
    go_enter Tryz.func97, Tryz.ntmps97
    go_wp2
    go_ret
    exact ⟨rfl, rfl⟩

/-- A sign's digit, in the program. -/
theorem signDigit_t (c : Nat) (w : World) (h : ¬ sgV c = -1) : Calls Tryz.prog 57 #[.int .i32 (c : Int)] w fun e w' => e = .returned (.tuple #[.int .i64 (sgV c), .bool true]) ∧ w' = w := by
  by_cases h1 : 48 ≤ (c : Int) ∧ (c : Int) ≤ 57
  · have HV := Lib.hid (sgV_dec (c := c) (by omega))
    have c1 := fun w => rgDec_t (c : Int) w h1
    obtain ⟨h2, h3⟩ := h1
    clear h
    go_enter Tryz.func57, Tryz.ntmps57
    go_wp2_with (go_at_call 97; refine (c1 _).mono ?_; rintro e w' ⟨rfl, rfl⟩)
    go_ret2
    exact ⟨by rw [HV.out]; rfl, rfl⟩
  · have h4 : 97 ≤ (c : Int) ∧ (c : Int) ≤ 102 := by
      by_cases h5 : 97 ≤ c ∧ c ≤ 102
      · omega
      · exact absurd (sgV_no (by omega) h5) h
    have HV := Lib.hid (sgV_let (c := c) (by omega))
    have c1 := fun w => rgDec_f (c : Int) w h1
    obtain ⟨h2, h3⟩ := h4
    clear h h1
    go_enter Tryz.func57, Tryz.ntmps57
    go_wp2_with (go_at_call 97; refine (c1 _).mono ?_; rintro e w' ⟨rfl, rfl⟩)
    go_ret2
    exact ⟨by rw [HV.out, show (c : Int) - 87 = (c : Int) - 97 + 10 by omega]; rfl, rfl⟩
theorem signDigit_f (c : Nat) (w : World) (h : sgV c = -1) : Calls Tryz.prog 57 #[.int .i32 (c : Int)] w fun e w' => e = .returned (.tuple #[.int .i64 0, .bool false]) ∧ w' = w := by
  have h1 : ¬ (48 ≤ (c : Int) ∧ (c : Int) ≤ 57) := fun hh => by have := sgV_dec (c := c) (by omega); omega
  have h4 : ¬ (97 ≤ (c : Int) ∧ (c : Int) ≤ 102) := fun hh => by have := sgV_let (c := c) (by omega); omega
  have c1 := fun w => rgDec_f (c : Int) w h1
  by_cases h5 : 97 ≤ (c : Int)
  · have h6 : ¬ (c : Int) ≤ 102 := by omega
    clear h h1 h4
    go_enter Tryz.func57, Tryz.ntmps57
    go_wp2_with (go_at_call 97; refine (c1 _).mono ?_; rintro e w' ⟨rfl, rfl⟩)
    go_ret2
    exact ⟨rfl, rfl⟩
  · clear h h1 h4
    go_enter Tryz.func57, Tryz.ntmps57
    go_wp2_with (go_at_call 97; refine (c1 _).mono ?_; rintro e w' ⟨rfl, rfl⟩)
    go_ret2
    exact ⟨rfl, rfl⟩

/-- What is decoded is a sign just if the byte is one; then it is one byte. -/
theorem dec_sg {s : ByteArray} {k c z : Nat} (h : k < s.size) (hd : Utf8.decode s k = (c, z)) : sgV c = sgV (byteAt s k).toNat ∧ (¬ sgV c = -1 → z = 1) := by
  rw [← byteAt_get h]
  rcases Nat.lt_or_ge (s[k]'h).toNat 128 with h1 | h1
  · rw [decode_ascii s k h h1] at hd
    injection hd with h2 h3
    subst h2
    exact ⟨rfl, fun _ => h3.symm⟩
  · have h2 := (decode_high s k h h1).1
    rw [hd] at h2
    have h3 : 128 ≤ c := h2
    have h4 : sgV c = -1 := sgV_no (by omega) (by omega)
    exact ⟨by rw [h4, sgV_no (by omega) (by omega)], fun h5 => absurd h4 h5⟩

/-- A store ahead of an object that was made last. -/
theorem alloc_put (X : World) (o : Obj) {p : Addr} (hp : p.block < X.heap.size) (u : Value) : (X.alloc o).setCell p u = (X.setCell p u).alloc o := by
  unfold World.setCell World.alloc
  congr 1
  refine Array.ext (by simp) fun i h1 h2 => ?_
  simp only [Array.getElem_modify, Array.getElem_push, Array.size_modify]
  by_cases hi : i < X.heap.size
  · simp [hi]
  · simp only [hi, dite_false]
    rw [if_neg (by omega)]

theorem iterPos_at {X : World} {N : Nat} {s : ByteArray} {p : Nat} (h : X.heap.size = N) : (X.iter s p).iterPos N = p := by subst h; exact World.iterPos_iter X s p

/-- The library's variables that reading a register meets. -/
structure RgDoor (w : World) : Prop where
  rd : RdDoor w
  max : ∃ m, w.cell? ⟨1, 0, none⟩ = some (.int .i64 m)
theorem rgDoor_below {w w' : World} (h : RgDoor w) (hb : Below w.heap.size w w') : RgDoor w' := by
  obtain ⟨h1, m, h2⟩ := h
  exact ⟨rdDoor_below h1 hb, m, kept hb h2⟩

theorem rdR_64 (s : ByteArray) : I64 (rdR s).1 := by
  by_cases h : ∃ v, isDec s v
  · obtain ⟨v, hv⟩ := h
    rw [rdR_yes hv]
    have := hv.1
    exact i64_at (by show _ ≤ v; omega) (by show v ≤ _; omega)
  · rw [rdR_no h]; exact i64_at (by decide) (by decide)

/-- What a call of ReadRegister leaves. -/
def RgPost (s : ByteArray) (w : World) (e : Ending) (w' : World) : Prop := ∃ A C,
  e = .returned (.tuple #[.agg #[.int .i64 (rgR s).1, .slice A (rgR s).2.1.length C], .bool (rgR s).2.2]) ∧ Own 2 w' w.heap.size w'.heap.size (.slice A (rgR s).2.1.length C) (rgR s).2.1 ∧ Below w.heap.size w w'
theorem rgPost_no {s : ByteArray} {w w' : World} {e : Ending} (h : rgR s = (0, [], false)) (he : e = .returned (.tuple #[.agg #[.int .i64 0, .slice none 0 0], .bool false])) (hb : Below w.heap.size w w') : RgPost s w e w' := by
  refine ⟨none, 0, ?_, ?_, hb⟩
  · rw [h]; exact he
  · rw [h]; exact own_nil _ _ _ _
theorem rgPost_yes {s : ByteArray} {b : Int} {zs : List Int} {m : Nat} {w w' : World} {A : Option Addr} {C lo hi : Nat} {e : Ending} (h : rgR s = (b, zs, true)) (hm : zs.length = m) (he : e = .returned (.tuple #[.agg #[.int .i64 b, .slice A m C], .bool true]))
    (ho : Own 2 w' lo hi (.slice A m C) zs) (hl : w.heap.size ≤ lo) (hh : hi ≤ w'.heap.size) (hb : Below w.heap.size w w') : RgPost s w e w' := by
  subst hm
  refine ⟨A, C, ?_, ?_, hb⟩
  · rw [h]; exact he
  · rw [h]; exact ho.wide hl hh

set_option maxRecDepth 100000 in
set_option maxHeartbeats 4000000 in
theorem implReadRegister (s : ByteArray) (w : World) (hs : s.size ≤ 1048576) (hD : RgDoor w) :
    Calls Tryz.prog 27 #[.string s] w (RgPost s w) := by
  obtain ⟨V, hV⟩ : ∃ V, V = w.alloc (.cells #[.int .i64 0, .slice none 0 0] 26) := ⟨_, rfl⟩
  have bx : Bx V w.heap.size 26 #[.int .i64 0, .slice none 0 0] := by rw [hV]; exact Bx.new _ _ _
  have hbV : Below w.heap.size w V := by rw [hV]; exact (Below.refl _ _).alloc (Nat.le_refl _) _
  have hDV := rgDoor_below hD hbV
  obtain ⟨hR, m, hM⟩ := hDV
  have c1 := Tryz.strings_Cut s ⟨#[58]⟩ m V (by omega) hM
  rw [show (⟨#[58]⟩ : ByteArray).data.toList = [58] from rfl] at c1
  have ht := cut_tells s
  obtain ⟨H, hH⟩ : ∃ H : ByteArray, H = ⟨(Lib.cut s.data.toList [58]).1.toArray⟩ := ⟨_, rfl⟩
  obtain ⟨T, hT⟩ : ∃ T : ByteArray, T = ⟨(Lib.cut s.data.toList [58]).2.1.toArray⟩ := ⟨_, rfl⟩
  obtain ⟨F, hF⟩ : ∃ F : Bool, F = (Lib.cut s.data.toList [58]).2.2 := ⟨_, rfl⟩
  rw [← hH, ← hT, ← hF] at c1
  rw [← hH, ← hT, ← hF] at ht
  clear hH hT hF hD
  have HV := Lib.hid hV
  rcases ht with ⟨rfl, hHs, hr⟩ | ⟨rfl, hHs, hTs, hr⟩
  · have c2 := fun n => implReadDecimal H (V.drewN n) (by omega) (rdDoor_below hR (bel_drewN (Below.refl _ _) n))
    have h64 := rdR_64 H
    generalize rdR H = R at c2 hr h64
    obtain ⟨b, ok⟩ := R
    have HR := Lib.hid hr
    clear hr hR hM hV
    go_enter Tryz.func27, Tryz.ntmps27
    go_wp2_with fail
    rw [← HV.out]
    refine c1.mono ?_
    rintro e w1 ⟨rfl, n, rfl⟩
    go_wp2_with fail
    refine (c2 n).mono ?_
    rintro e w2 ⟨rfl, hb2⟩
    have hbx := (bel_drewN (Below.refl V.heap.size V) n).trans hb2
    replace bx := bx.below hbx
    replace hb2 := hbV.trans (hbx.mono hbV.size)
    clear hbx c1 c2 HV hbV
    have c0 := bx.at_ 0 rfl
    have c1 := bx.at_ 1 rfl
    have f0 := bx.thaw 0
    have f1 := bx.thaw 1
    go_wp2
    exact bodyPost_ret (v := .tuple #[.agg #[.int .i64 0, .slice none 0 0], .bool false]) (by simp [results, Tryz.results27, go_sem, c0, c1]) rfl
      (rgPost_no HR.out rfl (by repeat (first | exact hb2 | refine Below.setCell ?_ (by first | omega | (simp <;> omega)) _ | refine Below.alloc ?_ (by first | omega | (simp <;> omega)) _ | refine Below.drew ?_)))
  · have c2 := fun n => implReadDecimal H (V.drewN n) (by omega) (rdDoor_below hR (bel_drewN (Below.refl _ _) n))
    have h64 := rdR_64 H
    generalize rdR H = R at c2 hr h64
    obtain ⟨b, ok⟩ := R
    have HR := Lib.hid hr
    clear hr hR hM hV
    go_enter Tryz.func27, Tryz.ntmps27
    go_wp2_with fail
    rw [← HV.out]
    refine c1.mono ?_
    rintro e w1 ⟨rfl, n, rfl⟩
    go_wp2_with fail
    refine (c2 n).mono ?_
    rintro e w2 ⟨rfl, hb2⟩
    have hbx := (bel_drewN (Below.refl V.heap.size V) n).trans hb2
    replace bx := bx.below hbx
    replace hb2 := hbV.trans (hbx.mono hbV.size)
    clear hbx c1 c2 HV hbV
    cases ok with
    | false =>
      have HN := Lib.hid (HR.out.trans (rgT_head rfl))
      have c0 := bx.at_ 0 rfl
      have c1 := bx.at_ 1 rfl
      have f0 := bx.thaw 0
      have f1 := bx.thaw 1
      clear HR
      go_wp2
      exact bodyPost_ret (v := .tuple #[.agg #[.int .i64 0, .slice none 0 0], .bool false]) (by simp [results, Tryz.results27, go_sem, c0, c1]) rfl
        (rgPost_no HN.out rfl (by repeat (first | exact hb2 | refine Below.setCell ?_ (by first | omega | (simp <;> omega)) _ | refine Below.alloc ?_ (by first | omega | (simp <;> omega)) _ | refine Below.drew ?_)))
    | true =>
      rcases Nat.lt_or_ge 16 T.size with hl | hl
      · have HN := Lib.hid (HR.out.trans (rgT_long hl))
        have c0 := bx.at_ 0 rfl
        have c1 := bx.at_ 1 rfl
        have f0 := bx.thaw 0
        have f1 := bx.thaw 1
        clear HR
        go_wp2
        exact bodyPost_ret (v := .tuple #[.agg #[.int .i64 0, .slice none 0 0], .bool false]) (by simp [results, Tryz.results27, go_sem, c0, c1]) rfl
          (rgPost_no HN.out rfl (by repeat (first | exact hb2 | refine Below.setCell ?_ (by first | omega | (simp <;> omega)) _ | refine Below.alloc ?_ (by first | omega | (simp <;> omega)) _ | refine Below.drew ?_)))
      · go_wp2_with (at_make; go_must (refine wpList_makeI rfl _ _ _ 2 rfl Tryz.underlying24 info_int64 T.size rfl rfl (by omega) ?_); intro w3 hown hb3)
        have HB := Lib.hid hb3.size
        obtain ⟨X0, hX0⟩ : ∃ X0, X0 = w3.alloc (.cells #[.int .i64 b, .slice (some ⟨w2.heap.size, 0, none⟩) T.size T.size] 26) := ⟨_, rfl⟩
        have z0 : X0.heap.size = w3.heap.size + 1 := by rw [hX0]; simp
        have bx0 : Bx X0 w.heap.size 26 #[.int .i64 0, .slice none 0 0] := by rw [hX0]; exact (bx.below hb3).alloc _
        have by0 : Bx X0 w3.heap.size 26 #[.int .i64 b, .slice (some ⟨w2.heap.size, 0, none⟩) T.size T.size] := by rw [hX0]; exact Bx.new _ _ _
        have ow0 : Own 2 X0 w2.heap.size w3.heap.size (.slice (some ⟨w2.heap.size, 0, none⟩) T.size T.size) (tdP T 0) := by
          rw [hX0, tdP_zero, ← pad_nil]; exact hown.alloc _
        have bl0 : Below w.heap.size w X0 := by rw [hX0]; exact (hb2.trans (hb3.mono hb2.size)).alloc (Nat.le_trans hb2.size HB.out) _
        have HX := Lib.hid hX0
        have HZ := Lib.hid (show w.heap.size < w2.heap.size ∧ w2.heap.size < w3.heap.size from ⟨bx.lt, (hown.lo_le rfl).2.1⟩)
        clear hX0 bx hown hb3 hb2
        go_loopw [10] (fun _ wr => ∃ (k : Nat) (X : World), k ≤ T.size ∧ X.heap.size = w3.heap.size + 1 ∧ wr = X.iter T k ∧ Bx X w.heap.size 26 #[.int .i64 0, .slice none 0 0] ∧
            Bx X w3.heap.size 26 #[.int .i64 b, .slice (some ⟨w2.heap.size, 0, none⟩) T.size T.size] ∧ Own 2 X w2.heap.size w3.heap.size (.slice (some ⟨w2.heap.size, 0, none⟩) T.size T.size) (tdP T k) ∧ Below w.heap.size w X)
          (fun _ wr => T.size - wr.iterPos (w3.heap.size + 1))
        case atStart => exact ⟨0, X0, Nat.zero_le _, z0, by rw [HX.out], bx0, by0, ow0, bl0⟩
        case round =>
          clear bx0 by0 ow0 bl0 z0 HX
          obtain ⟨k, X, hk, hz, rfl, bx, by_, ow, bl⟩ := hrel
          by_cases hlt : k < T.size
          · have hnx := fun ty => run_next_any (P := Tryz.prog) X T k ty hlt
            rw [hz] at hnx
            obtain ⟨c, z, hd⟩ : ∃ c z, Utf8.decode T k = (c, z) := ⟨_, _, rfl⟩
            obtain ⟨hc, hzz⟩ := dec_sg hlt hd
            have hle : c ≤ 2147483647 := by have := decode_le T k; rw [hd] at this; exact this
            rw [hd] at hnx
            clear hd
            by_cases hsg : sgV c = -1
            · have HN := Lib.hid (HR.out.trans (rgT_bad (okB_sign hlt (hc ▸ hsg))))
              have c2 := fun w => signDigit_f c w hsg
              have bx' : Bx (X.iter T (k + z)) w.heap.size 26 #[.int .i64 0, .slice none 0 0] := bx.alloc _
              have hbl : Below w.heap.size w (X.iter T (k + z)) := bl.alloc bl.size _
              have c0 := bx'.at_ 0 rfl
              have c1 := bx'.at_ 1 rfl
              have f0 := bx'.thaw 0
              have f1 := bx'.thaw 1
              clear hzz hc hsg by_ ow bx bl bx' HR
              go_wp2_with (go_at_call 57; refine (c2 _).mono ?_; rintro e w' ⟨rfl, rfl⟩)
              exact bodyPost_ret (v := .tuple #[.agg #[.int .i64 0, .slice none 0 0], .bool false]) (by simp [results, Tryz.results27, go_sem, c0, c1]) rfl
                (rgPost_no HN.out rfl (by repeat (first | exact hbl | refine Below.setCell ?_ (by first | omega | (simp <;> omega)) _ | refine Below.alloc ?_ (by first | omega | (simp <;> omega)) _ | refine Below.drew ?_)))
            · obtain rfl : z = 1 := hzz hsg
              have c2 := fun w => signDigit_t c w hsg
              have hst := tdP_step hlt
              rw [← hc] at hst
              have hj : T.size - 1 - k < (tdP T k).length := by rw [tdP_len]; omega
              have g0 : (X.iter T (k + 1)).cell? ⟨w3.heap.size, 1, none⟩ = some (.slice (some ⟨w2.heap.size, 0, none⟩) T.size T.size) := kept_alloc (by_.at_ 1 rfl) _
              have g1 : (X.iter T (k + 1)).cell? ⟨w2.heap.size, T.size - 1 - k, none⟩ = some (.int .i64 (nth (tdP T k) (T.size - 1 - k))) := kept_alloc (ow.get hj) _
              have g2 : (X.iter T (k + 1)).frozen? ⟨w2.heap.size, T.size - 1 - k, none⟩ = false := (ow.alloc (.stringIter T (k + 1))).thaw _
              have hput := ow.put (T.size - 1 - k) (sgV c)
              rw [hst] at hput
              have HP := Lib.hid hput
              have e1 : ((T.size : Int) - 1 - (k : Int)) = ((T.size - 1 - k : Nat) : Int) := by omega
              clear hzz hc hput hst HR
              go_wp2_with (go_at_call 57; refine (c2 _).mono ?_; rintro e w' ⟨rfl, rfl⟩)
              go_roundw
              case rel =>
                have hz1 := HZ.out
                exact ⟨k + 1, X.setCell ⟨w2.heap.size, T.size - 1 - k, none⟩ (.int .i64 (sgV c)), by omega, by simpa using hz, alloc_put X _ (by simp; omega) _, bx.far (by simp; omega) _, by_.far (by simp; omega) _, HP.out, bl.setCell (by simp; omega) _⟩
              case measure =>
                have hz1 := HZ.out
                rw [show (X.iter T (k + 1)).setCell ⟨w2.heap.size, T.size - 1 - k, none⟩ (.int .i64 (sgV c)) = (X.setCell ⟨w2.heap.size, T.size - 1 - k, none⟩ (.int .i64 (sgV c))).iter T (k + 1) from alloc_put X _ (by simp; omega) _,
                  iterPos_at (by simpa using hz), iterPos_at hz]
                omega
          · have hnx := fun ty => run_next_end (P := Tryz.prog) X T k ty hlt
            rw [hz] at hnx
            obtain rfl : k = T.size := by omega
            obtain ⟨Y, hY⟩ : ∃ Y, Y = X.iter T T.size := ⟨_, rfl⟩
            have hbY : Below X.heap.size X Y := by rw [hY]; exact (Below.refl _ _).alloc (Nat.le_refl _) _
            rw [← hY] at hnx ⊢
            rw [tdP_last] at ow
            have bxY := bx.below hbY
            have byY := by_.below hbY
            have owY := ow.below hbY
            have blY := bl.trans (hbY.mono bl.size)
            have HL := Lib.hid (tdL_len T T.size)
            have h64s : All64 (tdL T T.size) := fun d hd => i64_at (by have := tdL_all T T.size d hd; omega) (by have := tdL_all T T.size d hd; omega)
            have c3 := implValidRegister b (some ⟨w2.heap.size, 0, none⟩) T.size (tdL T T.size) Y (owY.rd) h64s h64
            rw [HL.out] at c3
            have g0 := byY.at_ 0 rfl
            have g1 := byY.at_ 1 rfl
            have HYs := Lib.hid (show w3.heap.size + 1 < Y.heap.size by rw [hY]; simp [World.iter, hz])
            clear h64s hY bx by_ ow bl hbY
            cases hok : okB b (tdL T T.size)
            · have HN := Lib.hid (HR.out.trans (rgT_bad hok))
              rw [hok] at c3
              clear hok HR g0 g1
              have g0 := byY.at_ 0 rfl
              have g1 := byY.at_ 1 rfl
              go_wp2_with (go_at_call 58; refine c3.mono ?_; rintro e w4 ⟨rfl, hb4⟩; have bx4 := bxY.below hb4; have c0 := bx4.at_ 0 rfl; have c1 := bx4.at_ 1 rfl; have f0 := bx4.thaw 0; have f1 := bx4.thaw 1)
              exact bodyPost_ret (v := .tuple #[.agg #[.int .i64 0, .slice none 0 0], .bool false]) (by simp [results, Tryz.results27, go_sem, c0, c1]) rfl
                (rgPost_no HN.out rfl (by repeat (first | exact blY.trans (hb4.mono blY.size) | refine Below.setCell ?_ (by first | omega | (simp <;> omega)) _ | refine Below.alloc ?_ (by first | omega | (simp <;> omega)) _ | refine Below.drew ?_)))
            · have HN := Lib.hid (HR.out.trans (rgT_yes (by omega) rfl hok))
              rw [hok] at c3
              clear hok HR
              go_wp2_with (go_at_call 58; refine c3.mono ?_; rintro e w4 ⟨rfl, hb4⟩; have bx4 := bxY.below hb4; have by4 := byY.below hb4; have c0 := bx4.at_ 0 rfl; have c1 := bx4.at_ 1 rfl; have f0 := bx4.thaw 0; have f1 := bx4.thaw 1; have d0 := by4.at_ 0 rfl; have d1 := by4.at_ 1 rfl)
              exact bodyPost_ret (v := .tuple #[.agg #[.int .i64 b, .slice (some ⟨w2.heap.size, 0, none⟩) T.size T.size], .bool true]) (by simp [results, Tryz.results27, go_sem, c0, c1]) rfl
                (rgPost_yes HN.out HL.out rfl (lo := w2.heap.size) (hi := w3.heap.size) (((owY.below hb4).setCell (p := ⟨w.heap.size, 0, none⟩) (.inl HZ.out.1) _).setCell (p := ⟨w.heap.size, 1, none⟩) (.inl HZ.out.1) _) (Nat.le_of_lt HZ.out.1)
                  (by have h1 := HYs.out; have h2 := hb4.size; simp; omega) (by repeat (first | exact blY.trans (hb4.mono blY.size) | refine Below.setCell ?_ (by first | omega | (simp <;> omega)) _ | refine Below.alloc ?_ (by first | omega | (simp <;> omega)) _ | refine Below.drew ?_)))
end Go.Proofs.YtlahobdopmdfmaaGreatDoor

/- RgS -/
namespace Go.Proofs.YtlahobdopmdfmaaGreatDoor
open Go.RowKit

theorem splitGo_size {s : ByteArray} {c : UInt8} : ∀ (n i f : Nat), ∀ x ∈ splitGo s c n i f, x.size ≤ s.size
  | 0, i, f, x, hx => by
    rw [splitGo, List.mem_singleton] at hx
    subst hx
    (simp) <;> omega
  | n + 1, i, f, x, hx => by
    rw [splitGo] at hx
    split at hx
    · rcases List.mem_cons.1 hx with rfl | hx
      · (simp) <;> omega
      · exact splitGo_size n _ _ x hx
    · exact splitGo_size n _ _ x hx

/-- A sign's digit, in the model. -/
theorem l02Digit_any (c : UInt8) (w : World) : Calls Tryz.prog 75 #[.int .u8 (c.toNat : Int)] w fun e w' => e = .returned (.int .i64 (sgV c.toNat)) ∧ w' = w := by
  have hc : c.toNat < 256 := c.toNat_lt
  by_cases h1 : 48 ≤ (c.toNat : Int) ∧ (c.toNat : Int) ≤ 57
  · have HV := Lib.hid (sgV_dec (c := c.toNat) (by omega))
    obtain ⟨h2, h3⟩ := h1
    go_enter Tryz.func75, Tryz.ntmps75
    go_wp2
    go_ret
    exact ⟨by rw [HV.out]; rfl, rfl⟩
  by_cases h4 : 97 ≤ (c.toNat : Int) ∧ (c.toNat : Int) ≤ 102
  · have HV := Lib.hid (sgV_let (c := c.toNat) (by omega))
    obtain ⟨h2, h3⟩ := h4
    have h5 : ¬ (c.toNat : Int) ≤ 57 := by omega
    have h6 : 48 ≤ (c.toNat : Int) := by omega
    clear h1
    go_enter Tryz.func75, Tryz.ntmps75
    go_wp2
    go_ret
    exact ⟨by rw [HV.out, show (c.toNat : Int) - 87 = (c.toNat : Int) - 97 + 10 by omega]; rfl, rfl⟩
  have HV := Lib.hid (sgV_no (c := c.toNat) (by omega) (by omega))
  have hx : (c.toNat : Int) < 48 ∨ (48 ≤ (c.toNat : Int) ∧ 57 < (c.toNat : Int) ∧ (c.toNat : Int) < 97) ∨ (48 ≤ (c.toNat : Int) ∧ 57 < (c.toNat : Int) ∧ 97 ≤ (c.toNat : Int) ∧ 102 < (c.toNat : Int)) := by omega
  clear h1 h4
  rcases hx with h1 | ⟨h1, h2, h3⟩ | ⟨h1, h2, h3, h4⟩
  all_goals
    go_enter Tryz.func75, Tryz.ntmps75
    go_wp2
    go_ret
    exact ⟨by rw [HV.out]; rfl, rfl⟩

set_option maxRecDepth 100000 in
set_option maxHeartbeats 4000000 in
theorem specReadRegister (s : ByteArray) (w : World) (hs : s.size ≤ 1048576) :
    Calls Tryz.prog 37 #[.string s] w (RgPost s w) := by
  obtain ⟨V, hV⟩ : ∃ V, V = w.alloc (.cells #[.int .i64 0, .slice none 0 0] 26) := ⟨_, rfl⟩
  have bx : Bx V w.heap.size 26 #[.int .i64 0, .slice none 0 0] := by rw [hV]; exact Bx.new _ _ _
  have hbV : Below w.heap.size w V := by rw [hV]; exact (Below.refl _ _).alloc (Nat.le_refl _) _
  have c1 := l01Split_any s 58 V hs
  rw [show ((58 : UInt8).toNat : Int) = 58 from rfl] at c1
  have HR := Lib.hid (show rgR s = rgL (splitL s 58) from rfl)
  have HZ := Lib.hid (show ∀ x ∈ splitL s 58, x.size ≤ s.size from splitGo_size _ _ _)
  have hL := splitL_len s 58
  obtain ⟨L, eL⟩ : ∃ L, L = splitL s 58 := ⟨_, rfl⟩
  rw [← eL] at c1 HR HZ hL
  clear eL
  have HV := Lib.hid hV
  clear hV
  by_cases h2 : L.length = 2
  · obtain ⟨Hd, T, rfl⟩ : ∃ a b, L = [a, b] := by
      match L, h2 with
      | [a, b], _ => exact ⟨a, b, rfl⟩
    have hHd := HZ.out Hd (by simp)
    have hT := HZ.out T (by simp)
    clear HZ hL h2
    have hrd : rgR s = rgT (rdR Hd) T := HR.out
    have c2 := fun W => l01Number_any Hd W (by omega)
    have h64 := rdR_64 Hd
    generalize rdR Hd = R at c2 hrd h64
    obtain ⟨b, ok⟩ := R
    replace HR := Lib.hid hrd
    clear hrd
    go_enter Tryz.func37, Tryz.ntmps37
    go_wp2_with fail
    rw [← HV.out]
    refine c1.mono ?_
    rintro e w1 ⟨A, C, rfl, ow, hb⟩
    have hVs := bx.lt
    obtain ⟨g, rfl, hg1, hg2, hg3⟩ := ow.head (by simp)
    replace bx := bx.below hb
    have hb1 := hbV.trans (hb.mono hbV.size)
    have t0 : w1.cell? ⟨g, 0, none⟩ = some (.string Hd) := ow.getT (k := 0) (by simp)
    have t1 : w1.cell? ⟨g, 1, none⟩ = some (.string T) := ow.getT (k := 1) (by simp)
    have hwg : w.heap.size < g := by omega
    clear ow hb HV hbV c1 hVs hg1
    rcases Nat.lt_or_ge 16 T.size with hl | hl
    · have HN := Lib.hid (HR.out.trans (rgT_long hl))
      have c0 := bx.at_ 0 rfl
      have c1 := bx.at_ 1 rfl
      have f0 := bx.thaw 0
      have f1 := bx.thaw 1
      clear HR
      go_wp2
      exact bodyPost_ret (v := .tuple #[.agg #[.int .i64 0, .slice none 0 0], .bool false]) (by simp [results, Tryz.results37, go_sem, c0, c1]) rfl
        (rgPost_no HN.out rfl (by repeat (first | exact hb1 | refine Below.setCell ?_ (by first | omega | (simp <;> omega)) _ | refine Below.alloc ?_ (by first | omega | (simp <;> omega)) _ | refine Below.drew ?_)))
    · have hl' : (T.size : Int) ≤ 16 := by omega
      go_wp2_with fail
      refine (c2 _).mono ?_
      rintro e w2 ⟨rfl, hb2⟩
      replace bx := bx.below hb2
      replace hb1 := hb1.trans (hb2.mono hb1.size)
      replace t0 := kept hb2 t0
      replace t1 := kept hb2 t1
      have hg3 : g < w2.heap.size := Nat.lt_of_lt_of_le hg3 hb2.size
      clear hb2 c2 t0
      obtain ⟨X0, hX0⟩ : ∃ X0, X0 = w2.alloc (.cells #[.int .i64 b, .slice none 0 0] 26) := ⟨_, rfl⟩
      have by0 : Bx X0 w2.heap.size 26 #[.int .i64 b, .slice none 0 0] := by rw [hX0]; exact Bx.new _ _ _
      have bl0 : Below w2.heap.size w2 X0 := by rw [hX0]; exact (Below.refl _ _).alloc (Nat.le_refl _) _
      have q1 := kept bl0 t1
      have HX := Lib.hid hX0
      clear hX0
      go_wp2
      go_loopw [8] (fun i wr => ∃ (k : Nat) (A : Option Addr) (C : Nat), k ≤ T.size ∧ i = .int .i64 ((T.size : Int) - 1 - (k : Int)) ∧ Bx wr w2.heap.size 26 #[.int .i64 b, .slice A k C] ∧
          Own 2 wr (w2.heap.size + 1) wr.heap.size (.slice A k C) (tdL T k) ∧ Below w2.heap.size w2 wr) (fun i _ => (intOf i + 1).toNat)
      case atStart => exact ⟨0, none, 0, Nat.zero_le _, by simp, by rw [← HX.out]; exact by0, own_nil _ _ _ _, by rw [← HX.out]; exact bl0⟩
      case round =>
        clear by0 bl0 q1 HX
        obtain ⟨k, A, C, hk, rfl, by_, ow, bl⟩ := hrel
        have hzs := by_.lt
        by_cases hlt : k < T.size
        · have e1 : ((T.size : Int) - 1 - (k : Int)) = ((T.size - 1 - k : Nat) : Int) := by omega
          have hj : T.size - 1 - k < T.size := by omega
          have hst := tdL_succ T k
          rw [← byteAt_get hj] at hst
          have HT := Lib.hid hst
          have e2 : ((T.size : Int) - 1 - (k : Int)) - 1 = (T.size : Int) - 1 - ((k + 1 : Nat) : Int) := by omega
          have p1 := by_.at_ 1 rfl
          have q1 := kept bl t1
          have k1 := kept_lo (L := w2.heap.size + 1) p1 (by omega)
          have k2 := kept_lo (L := w2.heap.size + 1) q1 (by omega)
          have e3 : (0 : Int) ≤ (T.size : Int) - 1 - (k : Int) := by omega
          have c2 := fun W => l02Digit_any (T[T.size - 1 - k]'hj) W
          clear hst p1 q1
          go_wp2
          refine wp_region_marked (fun w' => Below (w2.heap.size + 1) wr w') 11 (by kernel_rfl) ?_
          have hS : Below (w2.heap.size + 1) wr wr.drew := (Below.refl _ _).drew
          refine wpAnyM_take (i := 0) (v := ?_) rfl (by kernel_rfl) (by kernel_rfl) (by kernel_rfl) (by kernel_rfl) (by kernel_rfl) (fun _ _ _ h => h) hS (.inl ⟨by rfl, ?_⟩) ?_
          rotate_left 1
          · intro w' hS'; go_simp; try with_reducible rfl
          simp only [Act.put, List.setIfInBounds_toArray]
          refine wpAnyM_take (i := 1) (v := ?_) rfl (by kernel_rfl) (by kernel_rfl) (by kernel_rfl) (by kernel_rfl) (by kernel_rfl) (fun _ _ _ h => h) hS (.inl ⟨by rfl, ?_⟩) ?_
          rotate_left 1
          · intro w' hS'; go_simp; try with_reducible rfl
          simp only [Act.put]
          refine wpAnyM_take (i := 2) (v := ?_) rfl (by kernel_rfl) (by kernel_rfl) (by kernel_rfl) (by kernel_rfl) (by kernel_rfl) (fun _ _ _ h => h) hS (.inl ⟨by rfl, ?_⟩) ?_
          rotate_left 1
          · intro w' hS'; go_simp; try with_reducible rfl
          simp only [Act.put]
          refine wpAnyM_take (i := 3) (v := ?_) rfl (by kernel_rfl) (by kernel_rfl) (by kernel_rfl) (by kernel_rfl) (by kernel_rfl) (fun _ _ _ h => h) hS (.inl ⟨by rfl, ?_⟩) ?_
          rotate_left 1
          · intro w' hS'; go_simp; try with_reducible rfl
          simp only [Act.put]
          refine wpAnyM_take (i := 4) (v := ?_) rfl (by kernel_rfl) (by kernel_rfl) (by kernel_rfl) (by kernel_rfl) (by kernel_rfl) (fun _ _ _ h => h) hS (.inl ⟨by rfl, ?_⟩) ?_
          rotate_left 1
          · intro w' hS'; go_simp; try with_reducible rfl
          simp only [Act.put]
          refine wpAnyM_take (i := 5) (v := ?_) rfl (by kernel_rfl) (by kernel_rfl) (by kernel_rfl) (by kernel_rfl) (by kernel_rfl) (fun _ _ _ h => h) hS (.inl ⟨by rfl, ?_⟩) ?_
          rotate_left 1
          · intro w' hS'; go_simp; try with_reducible rfl
          simp only [Act.put]
          refine wpAnyM_take (i := 6) (v := ?_) rfl (by kernel_rfl) (by kernel_rfl) (by kernel_rfl) (by kernel_rfl) (by kernel_rfl) (fun _ _ _ h => h) hS (.inl ⟨by rfl, ?_⟩) ?_
          rotate_left 1
          · intro w' hS'; go_simp; try with_reducible rfl
          simp only [Act.put]
          refine wpAnyM_one (i := 7) (by kernel_rfl) rfl (by rfl) (fun K hK => ?_)
          go_simp
          refine (c2 _).mono ?_
          rintro e w3 ⟨rfl, rfl⟩
          refine hK _ _ (.inr hS) ?_
          try simp only [Act.put, List.setIfInBounds_toArray]
          clear hK K
          refine wpAnyM_one (i := 8) (by kernel_rfl) rfl (by rfl) (fun K hK => ?_)
          go_simp
          replace hS := hS.alloc (by simp <;> omega) (.cells #[.int .i64 (sgV (T[T.size - 1 - k]'hj).toNat)] 2)
          refine hK _ _ (.inr hS) ?_
          clear hK K
          try simp only [Act.put, List.setIfInBounds_toArray]
          refine wpAnyM_one (i := 9) (by kernel_rfl) rfl (by rfl) (fun K hK => ?_)
          refine wp_appI (.tmp 41) (.tmp 48) 24 2 rfl Tryz.underlying24 info_int64 rfl ((ow.drew).alloc _) (tdL_len _ _) ⟨wr.heap.size, 0, none⟩ 1 (sgV (T[T.size - 1 - k]'hj).toNat) rfl (by go_simp) (by omega) (by simp <;> omega) ?_
          intro A' C' w3 hown1 ht1
          rw [← HT.out] at hown1
          replace hS : Below (w2.heap.size + 1) wr w3 := hS.trans (ht1.below (Nat.le_refl _) (by simp <;> omega))
          have dx1 := by_.lo hS (by omega)
          have dc1 := dx1.at_ 1 rfl
          have df1 := dx1.thaw 1
          refine hK _ _ (.inr hS) ?_
          try simp only [Act.put, List.setIfInBounds_toArray]
          clear hK K c2
          refine wpAnyM_take (i := 10) (v := ?_) rfl (by kernel_rfl) (by kernel_rfl) (by kernel_rfl) (by kernel_rfl) (by kernel_rfl) (fun _ _ _ h => h) hS (.inl ⟨by rfl, ?_⟩) ?_
          rotate_left 1
          · intro w' hS'; go_simp; try with_reducible rfl
          simp only [Act.put]
          refine wpAnyM_one (i := 11) (by kernel_rfl) rfl (by rfl) (fun K hK => ?_)
          go_simp
          refine hK _ _ (.inl rfl) ?_
          clear hK K k1 k2
          refine wpAnyM_done (by kernel_rfl) ?_ _
          go_wp2
          go_roundw
          case rel => exact ⟨k + 1, A', C', by omega, by rw [← e2]; go_num, by simpa using dx1.set_ 1 (.slice A' (k + 1) C'), (hown1.setCell (p := ⟨w2.heap.size, 1, none⟩) (.inl (by simp)) _).wide (Nat.le_refl _) (by simp),
            (bl.trans (hS.mono (by omega))).setCell (p := ⟨w2.heap.size, 1, none⟩) (by simp) _⟩
          case measure => (simp [intOf]) <;> omega
        · obtain rfl : k = T.size := by omega
          rw [show (T.size : Int) - 1 - (T.size : Int) = -1 by omega]
          have bxr := bx.below bl
          have blr := hb1.trans (bl.mono hb1.size)
          have c0 := bxr.at_ 0 rfl
          have c1 := bxr.at_ 1 rfl
          have f0 := bxr.thaw 0
          have f1 := bxr.thaw 1
          cases ok with
          | false =>
            have HN := Lib.hid (HR.out.trans (rgT_head rfl))
            clear HR
            go_wp2
            exact bodyPost_ret (v := .tuple #[.agg #[.int .i64 0, .slice none 0 0], .bool false]) (by simp [results, Tryz.results37, go_sem, c0, c1]) rfl
              (rgPost_no HN.out rfl (by repeat (first | exact blr | refine Below.setCell ?_ (by first | omega | (simp <;> omega)) _ | refine Below.alloc ?_ (by first | omega | (simp <;> omega)) _ | refine Below.drew ?_)))
          | true =>
            have HL := Lib.hid (tdL_len T T.size)
            have d0 := by_.at_ 0 rfl
            have d1 := by_.at_ 1 rfl
            have c3 := l02Ok_any w2.heap.size b A C (tdL T T.size) wr ow.rd d0 (by rw [HL.out]; exact d1)
            have hwz := hb1.size
            cases hok : okB b (tdL T T.size)
            · have HN := Lib.hid (HR.out.trans (rgT_bad hok))
              rw [hok] at c3
              clear hok HR
              go_wp2_with (go_at_call 70; refine c3.mono ?_; rintro e w4 ⟨rfl, n, rfl⟩)
              exact bodyPost_ret (v := .tuple #[.agg #[.int .i64 0, .slice none 0 0], .bool false]) (by simp [results, Tryz.results37, go_sem, c0, c1]) rfl
                (rgPost_no HN.out rfl (by repeat (first | exact bel_drewN blr n | refine Below.setCell ?_ (by first | omega | (simp <;> omega)) _ | refine Below.alloc ?_ (by first | omega | (simp <;> omega)) _ | refine Below.drew ?_)))
            · have HN := Lib.hid (HR.out.trans (rgT_yes (by omega) rfl hok))
              rw [hok] at c3
              clear hok HR
              go_wp2_with (go_at_call 70; refine c3.mono ?_; rintro e w4 ⟨rfl, n, rfl⟩)
              exact bodyPost_ret (v := .tuple #[.agg #[.int .i64 b, .slice A T.size C], .bool true]) (by simp [results, Tryz.results37, go_sem, c0, c1]) rfl
                (rgPost_yes HN.out HL.out rfl (lo := w2.heap.size + 1) (hi := wr.heap.size) (((ow.drewN n).setCell (p := ⟨w.heap.size, 0, none⟩) (.inl (by show w.heap.size < _; omega)) _).setCell (p := ⟨w.heap.size, 1, none⟩) (.inl (by show w.heap.size < _; omega)) _) (by omega)
                  (by simp) (by repeat (first | exact bel_drewN blr n | refine Below.setCell ?_ (by first | omega | (simp <;> omega)) _ | refine Below.alloc ?_ (by first | omega | (simp <;> omega)) _ | refine Below.drew ?_)))
  · have HN := Lib.hid (HR.out.trans (rgL_len h2))
    have hne : ((L.length : Int) == 2) = false := by rw [beq_eq_false_iff_ne]; omega
    have hne2 : ¬ (L.length : Int) = 2 := by omega
    clear HR HZ h2
    go_enter Tryz.func37, Tryz.ntmps37
    go_wp2_with fail
    rw [← HV.out]
    refine c1.mono ?_
    rintro e w1 ⟨A, C, rfl, ow, hb⟩
    have bx1 := bx.below hb
    have hb1 := hbV.trans (hb.mono hbV.size)
    have c0 := bx1.at_ 0 rfl
    have c1 := bx1.at_ 1 rfl
    have f0 := bx1.thaw 0
    have f1 := bx1.thaw 1
    clear ow hb HV hbV bx
    go_wp2
    exact bodyPost_ret (v := .tuple #[.agg #[.int .i64 0, .slice none 0 0], .bool false]) (by simp [results, Tryz.results37, go_sem, c0, c1]) rfl
      (rgPost_no HN.out rfl (by repeat (first | exact hb1 | refine Below.setCell ?_ (by first | omega | (simp <;> omega)) _ | refine Below.alloc ?_ (by first | omega | (simp <;> omega)) _ | refine Below.drew ?_)))
end Go.Proofs.YtlahobdopmdfmaaGreatDoor

/- RmM -/
namespace Go.Proofs.YtlahobdopmdfmaaGreatDoor
open Go Go.RowKit

theorem byteAt_drop (s : ByteArray) (a i : Nat) (h : i < s.size - a) : byteAt (s.extract a s.size) i = byteAt s (a + i) := by
  have h1 : i < (s.extract a s.size).size := by simp; omega
  have h2 : a + i < s.size := by omega
  rw [← byteAt_get h1, ← byteAt_get h2]
  simp only [ByteArray.getElem_extract]
theorem splitGo_drop {s : ByteArray} {c : UInt8} {a : Nat} (ha : a ≤ s.size) : ∀ (n i f : Nat), i + n = s.size - a → splitGo (s.extract a s.size) c n i f = splitGo s c n (a + i) (a + f)
  | 0, i, f, h => by
    simp only [splitGo]
    congr 1
    apply WideShapes.bytes_inj
    rw [Lib.extract_to_end, Lib.extract_to_end, Lib.extract_to_end, List.drop_drop]
  | n + 1, i, f, h => by
    have hb := byteAt_drop s a i (by omega)
    by_cases hc : byteAt s (a + i) = c
    · rw [splitGo_hit (hb.trans hc), splitGo_hit hc, splitGo_drop ha n (i + 1) (i + 1) (by omega)]
      congr 1
      apply WideShapes.bytes_inj
      rw [Lib.extract_data, Lib.extract_to_end, Lib.extract_data, List.drop_drop, show a + i - (a + f) = i - f by omega]
    · rw [splitGo_miss (fun e => hc (hb.symm.trans e)), splitGo_miss hc, splitGo_drop ha n (i + 1) f (by omega)]
      rfl
theorem splitL_none {s : ByteArray} {c : UInt8} (h : Lib.indexB s ⟨#[c]⟩ = -1) : splitL s c = [s] := by
  have hx : Lib.index s.data.toList [c] = -1 := h
  rcases Lib.index_spec s.data.toList [c] with ⟨h1, h2⟩ | ⟨i, h1, h2, h3, h4⟩
  · have hn : ∀ j, 0 ≤ j → j < s.size → ¬ byteAt s j = c := fun j _ hj hc => by
      have := h2 j (by have : s.data.toList.length = s.size := by simp
                       omega)
      rw [(occ_byte hj).2 hc] at this
      cases this
    unfold splitL
    rw [splitGo_none s.size 0 0 (by omega) hn]
    congr 1
    apply WideShapes.bytes_inj
    rw [Lib.extract_to_end]; rfl
  · omega
theorem splitL_hit {s : ByteArray} {c : UInt8} {i : Nat} (h : Lib.indexB s ⟨#[c]⟩ = i) : i < s.size ∧ byteAt s i = c ∧ splitL s c = s.extract 0 i :: splitL (s.extract (i + 1) s.size) c := by
  have hx : Lib.index s.data.toList [c] = i := h
  rcases Lib.index_spec s.data.toList [c] with ⟨h1, h2⟩ | ⟨i', h1, h2, h3, h4⟩
  · omega
  · obtain rfl : i' = i := by omega
    have hsz : s.data.toList.length = s.size := by simp
    have hi : i' < s.size := by
      rcases Lib.occAt_room h3 with h | h
      · simp at h; omega
      · cases h
    have hc : byteAt s i' = c := (occ_byte hi).1 h3
    have hn : ∀ j, 0 ≤ j → j < 0 + i' → ¬ byteAt s j = c := fun j _ hj hc => by
      have := h4 j (by omega)
      rw [(occ_byte (by omega)).2 hc] at this
      cases this
    refine ⟨hi, hc, ?_⟩
    have := splitGo_first (s := s) (c := c) i' (s.size - (i' + 1)) 0 0 hn (by rw [Nat.zero_add]; exact hc)
    rw [show i' + 1 + (s.size - (i' + 1)) = s.size by omega, Nat.zero_add] at this
    unfold splitL
    rw [this, splitGo_drop (by omega) _ 0 0 (by simp)]
    simp
theorem splitL_pos (s : ByteArray) (c : UInt8) : 1 ≤ (splitL s c).length := splitGo_pos _ _ _
/-- What cutting at the first k separators gives: all the parts, or so many and a rest that has a separator. -/
theorem splitB_tells (c : UInt8) : ∀ (k : Nat) (s : ByteArray), ((splitL s c).length ≤ k + 1 ∧ Lib.splitB ⟨#[c]⟩ 0 k s = splitL s c) ∨
    (k + 1 < (splitL s c).length ∧ ∃ l r, Lib.splitB ⟨#[c]⟩ 0 k s = l ++ [r] ∧ l.length = k ∧ ∃ j, j < r.size ∧ byteAt r j = c)
  | k, s => by
    rcases Lib.indexB_cases s ⟨#[c]⟩ with h | ⟨i, h, _⟩
    · rw [splitL_none h, Lib.splitB_miss _ _ _ _ h]
      exact .inl ⟨by simp, rfl⟩
    · obtain ⟨hi, hc, e⟩ := splitL_hit h
      have hp := splitL_pos (s.extract (i + 1) s.size) c
      match k with
      | 0 =>
        rw [Lib.splitB_zero, e]
        exact .inr ⟨by simp; omega, [], s, rfl, rfl, i, hi, hc⟩
      | k + 1 =>
        rw [Lib.splitB_hit _ _ _ _ _ h, e]
        rcases splitB_tells c k (s.extract (i + 1) s.size) with ⟨h1, h2⟩ | ⟨h1, l, r, h2, h3, h4⟩
        · exact .inl ⟨by simp; omega, congrArg _ h2⟩
        · exact .inr ⟨by simp; omega, s.extract 0 i :: l, r, congrArg _ h2, by simp [h3], h4⟩

theorem rdR_sp {s : ByteArray} {j : Nat} (hj : j < s.size) (h : byteAt s j = 32) : rdR s = (0, false) := by
  refine rdR_no ?_
  rintro ⟨v, hv⟩
  have hm : (32 : UInt8) ∈ s.data.toList := by
    rw [← h, ← byteAt_get hj]
    exact List.getElem_mem (l := s.data.toList) (by simpa using hj)
  have hd := fun c hc => dd_dig v.natAbs c hc
  rcases dec_list hv with ⟨_, e⟩ | ⟨_, e⟩ <;> rw [e] at hm
  · exact absurd (hd 32 hm) (by unfold isNum; decide)
  · rcases List.mem_cons.1 hm with h | h
    · cases h
    · exact absurd (hd 32 h) (by unfold isNum; decide)

theorem rgR_no {s : ByteArray} (h : (rgR s).2.2 = false) : rgR s = (0, [], false) := by
  unfold rgR at h ⊢
  generalize splitL s 58 = l at h ⊢
  match l, h with
  | [], _ => rfl
  | [_], _ => rfl
  | _ :: _ :: _ :: _, _ => rfl
  | [a, b], h =>
    simp only [rgL, rgT] at h ⊢
    split at h
    · cases h
    · next hx => rw [if_neg hx]

theorem rgR_ok {s : ByteArray} (h : (rgR s).2.2 = true) : okB (rgR s).1 (rgR s).2.1 = true := by
  unfold rgR at h ⊢
  generalize splitL s 58 = l at h ⊢
  match l, h with
  | [], h => cases h
  | [_], h => cases h
  | _ :: _ :: _ :: _, h => cases h
  | [a, b], h =>
    simp only [rgL, rgT] at h ⊢
    split at h
    · next hx => rw [if_pos hx]; exact hx.2.2
    · cases h
theorem rgR_64 (s : ByteArray) : I64 (rgR s).1 ∧ All64 (rgR s).2.1 := by
  cases h : (rgR s).2.2 with
  | false =>
    rw [rgR_no h]
    exact ⟨i64_at (by decide) (by decide), fun d hd => by cases hd⟩
  | true =>
    obtain ⟨b0, b1, _, _, hd, _⟩ := okB_spec (rgR_ok h)
    exact ⟨i64_at (by omega) (by omega), fun d hd2 => by have := hd d hd2; exact i64_at (by omega) (by omega)⟩

/-- The machine of four parts. -/
noncomputable def partM (a b c d : ByteArray) : Mac := ⟨(rgR a).1, (rgR a).2.1, (rgR b).1, (rgR b).2.1, (rgR c).1, (rgR c).2.1, (rdR d).1⟩
noncomputable def rmL : List ByteArray → Mac × Bool
  | [a, b, c, d] => if (rdR d).2 = true ∧ macB (partM a b c d) = true then (partM a b c d, true) else (mac0, false)
  | _ => (mac0, false)
/-- What reading a machine's text gives. -/
noncomputable def rmR (s : ByteArray) : Mac × Bool := rmL (splitL s 32)
theorem rmL_len {l : List ByteArray} (h : ¬ l.length = 4) : rmL l = (mac0, false) := by
  match l, h with
  | [], _ => rfl
  | [_], _ => rfl
  | [_, _], _ => rfl
  | [_, _, _], _ => rfl
  | _ :: _ :: _ :: _ :: _ :: _, _ => rfl
theorem rmL_four {l : List ByteArray} (h : l.length = 4) : ∃ a b c d, l = [a, b, c, d] := by
  match l, h with
  | [a, b, c, d], _ => exact ⟨a, b, c, d, rfl⟩
theorem okB_nil : okB 0 [] = false := by decide
/-- A part that is no text of a register makes no machine. -/
theorem macB_part {a b c d : ByteArray} (h : (rgR a).2.2 = false ∨ (rgR b).2.2 = false ∨ (rgR c).2.2 = false) : macB (partM a b c d) = false := by
  cases hm : macB (partM a b c d) with
  | false => rfl
  | true =>
    obtain ⟨h1, h2, h3, _⟩ := macB_spec hm
    unfold partM at h1 h2 h3
    rcases h with h | h | h
    · rw [rgR_no h, okB_nil] at h1; cases h1
    · rw [rgR_no h, okB_nil] at h2; cases h2
    · rw [rgR_no h, okB_nil] at h3; cases h3
/-- What the program's cut tells. -/
theorem rm_tells (s : ByteArray) : rmR s = rmL (Lib.splitB ⟨#[32]⟩ 0 (min 4 (s.size + 1) - 1) s) := by
  have hl := splitL_len s 32
  rcases splitB_tells 32 (min 4 (s.size + 1) - 1) s with ⟨_, h⟩ | ⟨h1, l, r, h2, h3, j, h4, h5⟩
  · rw [h]; rfl
  · have hk : min 4 (s.size + 1) - 1 = 3 := by omega
    rw [hk] at h1 h2 h3 ⊢
    unfold rmR
    rw [rmL_len (by omega), h2]
    match l, h3 with
    | [a, b, c], _ =>
      show _ = rmL [a, b, c, r]
      rw [rmL, if_neg (by rw [rdR_sp h4 h5]; simp)]
theorem splitB_size (sep : ByteArray) (sv : Nat) : ∀ (k : Nat) (s : ByteArray), ∀ x ∈ Lib.splitB sep sv k s, x.size ≤ s.size
  | 0, s, x, h => by rw [Lib.splitB_zero, List.mem_singleton] at h; subst h; exact Nat.le_refl _
  | k + 1, s, x, h => by
    unfold Lib.splitB at h
    split at h
    · rw [List.mem_singleton] at h; subst h; exact Nat.le_refl _
    · rcases List.mem_cons.1 h with rfl | h
      · (simp) <;> omega
      · exact Nat.le_trans (splitB_size sep sv k _ x h) (by (simp) <;> omega)
end Go.Proofs.YtlahobdopmdfmaaGreatDoor

/- RmS -/
namespace Go.Proofs.YtlahobdopmdfmaaGreatDoor
open Go.RowKit

/-- A machine of its own, and a truth value. -/
def MacB (R : Mac × Bool) (w : World) (e : Ending) (w' : World) : Prop := ∃ (A1 : Option Addr) (C1 : Nat) (A2 : Option Addr) (C2 : Nat) (A3 : Option Addr) (C3 : Nat),
  e = .returned (.tuple #[.agg #[.int .i64 R.1.b1, .slice A1 R.1.z1.length C1, .int .i64 R.1.b2, .slice A2 R.1.z2.length C2, .int .i64 R.1.b3, .slice A3 R.1.z3.length C3, .int .i64 R.1.p], .bool R.2]) ∧ Own3 2 w' w.heap.size w'.heap.size (.slice A1 R.1.z1.length C1) R.1.z1 (.slice A2 R.1.z2.length C2) R.1.z2 (.slice A3 R.1.z3.length C3) R.1.z3 ∧ Below w.heap.size w w'
theorem macB_err {R : Mac × Bool} {w w' : World} {e : Ending} (h : R = (mac0, false)) (he : e = .returned (.tuple #[.agg #[.int .i64 0, .slice none 0 0, .int .i64 0, .slice none 0 0, .int .i64 0, .slice none 0 0, .int .i64 0], .bool false])) (hb : Below w.heap.size w w') : MacB R w e w' := by
  subst h
  exact ⟨none, 0, none, 0, none, 0, he, own3_nil _ _ _ _ hb.size, hb⟩
theorem macB_ok {R : Mac × Bool} {m : Mac} {w w' : World} {A1 : Option Addr} {C1 : Nat} {A2 : Option Addr} {C2 : Nat} {A3 : Option Addr} {C3 : Nat} {lo hi : Nat} {e : Ending} (h : R = (m, true)) (he : e = .returned (.tuple #[.agg #[.int .i64 m.b1, .slice A1 m.z1.length C1, .int .i64 m.b2, .slice A2 m.z2.length C2, .int .i64 m.b3, .slice A3 m.z3.length C3, .int .i64 m.p], .bool true]))
    (ho : Own3 2 w' lo hi (.slice A1 m.z1.length C1) m.z1 (.slice A2 m.z2.length C2) m.z2 (.slice A3 m.z3.length C3) m.z3) (hl : w.heap.size ≤ lo) (hh : hi ≤ w'.heap.size) (hb : Below w.heap.size w w') : MacB R w e w' := by
  subst h
  exact ⟨A1, C1, A2, C2, A3, C3, he, ho.wide hl hh, hb⟩
theorem specReadReg_at (s : ByteArray) (w : World) (hs : s.size ≤ 1048576) : Calls Tryz.prog 37 #[.string s] w fun e w' => ∃ A C,
    e = .returned (.tuple #[.agg #[.int .i64 (rgR s).1, .slice A (rgR s).2.1.length C], .bool (rgR s).2.2]) ∧ Own 2 w' w.heap.size w'.heap.size (.slice A (rgR s).2.1.length C) (rgR s).2.1 ∧ Below w.heap.size w w' := specReadRegister s w hs
theorem l01Number_at (s : ByteArray) (w : World) (hs : s.size ≤ 1048576) : Calls Tryz.prog 38 #[.string s] w fun e w' =>
    e = .returned (.tuple #[.int .i64 (rdR s).1, .bool (rdR s).2]) ∧ Below w.heap.size w w' := l01Number_any s w hs

set_option maxRecDepth 100000 in
set_option maxHeartbeats 8000000 in
theorem specReadMachine (s : ByteArray) (w : World) (hs : s.size ≤ 1048576) :
    Calls Tryz.prog 16 #[.string s] w (MacB (rmR s) w) := by
  have R := Tryz.results16
  obtain ⟨g, hg⟩ : ∃ g, g = w.heap.size := ⟨_, rfl⟩
  obtain ⟨u, hu⟩ : ∃ u, u = w.alloc (.cells #[.int .i64 0, .slice none 0 0, .int .i64 0, .slice none 0 0, .int .i64 0, .slice none 0 0, .int .i64 0] 28) := ⟨_, rfl⟩
  have hbel : Below w.heap.size w u := by rw [hu]; exact (by repeat (first | exact Below.refl _ _ | refine Below.setCell ?_ (by first | omega | (simp <;> omega)) _ | refine Below.alloc ?_ (by first | omega | (simp <;> omega)) _ | refine Below.drew ?_))
  have br : Bx u g 28 #[.int .i64 0, .slice none 0 0, .int .i64 0, .slice none 0 0, .int .i64 0, .slice none 0 0, .int .i64 0] := by rw [hu, hg]; exact Bx.new _ _ _
  have hgu : g < u.heap.size := br.lt
  have H0 := l01Split_any s 32 u hs
  rw [show ((32 : UInt8).toNat : Int) = 32 from rfl] at H0
  have HR := Lib.hid (show rmR s = rmL (splitL s 32) from rfl)
  have HZ := Lib.hid (show ∀ x ∈ splitL s 32, x.size ≤ s.size from splitGo_size _ _ _)
  have hL := splitL_len s 32
  obtain ⟨L, eL⟩ : ∃ L, L = splitL s 32 := ⟨_, rfl⟩
  rw [← eL] at H0 HR HZ hL
  clear eL
  have HG := Lib.hid hg
  have HU := Lib.hid hu
  clear hu
  by_cases h4 : L.length = 4
  rotate_left
  · have HN := Lib.hid (HR.out.trans (rmL_len h4))
    have h4' : ¬ ((L.length : Int) = 4) := by omega
    clear HR HZ h4
    go_enter Tryz.func16, Tryz.ntmps16
    go_wp2_with fail
    rw [← HU.out, ← hg]
    clear hg
    refine H0.mono ?_
    rintro e w1 ⟨A, C, rfl, ow, hb⟩
    replace br := br.below hb
    replace hbel := hbel.trans (hb.mono hbel.size)
    clear hb
    clear ow H0
    have r0 := br.at_ 0 rfl
    have r1 := br.at_ 1 rfl
    have r2 := br.at_ 2 rfl
    have r3 := br.at_ 3 rfl
    have r4 := br.at_ 4 rfl
    have r5 := br.at_ 5 rfl
    have r6 := br.at_ 6 rfl
    have f0 := br.thaw 0
    have f1 := br.thaw 1
    have f2 := br.thaw 2
    have f3 := br.thaw 3
    have f4 := br.thaw 4
    have f5 := br.thaw 5
    have f6 := br.thaw 6
    have hl := br.lt
    go_wp2
    exact bodyPost_ret (v := .tuple #[.agg #[.int .i64 0, .slice none 0 0, .int .i64 0, .slice none 0 0, .int .i64 0, .slice none 0 0, .int .i64 0], .bool false]) (by simp [results, go_sem, r0, r1, r2, r3, r4, r5, r6]) rfl (macB_err HN.out rfl (by have := HG.out; exact (by repeat (first | with_reducible exact hbel | with_reducible refine Below.setCell ?_ (by first | omega | (simp <;> omega)) _ | with_reducible refine Below.alloc ?_ (by first | omega | (simp <;> omega)) _ | with_reducible refine Below.drew ?_))))
  obtain ⟨p1, p2, p3, p4, rfl⟩ := rmL_four h4
  have hz1 := HZ.out p1 (by simp)
  have hz2 := HZ.out p2 (by simp)
  have hz3 := HZ.out p3 (by simp)
  have hz4 := HZ.out p4 (by simp)
  have HN1 := Lib.hid (fun v => specReadReg_at p1 v (by omega))
  have HN2 := Lib.hid (fun v => specReadReg_at p2 v (by omega))
  have HN3 := Lib.hid (fun v => specReadReg_at p3 v (by omega))
  have HN4 := Lib.hid (fun v => l01Number_at p4 v (by omega))
  have HP := Lib.hid (show (rgR p1).2.2 = false ∨ (rgR p2).2.2 = false ∨ (rgR p3).2.2 = false → macB (partM p1 p2 p3 p4) = false from macB_part)
  have HM := Lib.hid (show partM p1 p2 p3 p4 = ⟨(rgR p1).1, (rgR p1).2.1, (rgR p2).1, (rgR p2).2.1, (rgR p3).1, (rgR p3).2.1, (rdR p4).1⟩ from rfl)
  replace HR := Lib.hid (show rmR s = if (rdR p4).2 = true ∧ macB (partM p1 p2 p3 p4) = true then (partM p1 p2 p3 p4, true) else (mac0, false) from HR.out)
  obtain ⟨B1, Z1, q1, e1⟩ : ∃ B Z q, rgR p1 = (B, Z, q) := ⟨_, _, _, rfl⟩
  obtain ⟨B2, Z2, q2, e2⟩ : ∃ B Z q, rgR p2 = (B, Z, q) := ⟨_, _, _, rfl⟩
  obtain ⟨B3, Z3, q3, e3⟩ : ∃ B Z q, rgR p3 = (B, Z, q) := ⟨_, _, _, rfl⟩
  obtain ⟨P, q4, e4⟩ : ∃ B q, rdR p4 = (B, q) := ⟨_, _, rfl⟩
  obtain ⟨m, hm⟩ : ∃ m, m = partM p1 p2 p3 p4 := ⟨_, rfl⟩
  rw [← hm] at HP HM HR
  rw [e1] at HN1 HP HM
  rw [e2] at HN2 HP HM
  rw [e3] at HN3 HP HM
  rw [e4] at HN4 HR HM
  clear e1 e2 e3 e4 hm HZ hL h4 hz1 hz2 hz3 hz4
  go_enter Tryz.func16, Tryz.ntmps16
  go_wp2_with fail
  rw [← HU.out, ← hg]
  clear hg
  refine H0.mono ?_
  rintro e w1 ⟨A, C, rfl, ow, hb⟩
  obtain ⟨gs, rfl, hg1, hg2, hg3⟩ := ow.head (by simp)
  have t0 : w1.cell? ⟨gs, 0, none⟩ = some (.string p1) := ow.getT (k := 0) (by simp)
  have t1 : w1.cell? ⟨gs, 1, none⟩ = some (.string p2) := ow.getT (k := 1) (by simp)
  have t2 : w1.cell? ⟨gs, 2, none⟩ = some (.string p3) := ow.getT (k := 2) (by simp)
  have t3 : w1.cell? ⟨gs, 3, none⟩ = some (.string p4) := ow.getT (k := 3) (by simp)
  replace br := br.below hb
  have hy0 := hb.size
  replace hbel := hbel.trans (hb.mono hbel.size)
  clear hb
  clear ow H0 hg1 hg2 hg3
  go_wp2_with fail
  refine (HN1.out w1).mono ?_
  rintro e x1 ⟨A1, C1, rfl, own1, hb⟩
  replace t1 := kept hb t1
  replace t2 := kept hb t2
  replace t3 := kept hb t3
  replace br := br.below hb
  have hz1 := hb.size
  replace hbel := hbel.trans (hb.mono hbel.size)
  clear hb
  clear t0
  go_upto_region 5 with fail
  obtain ⟨g1, hg1⟩ : ∃ g, g = x1.heap.size := ⟨_, rfl⟩
  obtain ⟨V1, hV⟩ : ∃ V, V = x1.alloc (.cells #[.int .i64 B1, .slice A1 Z1.length C1] 26) := ⟨_, rfl⟩
  try rw [← hg1, ← hV]
  have bx1 : Bx V1 g1 26 #[.int .i64 B1, .slice A1 Z1.length C1] := by rw [hV, hg1]; exact Bx.new _ _ _
  have hb : Below x1.heap.size x1 V1 := by rw [hV]; exact (Below.refl _ _).alloc (Nat.le_refl _) _
  have hx1 : g1 < V1.heap.size := bx1.lt
  replace t1 := kept hb t1
  replace t2 := kept hb t2
  replace t3 := kept hb t3
  replace br := br.below hb
  replace own1 := own1.below hb
  have hy1 := hb.size
  replace hbel := hbel.trans (hb.mono hbel.size)
  clear hb
  clear hV hg1
  go_wp2_with fail
  refine (HN2.out V1).mono ?_
  rintro e x2 ⟨A2, C2, rfl, own2, hb⟩
  replace t2 := kept hb t2
  replace t3 := kept hb t3
  replace br := br.below hb
  replace own1 := own1.below hb
  replace bx1 := bx1.below hb
  have hz2 := hb.size
  replace hbel := hbel.trans (hb.mono hbel.size)
  clear hb
  clear t1
  go_upto_region 6 with fail
  obtain ⟨g2, hg2⟩ : ∃ g, g = x2.heap.size := ⟨_, rfl⟩
  obtain ⟨V2, hV⟩ : ∃ V, V = x2.alloc (.cells #[.int .i64 B2, .slice A2 Z2.length C2] 26) := ⟨_, rfl⟩
  try rw [← hg2, ← hV]
  have bx2 : Bx V2 g2 26 #[.int .i64 B2, .slice A2 Z2.length C2] := by rw [hV, hg2]; exact Bx.new _ _ _
  have hb : Below x2.heap.size x2 V2 := by rw [hV]; exact (Below.refl _ _).alloc (Nat.le_refl _) _
  have hx2 : g2 < V2.heap.size := bx2.lt
  replace t2 := kept hb t2
  replace t3 := kept hb t3
  replace br := br.below hb
  replace own1 := own1.below hb
  replace own2 := own2.below hb
  replace bx1 := bx1.below hb
  have hy2 := hb.size
  replace hbel := hbel.trans (hb.mono hbel.size)
  clear hb
  clear hV hg2
  go_wp2_with fail
  refine (HN3.out V2).mono ?_
  rintro e x3 ⟨A3, C3, rfl, own3, hb⟩
  replace t3 := kept hb t3
  replace br := br.below hb
  replace own1 := own1.below hb
  replace own2 := own2.below hb
  replace bx1 := bx1.below hb
  replace bx2 := bx2.below hb
  have hz3 := hb.size
  replace hbel := hbel.trans (hb.mono hbel.size)
  clear hb
  clear t2
  go_upto_region 7 with fail
  obtain ⟨g3, hg3⟩ : ∃ g, g = x3.heap.size := ⟨_, rfl⟩
  obtain ⟨V3, hV⟩ : ∃ V, V = x3.alloc (.cells #[.int .i64 B3, .slice A3 Z3.length C3] 26) := ⟨_, rfl⟩
  try rw [← hg3, ← hV]
  have bx3 : Bx V3 g3 26 #[.int .i64 B3, .slice A3 Z3.length C3] := by rw [hV, hg3]; exact Bx.new _ _ _
  have hb : Below x3.heap.size x3 V3 := by rw [hV]; exact (Below.refl _ _).alloc (Nat.le_refl _) _
  have hx3 : g3 < V3.heap.size := bx3.lt
  replace t3 := kept hb t3
  replace br := br.below hb
  replace own1 := own1.below hb
  replace own2 := own2.below hb
  replace own3 := own3.below hb
  replace bx1 := bx1.below hb
  replace bx2 := bx2.below hb
  have hy3 := hb.size
  replace hbel := hbel.trans (hb.mono hbel.size)
  clear hb
  clear hV hg3
  go_wp2_with fail
  refine (HN4.out V3).mono ?_
  rintro e x4 ⟨rfl, hb⟩
  replace br := br.below hb
  replace own1 := own1.below hb
  replace own2 := own2.below hb
  replace own3 := own3.below hb
  replace bx1 := bx1.below hb
  replace bx2 := bx2.below hb
  replace bx3 := bx3.below hb
  have hz4 := hb.size
  replace hbel := hbel.trans (hb.mono hbel.size)
  clear hb
  clear t3
  have HO : Hid (Own3 2 x4 w1.heap.size x3.heap.size (.slice A1 Z1.length C1) Z1 (.slice A2 Z2.length C2) Z2 (.slice A3 Z3.length C3) Z3) := Lib.hid ⟨_, _, _, _, _, _, own1, own2, own3, by omega⟩
  have HS := Lib.hid (show w.heap.size ≤ w1.heap.size ∧ x3.heap.size ≤ x4.heap.size ∧ g < w1.heap.size by have := HG.out; omega)
  have d0 := bx1.at_ 0 rfl
  have d1 := bx1.at_ 1 rfl
  have d2 := bx2.at_ 0 rfl
  have d3 := bx2.at_ 1 rfl
  have d4 := bx3.at_ 0 rfl
  have d5 := bx3.at_ 1 rfl
  clear own1 own2 own3 bx1 bx2 bx3 hz1 hz2 hz3 hy0 hy1 hy2 hy3 hx1 hx2 hx3 HN1 HN2 HN3 HN4
  go_upto_region 9 with fail
  obtain ⟨k, hk⟩ : ∃ g, g = x4.heap.size := ⟨_, rfl⟩
  obtain ⟨V, hV⟩ : ∃ V, V = x4.alloc (.cells #[.int .i64 B1, .slice A1 Z1.length C1, .int .i64 B2, .slice A2 Z2.length C2, .int .i64 B3, .slice A3 Z3.length C3, .int .i64 P] 28) := ⟨_, rfl⟩
  try rw [← hk, ← hV]
  have bm : Bx V k 28 #[.int .i64 B1, .slice A1 Z1.length C1, .int .i64 B2, .slice A2 Z2.length C2, .int .i64 B3, .slice A3 Z3.length C3, .int .i64 P] := by rw [hV, hk]; exact Bx.new _ _ _
  have hb : Below x4.heap.size x4 V := by rw [hV]; exact (Below.refl _ _).alloc (Nat.le_refl _) _
  replace br := br.below hb
  replace hbel := hbel.trans (hb.mono hbel.size)
  replace HS := Lib.hid (show w.heap.size ≤ w1.heap.size ∧ x3.heap.size ≤ V.heap.size ∧ g < w1.heap.size by have := HS.out; have := hb.size; omega)
  have HO2 : Hid (Own3 2 V w1.heap.size x3.heap.size (.slice A1 m.z1.length C1) m.z1 (.slice A2 m.z2.length C2) m.z2 (.slice A3 m.z3.length C3) m.z3) := Lib.hid (by rw [HM.out]; exact HO.out.below hb)
  have bm2 : Bx V k 28 #[.int .i64 m.b1, .slice A1 m.z1.length C1, .int .i64 m.b2, .slice A2 m.z2.length C2, .int .i64 m.b3, .slice A3 m.z3.length C3, .int .i64 m.p] := by rw [HM.out]; exact bm
  have HV := Lib.hid (l10Ok_any k m A1 C1 A2 C2 A3 C3 V HO2.out.rd bm2)
  clear hb hV hk bm HO d0 d1 d2 d3 d4 d5
  have n0 := HM.out
  obtain ⟨rfl, rfl, rfl, rfl, rfl, rfl, rfl⟩ : m.b1 = B1 ∧ m.z1 = Z1 ∧ m.b2 = B2 ∧ m.z2 = Z2 ∧ m.b3 = B3 ∧ m.z3 = Z3 ∧ m.p = P := by rw [n0]; exact ⟨rfl, rfl, rfl, rfl, rfl, rfl, rfl⟩
  clear n0 HM
  by_cases hq : q1 = true ∧ q2 = true ∧ q3 = true ∧ q4 = true
  · obtain ⟨rfl, rfl, rfl, rfl⟩ := hq
    cases hv : macB m with
    | false =>
      have HX := Lib.hid (show rmR s = (mac0, false) by rw [HR.out, hv]; simp)
      rw [hv] at HV
      clear hv HR HP
      go_wp2_with fail
      refine HV.out.mono ?_
      rintro e w4 ⟨rfl, hb⟩
      replace br := br.below hb
      replace hbel := hbel.trans (hb.mono hbel.size)
      clear hb bm2
      have r0 := br.at_ 0 rfl
      have r1 := br.at_ 1 rfl
      have r2 := br.at_ 2 rfl
      have r3 := br.at_ 3 rfl
      have r4 := br.at_ 4 rfl
      have r5 := br.at_ 5 rfl
      have r6 := br.at_ 6 rfl
      have f0 := br.thaw 0
      have f1 := br.thaw 1
      have f2 := br.thaw 2
      have f3 := br.thaw 3
      have f4 := br.thaw 4
      have f5 := br.thaw 5
      have f6 := br.thaw 6
      have hl := br.lt
      go_wp2
      exact bodyPost_ret (v := .tuple #[.agg #[.int .i64 0, .slice none 0 0, .int .i64 0, .slice none 0 0, .int .i64 0, .slice none 0 0, .int .i64 0], .bool false]) (by simp [results, go_sem, r0, r1, r2, r3, r4, r5, r6]) rfl (macB_err HX.out rfl (by have := HG.out; exact (by repeat (first | with_reducible exact hbel | with_reducible refine Below.setCell ?_ (by first | omega | (simp <;> omega)) _ | with_reducible refine Below.alloc ?_ (by first | omega | (simp <;> omega)) _ | with_reducible refine Below.drew ?_))))
    | true =>
      have HX := Lib.hid (show rmR s = (m, true) by rw [HR.out, hv]; simp)
      rw [hv] at HV
      clear hv HR HP
      go_wp2_with fail
      refine HV.out.mono ?_
      rintro e w4 ⟨rfl, hb⟩
      replace br := br.below hb
      replace bm2 := bm2.below hb
      replace hbel := hbel.trans (hb.mono hbel.size)
      have HO3 := Lib.hid (HO2.out.below hb)
      have HZ := Lib.hid hb.size
      clear hb
      have c0 := bm2.at_ 0 rfl
      have c1 := bm2.at_ 1 rfl
      have c2 := bm2.at_ 2 rfl
      have c3 := bm2.at_ 3 rfl
      have c4 := bm2.at_ 4 rfl
      have c5 := bm2.at_ 5 rfl
      have c6 := bm2.at_ 6 rfl
      have j0 := br.at_ 0 rfl
      have j1 := br.at_ 1 rfl
      have j2 := br.at_ 2 rfl
      have j3 := br.at_ 3 rfl
      have j4 := br.at_ 4 rfl
      have j5 := br.at_ 5 rfl
      have j6 := br.at_ 6 rfl
      have f0 := br.thaw 0
      have f1 := br.thaw 1
      have f2 := br.thaw 2
      have f3 := br.thaw 3
      have f4 := br.thaw 4
      have f5 := br.thaw 5
      have f6 := br.thaw 6
      have hl := br.lt
      have bz : Bx (((((((w4.setCell ⟨g, 0, none⟩ (.int .i64 m.b1)).setCell ⟨g, 1, none⟩ (.slice A1 m.z1.length C1)).setCell ⟨g, 2, none⟩ (.int .i64 m.b2)).setCell ⟨g, 3, none⟩ (.slice A2 m.z2.length C2)).setCell ⟨g, 4, none⟩ (.int .i64 m.b3)).setCell ⟨g, 5, none⟩ (.slice A3 m.z3.length C3)).setCell ⟨g, 6, none⟩ (.int .i64 m.p)) (g) 28 #[.int .i64 m.b1, .slice A1 m.z1.length C1, .int .i64 m.b2, .slice A2 m.z2.length C2, .int .i64 m.b3, .slice A3 m.z3.length C3, .int .i64 m.p] := bx_put7 br
      have r0 := bz.at_ 0 rfl
      have r1 := bz.at_ 1 rfl
      have r2 := bz.at_ 2 rfl
      have r3 := bz.at_ 3 rfl
      have r4 := bz.at_ 4 rfl
      have r5 := bz.at_ 5 rfl
      have r6 := bz.at_ 6 rfl
      clear bz
      go_wp2
      exact bodyPost_ret (v := .tuple #[.agg #[.int .i64 m.b1, .slice A1 m.z1.length C1, .int .i64 m.b2, .slice A2 m.z2.length C2, .int .i64 m.b3, .slice A3 m.z3.length C3, .int .i64 m.p], .bool true]) (by simp [results, go_sem, r0, r1, r2, r3, r4, r5, r6]) rfl
        (macB_ok HX.out rfl (((((((HO3.out.setCell (p := ⟨g, 0, none⟩) (.inl HS.out.2.2) _).setCell (p := ⟨g, 1, none⟩) (.inl HS.out.2.2) _).setCell (p := ⟨g, 2, none⟩) (.inl HS.out.2.2) _).setCell (p := ⟨g, 3, none⟩) (.inl HS.out.2.2) _).setCell (p := ⟨g, 4, none⟩) (.inl HS.out.2.2) _).setCell (p := ⟨g, 5, none⟩) (.inl HS.out.2.2) _).setCell (p := ⟨g, 6, none⟩) (.inl HS.out.2.2) _) HS.out.1 (by have := HS.out; have := HZ.out; simp; omega) (by have := HG.out; exact (by repeat (first | with_reducible exact hbel | with_reducible refine Below.setCell ?_ (by first | omega | (simp <;> omega)) _ | with_reducible refine Below.alloc ?_ (by first | omega | (simp <;> omega)) _ | with_reducible refine Below.drew ?_))))
  · have HX := Lib.hid (show rmR s = (mac0, false) by
      rw [HR.out]
      refine if_neg fun h => hq ?_
      have h2 := HP.out
      rw [h.2] at h2
      cases q1 <;> cases q2 <;> cases q3 <;> simp_all)
    clear HR HP HV bm2 HO2
    have r0 := br.at_ 0 rfl
    have r1 := br.at_ 1 rfl
    have r2 := br.at_ 2 rfl
    have r3 := br.at_ 3 rfl
    have r4 := br.at_ 4 rfl
    have r5 := br.at_ 5 rfl
    have r6 := br.at_ 6 rfl
    have f0 := br.thaw 0
    have f1 := br.thaw 1
    have f2 := br.thaw 2
    have f3 := br.thaw 3
    have f4 := br.thaw 4
    have f5 := br.thaw 5
    have f6 := br.thaw 6
    have hl := br.lt
    cases q1
    rotate_left
    cases q2
    rotate_left
    cases q3
    rotate_left
    cases q4
    rotate_left
    · exact absurd ⟨rfl, rfl, rfl, rfl⟩ hq
    all_goals
      clear hq
      go_wp2
      exact bodyPost_ret (v := .tuple #[.agg #[.int .i64 0, .slice none 0 0, .int .i64 0, .slice none 0 0, .int .i64 0, .slice none 0 0, .int .i64 0], .bool false]) (by simp [results, go_sem, r0, r1, r2, r3, r4, r5, r6]) rfl (macB_err HX.out rfl (by have := HG.out; exact (by repeat (first | with_reducible exact hbel | with_reducible refine Below.setCell ?_ (by first | omega | (simp <;> omega)) _ | with_reducible refine Below.alloc ?_ (by first | omega | (simp <;> omega)) _ | with_reducible refine Below.drew ?_))))
end Go.Proofs.YtlahobdopmdfmaaGreatDoor

/- RmI -/
namespace Go.Proofs.YtlahobdopmdfmaaGreatDoor
open Go.RowKit

/-- The library's variables that reading a machine meets. -/
structure RmDoor (w : World) : Prop where
  rg : RgDoor w
  bell : BellD w
theorem RmDoor.below {w w' : World} (h : RmDoor w) (hb : Below w.heap.size w w') : RmDoor w' := ⟨rgDoor_below h.rg hb, h.bell.below hb⟩
theorem implReadReg_at (s : ByteArray) (w : World) (hs : s.size ≤ 1048576) (hD : RgDoor w) : Calls Tryz.prog 27 #[.string s] w fun e w' => ∃ A C,
    e = .returned (.tuple #[.agg #[.int .i64 (rgR s).1, .slice A (rgR s).2.1.length C], .bool (rgR s).2.2]) ∧ Own 2 w' w.heap.size w'.heap.size (.slice A (rgR s).2.1.length C) (rgR s).2.1 ∧ Below w.heap.size w w' := implReadRegister s w hs hD
theorem cellsOf_get {done : List ByteArray} {N i : Nat} {x : ByteArray} (h : done[i]? = some x) : (Lib.cellsOf done N)[i]? = some (.string x) := by
  have hi : i < done.length := (List.getElem?_eq_some_iff.1 h).1
  unfold Lib.cellsOf
  rw [List.getElem?_toArray, List.getElem?_append_left (by simpa using hi), List.getElem?_map, h]
  rfl
theorem split_at {V : World} {done : List ByteArray} {N i : Nat} {x : ByteArray} {t : TypeId} (h : done[i]? = some x) : (V.alloc (.cells (Lib.cellsOf done N) t)).cell? ⟨V.heap.size, i, none⟩ = some (.string x) :=
  (Bx.new V (Lib.cellsOf done N) t).at_ i (cellsOf_get h)

set_option maxRecDepth 100000 in
set_option maxHeartbeats 8000000 in
theorem implReadMachine (s : ByteArray) (w : World) (hs : s.size ≤ 1048576) (hD : RmDoor w) :
    Calls Tryz.prog 10 #[.string s] w (MacB (rmR s) w) := by
  have R := Tryz.results10
  obtain ⟨g, hg⟩ : ∃ g, g = w.heap.size := ⟨_, rfl⟩
  obtain ⟨u, hu⟩ : ∃ u, u = w.alloc (.cells #[.int .i64 0, .slice none 0 0, .int .i64 0, .slice none 0 0, .int .i64 0, .slice none 0 0, .int .i64 0] 28) := ⟨_, rfl⟩
  have hbel : Below w.heap.size w u := by rw [hu]; exact (by repeat (first | exact Below.refl _ _ | refine Below.setCell ?_ (by first | omega | (simp <;> omega)) _ | refine Below.alloc ?_ (by first | omega | (simp <;> omega)) _ | refine Below.drew ?_))
  have br : Bx u g 28 #[.int .i64 0, .slice none 0 0, .int .i64 0, .slice none 0 0, .int .i64 0, .slice none 0 0, .int .i64 0] := by rw [hu, hg]; exact Bx.new _ _ _
  have hgu : g < u.heap.size := br.lt
  obtain ⟨mx, hmx⟩ := (rgDoor_below hD.rg hbel).max
  have H0 := Tryz.strings_SplitN s ⟨#[32]⟩ 4 mx u (by omega) hmx (by decide) (by decide) (by decide)
  have HR := Lib.hid (rm_tells s)
  have HZ := Lib.hid (splitB_size ⟨#[32]⟩ 0 (min 4 (s.size + 1) - 1) s)
  have hL := Lib.splitB_length_le ⟨#[32]⟩ 0 (min 4 (s.size + 1) - 1) s
  obtain ⟨L, eL⟩ : ∃ L, L = Lib.splitB ⟨#[32]⟩ 0 (min 4 (s.size + 1) - 1) s := ⟨_, rfl⟩
  obtain ⟨N, eN⟩ : ∃ N, N = min 4 (s.size + 1) := ⟨_, rfl⟩
  rw [← eL] at H0 HR HZ hL
  rw [← eN] at H0
  have hN : N ≤ 4 ∧ L.length ≤ 4 := by omega
  clear eL hmx eN hL
  have HG := Lib.hid hg
  have HU := Lib.hid hu
  clear hu
  obtain ⟨q, hq⟩ : ∃ q, q = u.heap.size := ⟨_, rfl⟩
  obtain ⟨u1, hu1⟩ : ∃ u1, u1 = u.alloc (.cells (Lib.cellsOf L N) 9) := ⟨_, rfl⟩
  have hb : Below u.heap.size u u1 := by rw [hu1]; exact (Below.refl _ _).alloc (Nat.le_refl _) _
  have hat : ∀ i x, L[i]? = some x → u1.cell? ⟨q, i, none⟩ = some (.string x) := fun i x h => by rw [hu1, hq]; exact split_at h
  rw [← hu1, ← hq] at H0
  replace br := br.below hb
  have hy0 := hb.size
  replace hbel := hbel.trans (hb.mono hbel.size)
  clear hb
  clear hu1 hq
  by_cases h4 : L.length = 4
  rotate_left
  · have HN := Lib.hid (HR.out.trans (rmL_len h4))
    have h4' : ¬ ((L.length : Int) = 4) := by omega
    clear HR HZ h4 hat
    go_enter Tryz.func10, Tryz.ntmps10
    go_wp2_with fail
    rw [← HU.out, ← hg]
    clear hg
    refine H0.mono ?_
    rintro e w1 ⟨rfl, rfl⟩
    clear H0
    have r0 := br.at_ 0 rfl
    have r1 := br.at_ 1 rfl
    have r2 := br.at_ 2 rfl
    have r3 := br.at_ 3 rfl
    have r4 := br.at_ 4 rfl
    have r5 := br.at_ 5 rfl
    have r6 := br.at_ 6 rfl
    have f0 := br.thaw 0
    have f1 := br.thaw 1
    have f2 := br.thaw 2
    have f3 := br.thaw 3
    have f4 := br.thaw 4
    have f5 := br.thaw 5
    have f6 := br.thaw 6
    have hl := br.lt
    go_wp2
    exact bodyPost_ret (v := .tuple #[.agg #[.int .i64 0, .slice none 0 0, .int .i64 0, .slice none 0 0, .int .i64 0, .slice none 0 0, .int .i64 0], .bool false]) (by simp [results, go_sem, r0, r1, r2, r3, r4, r5, r6]) rfl (macB_err HN.out rfl (by have := HG.out; exact (by repeat (first | with_reducible exact hbel | with_reducible refine Below.setCell ?_ (by first | omega | (simp <;> omega)) _ | with_reducible refine Below.alloc ?_ (by first | omega | (simp <;> omega)) _ | with_reducible refine Below.drew ?_))))
  obtain ⟨p1, p2, p3, p4, rfl⟩ := rmL_four h4
  have hz1 := HZ.out p1 (by simp)
  have hz2 := HZ.out p2 (by simp)
  have hz3 := HZ.out p3 (by simp)
  have hz4 := HZ.out p4 (by simp)
  have t0 := hat 0 p1 rfl
  have t1 := hat 1 p2 rfl
  have t2 := hat 2 p3 rfl
  have t3 := hat 3 p4 rfl
  have HN1 := Lib.hid (fun v (hb : Below w.heap.size w v) => implReadReg_at p1 v (by omega) (rgDoor_below hD.rg hb))
  have HN2 := Lib.hid (fun v (hb : Below w.heap.size w v) => implReadReg_at p2 v (by omega) (rgDoor_below hD.rg hb))
  have HN3 := Lib.hid (fun v (hb : Below w.heap.size w v) => implReadReg_at p3 v (by omega) (rgDoor_below hD.rg hb))
  have HN4 := Lib.hid (fun v (hb : Below w.heap.size w v) => implReadDecimal p4 v (by omega) (rgDoor_below hD.rg hb).rd)
  have HM := Lib.hid (show partM p1 p2 p3 p4 = ⟨(rgR p1).1, (rgR p1).2.1, (rgR p2).1, (rgR p2).2.1, (rgR p3).1, (rgR p3).2.1, (rdR p4).1⟩ from rfl)
  replace HR := Lib.hid (show rmR s = if (rdR p4).2 = true ∧ macB (partM p1 p2 p3 p4) = true then (partM p1 p2 p3 p4, true) else (mac0, false) from HR.out)
  have HW := Lib.hid (show (All64 (rgR p1).2.1 ∧ All64 (rgR p2).2.1 ∧ All64 (rgR p3).2.1) ∧ (I64 (rgR p1).1 ∧ I64 (rgR p2).1 ∧ I64 (rgR p3).1 ∧ I64 (rdR p4).1) from
    ⟨⟨(rgR_64 p1).2, (rgR_64 p2).2, (rgR_64 p3).2⟩, (rgR_64 p1).1, (rgR_64 p2).1, (rgR_64 p3).1, rdR_64 p4⟩)
  obtain ⟨B1, Z1, q1, e1⟩ : ∃ B Z q, rgR p1 = (B, Z, q) := ⟨_, _, _, rfl⟩
  obtain ⟨B2, Z2, q2, e2⟩ : ∃ B Z q, rgR p2 = (B, Z, q) := ⟨_, _, _, rfl⟩
  obtain ⟨B3, Z3, q3, e3⟩ : ∃ B Z q, rgR p3 = (B, Z, q) := ⟨_, _, _, rfl⟩
  obtain ⟨P, q4, e4⟩ : ∃ B q, rdR p4 = (B, q) := ⟨_, _, rfl⟩
  obtain ⟨m, hm⟩ : ∃ m, m = partM p1 p2 p3 p4 := ⟨_, rfl⟩
  rw [← hm] at HM HR
  rw [e1] at HN1 HM HW
  rw [e2] at HN2 HM HW
  rw [e3] at HN3 HM HW
  rw [e4] at HN4 HR HM HW
  clear e1 e2 e3 e4 hm HZ hz1 hz2 hz3 hz4 hat h4
  cases q4 with
  | false =>
    have HX := Lib.hid (show rmR s = (mac0, false) by rw [HR.out]; simp)
    clear HN1 HN2 HN3 HM HW HR t0 t1 t2
    go_enter Tryz.func10, Tryz.ntmps10
    go_wp2_with fail
    rw [← HU.out, ← hg]
    clear hg
    refine H0.mono ?_
    rintro e w1 ⟨rfl, rfl⟩
    clear H0
    go_wp2_with fail
    refine (HN4.out _ hbel).mono ?_
    rintro e w2 ⟨rfl, hb⟩
    replace br := br.below hb
    replace hbel := hbel.trans (hb.mono hbel.size)
    clear hb
    clear t3
    have r0 := br.at_ 0 rfl
    have r1 := br.at_ 1 rfl
    have r2 := br.at_ 2 rfl
    have r3 := br.at_ 3 rfl
    have r4 := br.at_ 4 rfl
    have r5 := br.at_ 5 rfl
    have r6 := br.at_ 6 rfl
    have f0 := br.thaw 0
    have f1 := br.thaw 1
    have f2 := br.thaw 2
    have f3 := br.thaw 3
    have f4 := br.thaw 4
    have f5 := br.thaw 5
    have f6 := br.thaw 6
    have hl := br.lt
    go_wp2
    exact bodyPost_ret (v := .tuple #[.agg #[.int .i64 0, .slice none 0 0, .int .i64 0, .slice none 0 0, .int .i64 0, .slice none 0 0, .int .i64 0], .bool false]) (by simp [results, go_sem, r0, r1, r2, r3, r4, r5, r6]) rfl (macB_err HX.out rfl (by have := HG.out; exact (by repeat (first | with_reducible exact hbel | with_reducible refine Below.setCell ?_ (by first | omega | (simp <;> omega)) _ | with_reducible refine Below.alloc ?_ (by first | omega | (simp <;> omega)) _ | with_reducible refine Below.drew ?_))))
  | true =>
  replace HR := Lib.hid (show rmR s = if macB m = true then (m, true) else (mac0, false) by rw [HR.out]; simp)
  go_enter Tryz.func10, Tryz.ntmps10
  go_wp2_with fail
  rw [← HU.out, ← hg]
  clear hg
  refine H0.mono ?_
  rintro e w1 ⟨rfl, hw1⟩
  subst w1
  clear H0
  go_wp2_with fail
  refine (HN4.out _ hbel).mono ?_
  rintro e w2 ⟨rfl, hb⟩
  replace t0 := kept hb t0
  replace t1 := kept hb t1
  replace t2 := kept hb t2
  replace br := br.below hb
  have hy1 := hb.size
  replace hbel := hbel.trans (hb.mono hbel.size)
  clear hb
  clear t3
  go_upto_region 8 with fail
  obtain ⟨k, hk⟩ : ∃ g, g = w2.heap.size := ⟨_, rfl⟩
  obtain ⟨V0, hV⟩ : ∃ V, V = w2.alloc (.cells #[.int .i64 0, .slice none 0 0, .int .i64 0, .slice none 0 0, .int .i64 0, .slice none 0 0, .int .i64 P] 28) := ⟨_, rfl⟩
  try rw [← hk, ← hV]
  have bm : Bx V0 k 28 #[.int .i64 0, .slice none 0 0, .int .i64 0, .slice none 0 0, .int .i64 0, .slice none 0 0, .int .i64 P] := by rw [hV, hk]; exact Bx.new _ _ _
  have hb : Below w2.heap.size w2 V0 := by rw [hV]; exact (Below.refl _ _).alloc (Nat.le_refl _) _
  have hku : k < V0.heap.size := bm.lt
  have hgk : g < k := by rw [hk]; exact br.lt
  have hwk : w.heap.size ≤ k := by rw [hk]; exact hbel.size
  have hqk : q < k := by rw [hk]; exact World.block_lt_of_cell? _ _ t0
  replace t0 := kept hb t0
  replace t1 := kept hb t1
  replace t2 := kept hb t2
  replace br := br.below hb
  replace hbel := hbel.trans (hb.mono hbel.size)
  clear hb
  clear hV hk hN hy0 hy1 hgu
  go_wp2_with fail
  refine (HN1.out V0 hbel).mono ?_
  rintro e x1 ⟨A1, C1, rfl, own1, hb⟩
  replace t1 := kept hb t1
  replace t2 := kept hb t2
  replace br := br.below hb
  replace bm := bm.below hb
  have hz1 := hb.size
  replace hbel := hbel.trans (hb.mono hbel.size)
  clear hb
  clear t0
  have c0 := bm.at_ 0 rfl
  have c1 := bm.at_ 1 rfl
  have f0 := bm.thaw 0
  have f1 := bm.thaw 1
  go_upto_region 9 with fail
  obtain ⟨V1, hV⟩ : ∃ V, V = (x1.setCell ⟨k, 0, none⟩ (.int .i64 B1)).setCell ⟨k, 1, none⟩ (.slice A1 Z1.length C1) := ⟨_, rfl⟩
  try rw [← hV]
  replace own1 : Own 2 V1 V0.heap.size x1.heap.size (.slice A1 Z1.length C1) Z1 := by rw [hV]; exact (own1.setCell (.inl (by simp; omega)) _).setCell (.inl (by simp; omega)) _
  replace br : Bx V1 g 28 #[.int .i64 0, .slice none 0 0, .int .i64 0, .slice none 0 0, .int .i64 0, .slice none 0 0, .int .i64 0] := by rw [hV]; exact (br.far (by simp; omega) _).far (by simp; omega) _
  replace bm : Bx V1 k 28 #[.int .i64 B1, .slice A1 Z1.length C1, .int .i64 0, .slice none 0 0, .int .i64 0, .slice none 0 0, .int .i64 P] := by rw [hV]; exact (bm.set_ 0 _).set_ 1 _
  replace hbel : Below w.heap.size w V1 := by rw [hV]; have := HG.out; exact (by repeat (first | with_reducible exact hbel | with_reducible refine Below.setCell ?_ (by first | omega | (simp <;> omega)) _ | with_reducible refine Below.alloc ?_ (by first | omega | (simp <;> omega)) _ | with_reducible refine Below.drew ?_))
  have hy1 : V1.heap.size = x1.heap.size := by rw [hV]; simp
  replace t1 : V1.cell? ⟨q, 1, none⟩ = some (.string p2) := by rw [hV]; exact keptT (((Touch.refl k (k + 1) x1).setCell (Nat.le_refl _) (Nat.lt_succ_self _) (.int .i64 B1)).setCell (Nat.le_refl _) (Nat.lt_succ_self _) (.slice A1 Z1.length C1)) t1 (.inl hqk)
  replace t2 : V1.cell? ⟨q, 2, none⟩ = some (.string p3) := by rw [hV]; exact keptT (((Touch.refl k (k + 1) x1).setCell (Nat.le_refl _) (Nat.lt_succ_self _) (.int .i64 B1)).setCell (Nat.le_refl _) (Nat.lt_succ_self _) (.slice A1 Z1.length C1)) t2 (.inl hqk)
  clear hV c0 c1 f0 f1
  go_wp2_with fail
  refine (HN2.out V1 hbel).mono ?_
  rintro e x2 ⟨A2, C2, rfl, own2, hb⟩
  replace t2 := kept hb t2
  replace br := br.below hb
  replace bm := bm.below hb
  replace own1 := own1.below hb
  have hz2 := hb.size
  replace hbel := hbel.trans (hb.mono hbel.size)
  clear hb
  clear t1
  have c0 := bm.at_ 2 rfl
  have c1 := bm.at_ 3 rfl
  have f0 := bm.thaw 2
  have f1 := bm.thaw 3
  go_upto_region 10 with fail
  obtain ⟨V2, hV⟩ : ∃ V, V = (x2.setCell ⟨k, 2, none⟩ (.int .i64 B2)).setCell ⟨k, 3, none⟩ (.slice A2 Z2.length C2) := ⟨_, rfl⟩
  try rw [← hV]
  replace own1 : Own 2 V2 V0.heap.size x1.heap.size (.slice A1 Z1.length C1) Z1 := by rw [hV]; exact (own1.setCell (.inl (by simp; omega)) _).setCell (.inl (by simp; omega)) _
  replace own2 : Own 2 V2 V1.heap.size x2.heap.size (.slice A2 Z2.length C2) Z2 := by rw [hV]; exact (own2.setCell (.inl (by simp; omega)) _).setCell (.inl (by simp; omega)) _
  replace br : Bx V2 g 28 #[.int .i64 0, .slice none 0 0, .int .i64 0, .slice none 0 0, .int .i64 0, .slice none 0 0, .int .i64 0] := by rw [hV]; exact (br.far (by simp; omega) _).far (by simp; omega) _
  replace bm : Bx V2 k 28 #[.int .i64 B1, .slice A1 Z1.length C1, .int .i64 B2, .slice A2 Z2.length C2, .int .i64 0, .slice none 0 0, .int .i64 P] := by rw [hV]; exact (bm.set_ 2 _).set_ 3 _
  replace hbel : Below w.heap.size w V2 := by rw [hV]; have := HG.out; exact (by repeat (first | with_reducible exact hbel | with_reducible refine Below.setCell ?_ (by first | omega | (simp <;> omega)) _ | with_reducible refine Below.alloc ?_ (by first | omega | (simp <;> omega)) _ | with_reducible refine Below.drew ?_))
  have hy2 : V2.heap.size = x2.heap.size := by rw [hV]; simp
  replace t2 : V2.cell? ⟨q, 2, none⟩ = some (.string p3) := by rw [hV]; exact keptT (((Touch.refl k (k + 1) x2).setCell (Nat.le_refl _) (Nat.lt_succ_self _) (.int .i64 B2)).setCell (Nat.le_refl _) (Nat.lt_succ_self _) (.slice A2 Z2.length C2)) t2 (.inl hqk)
  clear hV c0 c1 f0 f1
  go_wp2_with fail
  refine (HN3.out V2 hbel).mono ?_
  rintro e x3 ⟨A3, C3, rfl, own3, hb⟩
  replace br := br.below hb
  replace bm := bm.below hb
  replace own1 := own1.below hb
  replace own2 := own2.below hb
  have hz3 := hb.size
  replace hbel := hbel.trans (hb.mono hbel.size)
  clear hb
  clear t2
  have c0 := bm.at_ 4 rfl
  have c1 := bm.at_ 5 rfl
  have f0 := bm.thaw 4
  have f1 := bm.thaw 5
  go_upto_region 11 with fail
  obtain ⟨V3, hV⟩ : ∃ V, V = (x3.setCell ⟨k, 4, none⟩ (.int .i64 B3)).setCell ⟨k, 5, none⟩ (.slice A3 Z3.length C3) := ⟨_, rfl⟩
  try rw [← hV]
  replace own1 : Own 2 V3 V0.heap.size x1.heap.size (.slice A1 Z1.length C1) Z1 := by rw [hV]; exact (own1.setCell (.inl (by simp; omega)) _).setCell (.inl (by simp; omega)) _
  replace own2 : Own 2 V3 V1.heap.size x2.heap.size (.slice A2 Z2.length C2) Z2 := by rw [hV]; exact (own2.setCell (.inl (by simp; omega)) _).setCell (.inl (by simp; omega)) _
  replace own3 : Own 2 V3 V2.heap.size x3.heap.size (.slice A3 Z3.length C3) Z3 := by rw [hV]; exact (own3.setCell (.inl (by simp; omega)) _).setCell (.inl (by simp; omega)) _
  replace br : Bx V3 g 28 #[.int .i64 0, .slice none 0 0, .int .i64 0, .slice none 0 0, .int .i64 0, .slice none 0 0, .int .i64 0] := by rw [hV]; exact (br.far (by simp; omega) _).far (by simp; omega) _
  replace bm : Bx V3 k 28 #[.int .i64 B1, .slice A1 Z1.length C1, .int .i64 B2, .slice A2 Z2.length C2, .int .i64 B3, .slice A3 Z3.length C3, .int .i64 P] := by rw [hV]; exact (bm.set_ 4 _).set_ 5 _
  replace hbel : Below w.heap.size w V3 := by rw [hV]; have := HG.out; exact (by repeat (first | with_reducible exact hbel | with_reducible refine Below.setCell ?_ (by first | omega | (simp <;> omega)) _ | with_reducible refine Below.alloc ?_ (by first | omega | (simp <;> omega)) _ | with_reducible refine Below.drew ?_))
  have hy3 : V3.heap.size = x3.heap.size := by rw [hV]; simp
  clear hV c0 c1 f0 f1
  have HO : Hid (Own3 2 V3 V0.heap.size x3.heap.size (.slice A1 m.z1.length C1) m.z1 (.slice A2 m.z2.length C2) m.z2 (.slice A3 m.z3.length C3) m.z3) := Lib.hid (by
    rw [HM.out]
    exact ⟨_, _, _, _, _, _, own1, own2, own3, by omega⟩)
  have bm2 : Bx V3 k 28 #[.int .i64 m.b1, .slice A1 m.z1.length C1, .int .i64 m.b2, .slice A2 m.z2.length C2, .int .i64 m.b3, .slice A3 m.z3.length C3, .int .i64 m.p] := by rw [HM.out]; exact bm
  have n0 := HM.out
  obtain ⟨rfl, rfl, rfl, rfl, rfl, rfl, rfl⟩ : m.b1 = B1 ∧ m.z1 = Z1 ∧ m.b2 = B2 ∧ m.z2 = Z2 ∧ m.b3 = B3 ∧ m.z3 = Z3 ∧ m.p = P := by rw [n0]; exact ⟨rfl, rfl, rfl, rfl, rfl, rfl, rfl⟩
  have HV := Lib.hid (implValidMachine m A1 C1 A2 C2 A3 C3 V3 HO.out.rd HW.out.1 HW.out.2 (hD.bell.below hbel))
  have HS := Lib.hid (show w.heap.size ≤ V0.heap.size ∧ x3.heap.size ≤ V3.heap.size ∧ g < V0.heap.size by omega)
  clear own1 own2 own3 bm n0 HM HW hz1 hz2 hz3 hy1 hy2 hy3 hD HN1 HN2 HN3 HN4
  have c0 := bm2.at_ 0 rfl
  have c1 := bm2.at_ 1 rfl
  have c2 := bm2.at_ 2 rfl
  have c3 := bm2.at_ 3 rfl
  have c4 := bm2.at_ 4 rfl
  have c5 := bm2.at_ 5 rfl
  have c6 := bm2.at_ 6 rfl
  cases hv : macB m with
  | false =>
    have HX := Lib.hid (show rmR s = (mac0, false) by rw [HR.out, hv]; rfl)
    rw [hv] at HV
    clear hv HR
    go_wp2_with fail
    refine HV.out.mono ?_
    rintro e w4 ⟨rfl, hb⟩
    replace br := br.below hb
    replace hbel := hbel.trans (hb.mono hbel.size)
    clear hb c0 c1 c2 c3 c4 c5 c6
    have r0 := br.at_ 0 rfl
    have r1 := br.at_ 1 rfl
    have r2 := br.at_ 2 rfl
    have r3 := br.at_ 3 rfl
    have r4 := br.at_ 4 rfl
    have r5 := br.at_ 5 rfl
    have r6 := br.at_ 6 rfl
    have f0 := br.thaw 0
    have f1 := br.thaw 1
    have f2 := br.thaw 2
    have f3 := br.thaw 3
    have f4 := br.thaw 4
    have f5 := br.thaw 5
    have f6 := br.thaw 6
    have hl := br.lt
    go_wp2
    exact bodyPost_ret (v := .tuple #[.agg #[.int .i64 0, .slice none 0 0, .int .i64 0, .slice none 0 0, .int .i64 0, .slice none 0 0, .int .i64 0], .bool false]) (by simp [results, go_sem, r0, r1, r2, r3, r4, r5, r6]) rfl (macB_err HX.out rfl (by have := HG.out; exact (by repeat (first | with_reducible exact hbel | with_reducible refine Below.setCell ?_ (by first | omega | (simp <;> omega)) _ | with_reducible refine Below.alloc ?_ (by first | omega | (simp <;> omega)) _ | with_reducible refine Below.drew ?_))))
  | true =>
    have HX := Lib.hid (show rmR s = (m, true) by rw [HR.out, hv]; rfl)
    rw [hv] at HV
    clear hv HR
    go_wp2_with fail
    refine HV.out.mono ?_
    rintro e w4 ⟨rfl, hb⟩
    replace br := br.below hb
    replace bm2 := bm2.below hb
    replace hbel := hbel.trans (hb.mono hbel.size)
    have HO2 := Lib.hid (HO.out.below hb)
    have HZ := Lib.hid hb.size
    clear hb c0 c1 c2 c3 c4 c5 c6
    have c0 := bm2.at_ 0 rfl
    have c1 := bm2.at_ 1 rfl
    have c2 := bm2.at_ 2 rfl
    have c3 := bm2.at_ 3 rfl
    have c4 := bm2.at_ 4 rfl
    have c5 := bm2.at_ 5 rfl
    have c6 := bm2.at_ 6 rfl
    have j0 := br.at_ 0 rfl
    have j1 := br.at_ 1 rfl
    have j2 := br.at_ 2 rfl
    have j3 := br.at_ 3 rfl
    have j4 := br.at_ 4 rfl
    have j5 := br.at_ 5 rfl
    have j6 := br.at_ 6 rfl
    have f0 := br.thaw 0
    have f1 := br.thaw 1
    have f2 := br.thaw 2
    have f3 := br.thaw 3
    have f4 := br.thaw 4
    have f5 := br.thaw 5
    have f6 := br.thaw 6
    have hl := br.lt
    have bz : Bx (((((((w4.setCell ⟨g, 0, none⟩ (.int .i64 m.b1)).setCell ⟨g, 1, none⟩ (.slice A1 m.z1.length C1)).setCell ⟨g, 2, none⟩ (.int .i64 m.b2)).setCell ⟨g, 3, none⟩ (.slice A2 m.z2.length C2)).setCell ⟨g, 4, none⟩ (.int .i64 m.b3)).setCell ⟨g, 5, none⟩ (.slice A3 m.z3.length C3)).setCell ⟨g, 6, none⟩ (.int .i64 m.p)) (g) 28 #[.int .i64 m.b1, .slice A1 m.z1.length C1, .int .i64 m.b2, .slice A2 m.z2.length C2, .int .i64 m.b3, .slice A3 m.z3.length C3, .int .i64 m.p] := bx_put7 br
    have r0 := bz.at_ 0 rfl
    have r1 := bz.at_ 1 rfl
    have r2 := bz.at_ 2 rfl
    have r3 := bz.at_ 3 rfl
    have r4 := bz.at_ 4 rfl
    have r5 := bz.at_ 5 rfl
    have r6 := bz.at_ 6 rfl
    clear bz
    go_wp2
    exact bodyPost_ret (v := .tuple #[.agg #[.int .i64 m.b1, .slice A1 m.z1.length C1, .int .i64 m.b2, .slice A2 m.z2.length C2, .int .i64 m.b3, .slice A3 m.z3.length C3, .int .i64 m.p], .bool true]) (by simp [results, go_sem, r0, r1, r2, r3, r4, r5, r6]) rfl
      (macB_ok HX.out rfl (((((((HO2.out.setCell (p := ⟨g, 0, none⟩) (.inl HS.out.2.2) _).setCell (p := ⟨g, 1, none⟩) (.inl HS.out.2.2) _).setCell (p := ⟨g, 2, none⟩) (.inl HS.out.2.2) _).setCell (p := ⟨g, 3, none⟩) (.inl HS.out.2.2) _).setCell (p := ⟨g, 4, none⟩) (.inl HS.out.2.2) _).setCell (p := ⟨g, 5, none⟩) (.inl HS.out.2.2) _).setCell (p := ⟨g, 6, none⟩) (.inl HS.out.2.2) _) HS.out.1 (by have := HS.out; have := HZ.out; simp; omega) (by have := HG.out; exact (by repeat (first | with_reducible exact hbel | with_reducible refine Below.setCell ?_ (by first | omega | (simp <;> omega)) _ | with_reducible refine Below.alloc ?_ (by first | omega | (simp <;> omega)) _ | with_reducible refine Below.drew ?_))))
end Go.Proofs.YtlahobdopmdfmaaGreatDoor
