/-
  ReadDecimal, in the specification.
-/
import Derived.Test.YtgfopieojpjddaaDoorReadI
namespace Go.Proofs.YtgfopieojpjddaaDoor
open Go.RowKit

/-- What is left of s behind a sign says the number, if s is the form of one. -/
def Rest (s : ByteArray) (l : List UInt8) (neg : Bool) : Prop := ∀ v, isDec s v → l = Lib.decDigits v.natAbs ∧ v = if neg then -(v.natAbs : Int) else (v.natAbs : Int)
theorem dec_list {s : ByteArray} {v : Int} (h : isDec s v) : (0 ≤ v ∧ s.data.toList = Lib.decDigits v.natAbs) ∨ (v < 0 ∧ s.data.toList = 45 :: Lib.decDigits v.natAbs) := by
  rw [h.2]
  unfold Lib.itoa
  by_cases hv : v < 0
  · exact .inr ⟨hv, by rw [if_pos hv]⟩
  · exact .inl ⟨by omega, by rw [if_neg hv, show v.toNat = v.natAbs by omega]⟩
theorem rest_pos {s : ByteArray} {c : UInt8} {l : List UInt8} (hl : s.data.toList = c :: l) (hc : ¬ c.toNat = 45) : Rest s s.data.toList false := by
  intro v hv
  rcases dec_list hv with ⟨h1, h2⟩ | ⟨h1, h2⟩
  · exact ⟨h2, by simp; omega⟩
  · rw [hl] at h2
    injection h2 with h2 _
    exact absurd (by rw [h2]; rfl) hc
theorem rest_neg {s : ByteArray} {c : UInt8} {l : List UInt8} (hl : s.data.toList = c :: l) (hc : c.toNat = 45) : Rest s l true := by
  intro v hv
  rcases dec_list hv with ⟨h1, h2⟩ | ⟨h1, h2⟩
  · obtain ⟨d, l', e, hd⟩ := dd_head v.natAbs
    rw [hl, e] at h2
    injection h2 with h2 _
    have := hd.1
    rw [← h2] at this
    omega
  · rw [hl] at h2
    injection h2 with _ h2
    exact ⟨h2, by simp; omega⟩
theorem rest_empty {s : ByteArray} (hl : s.data.toList = []) : ¬ ∃ v, isDec s v := by
  rintro ⟨v, hv⟩
  rcases dec_list hv with ⟨_, h2⟩ | ⟨_, h2⟩ <;> rw [hl] at h2
  · exact dd_ne _ h2.symm
  · cases h2
theorem rest_len {s : ByteArray} {l : List UInt8} {b : Bool} (h : Rest s l b) (hl : l.length < 1 ∨ 18 < l.length) : ¬ ∃ v, isDec s v := by
  rintro ⟨v, hv⟩
  obtain ⟨rfl, _⟩ := h v hv
  have h1 := dd_len 17 v.natAbs hv.1
  have h2 := List.length_pos_iff.2 (dd_ne v.natAbs)
  omega
theorem rest_dig {s : ByteArray} {l : List UInt8} {b : Bool} (h : Rest s l b) {k : Nat} (hk : k < l.length) (hd : ¬ isNum l[k]) : ¬ ∃ v, isDec s v := by
  rintro ⟨v, hv⟩
  obtain ⟨rfl, _⟩ := h v hv
  exact hd (dd_dig _ _ (List.getElem_mem hk))
theorem rest_yes {s : ByteArray} {l : List UInt8} {n : Int} (hd : ∀ c ∈ l, isNum c) (hl : l.length ≤ 18) (hn : n.natAbs = pv 0 l) (e : (⟨(Lib.itoa n).toArray⟩ : ByteArray) = s) : rdR s = (n, true) := by
  refine rdR_yes ⟨?_, e.symm⟩
  have := pv_lt l 0 hd
  rw [hn]
  refine Nat.lt_of_lt_of_le this ?_
  rw [Nat.zero_add, Nat.one_mul]
  exact Nat.pow_le_pow_right (by decide) hl
theorem rest_no {s : ByteArray} {l : List UInt8} {b : Bool} {n : Int} (h : Rest s l b) (hn : n = if b then -(pv 0 l : Int) else (pv 0 l : Int)) (e : ¬ (⟨(Lib.itoa n).toArray⟩ : ByteArray) = s) : rdR s = (0, false) := by
  refine rdR_no ?_
  rintro ⟨v, hv⟩
  obtain ⟨rfl, h2⟩ := h v hv
  rw [dd_pv, ← h2] at hn
  subst hn
  exact e hv.2.symm
theorem pv_bd {l : List UInt8} (hd : ∀ c ∈ l, isNum c) (hl : l.length ≤ 18) : pv 0 l < 1000000000000000000 := by
  have := pv_lt l 0 hd
  refine Nat.lt_of_lt_of_le this ?_
  rw [Nat.zero_add, Nat.one_mul]
  exact Nat.pow_le_pow_right (n := 10) (by decide) hl
theorem bytes_at {t : ByteArray} {k : Nat} (h : k < t.size) : t.data.toList[k]'(by simpa using h) = t[k] := rfl
theorem take_at {t : ByteArray} {k : Nat} (h : k < t.size) : t.data.toList.take (k + 1) = t.data.toList.take k ++ [t[k]] := by
  rw [List.take_succ_eq_append_getElem (by simpa using h)]; rfl
theorem sDig_t (c : Int) (w : World) (h : 48 ≤ c ∧ c ≤ 57) : Calls Tryd.prog 120 #[.int .u8 c] w fun e w' => e = .returned (.bool true) ∧ w' = w := by
  obtain ⟨h1, h2⟩ := h
  go_enter Tryd.func120, Tryd.ntmps120
  go_wp2
  go_ret
  exact ⟨ret_bool (by simp), rfl⟩
theorem sDig_f (c : Int) (w : World) (h : ¬ (48 ≤ c ∧ c ≤ 57)) : Calls Tryd.prog 120 #[.int .u8 c] w fun e w' => e = .returned (.bool false) ∧ w' = w := by
  by_cases h1 : 48 ≤ c
  · have h2 : ¬ c ≤ 57 := by omega
    clear h
    go_enter Tryd.func120, Tryd.ntmps120
    go_wp2
    go_ret
    exact ⟨ret_bool (by simp), rfl⟩
  · clear h
    go_enter Tryd.func120, Tryd.ntmps120
    go_wp2
    go_ret
    exact ⟨rfl, rfl⟩

theorem str_nonempty {s : ByteArray} (h : 0 < s.size) : s.toList.isEmpty = false := by
  rw [Lib.toList_data]
  cases h' : s.data.toList with
  | nil => have : s.data.toList.length = 0 := by rw [h']; rfl
           have h2 : s.data.toList.length = s.size := by simp
           omega
  | cons _ _ => rfl

set_option maxRecDepth 100000 in
set_option maxHeartbeats 4000000 in
theorem l01Number_pos (s : ByteArray) (w : World) (hs : s.size ≤ 1048576) (h0 : 0 < s.size) (hc : ¬ ((s[0]'h0).toNat : Int) = 45) (hR : Rest s s.data.toList false) :
    Calls Tryd.prog 71 #[.string s] w fun e w' => e = .returned (.tuple #[.int .i64 (rdR s).1, .bool (rdR s).2]) ∧ Below w.heap.size w w' := by
  have HR := Lib.hid hR
  have hcb : (((s[0]'h0).toNat : Int) == 45) = false := by simp; omega
  have hse := str_nonempty h0
  have hsb : (s.toList == ([] : List UInt8)) = false := by cases h : s.toList with
    | nil => rw [h] at hse; cases hse
    | cons _ _ => rfl
  have HZ := Lib.hid (show s.data.toList.length = s.size by simp)
  clear hR
  rcases Nat.lt_or_ge s.size 1 with hl | hl
  · omega
  rcases Nat.lt_or_ge 18 s.size with hl2 | hl2
  · have HN := Lib.hid (rdR_no (rest_len HR.out (.inr (by rw [HZ.out]; exact hl2))))
    go_enter Tryd.func71, Tryd.ntmps71
    go_wp2
    go_ret2
    exact ⟨by rw [HN.out]; rfl, Below.refl _ _⟩
  go_enter Tryd.func71, Tryd.ntmps71
  go_wp2
  go_loop [5, 6] (fun v i => ∃ k : Nat, k ≤ s.size ∧ i = .int .i64 k ∧ v = .int .i64 (pv 0 (s.data.toList.take k) : Int) ∧ Hid (∀ c ∈ s.data.toList.take k, isNum c)) (fun _ i => s.size - (intOf i).toNat)
  case atStart => exact ⟨0, Nat.zero_le _, rfl, rfl, Lib.hid (by simp)⟩
  case round =>
    obtain ⟨k, hk, rfl, rfl, hd⟩ := hrel
    have hb := pv_bd hd.out (by rw [List.length_take]; omega)
    by_cases hlt : k < s.size
    · by_cases hg : 48 ≤ ((s[k]'hlt).toNat : Int) ∧ ((s[k]'hlt).toNat : Int) ≤ 57
      · have c1 := fun w => sDig_t ((s[k]'hlt).toNat : Int) w hg
        have HT := Lib.hid (take_at hlt)
        have HD : Hid (∀ c ∈ s.data.toList.take (k + 1), isNum c) := Lib.hid (by
          rw [HT.out]; intro c hc
          rcases List.mem_append.1 hc with hc | hc
          · exact hd.out c hc
          · rw [List.mem_singleton] at hc; subst hc; exact ⟨by omega, by omega⟩)
        have HP : Hid ((pv 0 (s.data.toList.take (k + 1)) : Int) = 10 * (pv 0 (s.data.toList.take k) : Int) + (((s[k]'hlt).toNat : Int) - 48)) := Lib.hid (by
          rw [HT.out, pv_snoc]; omega)
        obtain ⟨hg1, hg2⟩ := hg
        clear hd
        go_wp2_with (go_at_call 120; refine (c1 _).mono ?_; rintro e w' ⟨rfl, rfl⟩)
        go_round
        case rel =>
          have hb2 := pv_bd HD.out (by rw [List.length_take]; omega)
          have hb3 := HP.out
          refine ⟨k + 1, by omega, by go_num, ?_, HD⟩
          rw [HP.out, IntWalk.wrap64_in (10 * _) ⟨by omega, by omega⟩, IntWalk.wrap64_in _ ⟨by omega, by omega⟩]
        case measure => simp [intOf]; omega
      · have c1 := fun w => sDig_f ((s[k]'hlt).toNat : Int) w hg
        have HN := Lib.hid (rdR_no (rest_dig HR.out (k := k) (by rw [HZ.out]; exact hlt) (by rw [bytes_at hlt]; intro h; exact hg ⟨by have := h.1; omega, by have := h.2; omega⟩)))
        clear hg hd
        go_wp2_with (go_at_call 120; refine (c1 _).mono ?_; rintro e w' ⟨rfl, rfl⟩)
        go_ret2
        exact ⟨by rw [HN.out]; rfl, Below.refl _ _⟩
    · obtain rfl : k = s.size := by omega
      have ht : s.data.toList.take s.size = s.data.toList := List.take_of_length_le (by rw [HZ.out]; exact Nat.le_refl _)
      rw [ht] at hd hb ⊢
      clear ht
      have c1 := l01Dec_any (pv 0 s.data.toList : Int) w (by omega) (by omega)
      obtain ⟨S, hS⟩ : ∃ S : ByteArray, S = ⟨(Lib.itoa (pv 0 s.data.toList : Int)).toArray⟩ := ⟨_, rfl⟩
      rw [← hS] at c1
      by_cases he : S = s
      · have HN := Lib.hid (rest_yes (n := (pv 0 s.data.toList : Int)) hd.out (by rw [HZ.out]; exact hl2) (by simp) (hS ▸ he))
        subst he
        clear hS hd
        go_wp2_with (go_at_call 117; refine c1.mono ?_; rintro e w' ⟨rfl, hbl⟩)
        go_ret2
        exact ⟨by rw [HN.out]; rfl, hbl⟩
      · have HN := Lib.hid (rest_no (n := (pv 0 s.data.toList : Int)) HR.out (by simp) (hS ▸ he))
        have hne := str_ne he
        clear hS hd he
        go_wp2_with (go_at_call 117; refine c1.mono ?_; rintro e w' ⟨rfl, hbl⟩)
        go_ret2
        exact ⟨by rw [HN.out]; rfl, hbl⟩

set_option maxRecDepth 100000 in
set_option maxHeartbeats 4000000 in
theorem l01Number_neg (s : ByteArray) (w : World) (hs : s.size ≤ 1048576) (h0 : 0 < s.size) (hc : ((s[0]'h0).toNat : Int) = 45) (T : ByteArray) (hT : s.extract 1 s.size = T) (hTs : T.size < s.size) (hR : Rest s T.data.toList true) :
    Calls Tryd.prog 71 #[.string s] w fun e w' => e = .returned (.tuple #[.int .i64 (rdR s).1, .bool (rdR s).2]) ∧ Below w.heap.size w w' := by
  have HR := Lib.hid hR
  have hcb : (((s[0]'h0).toNat : Int) == 45) = true := by simp [hc]
  have hse := str_nonempty h0
  have hsb : (s.toList == ([] : List UInt8)) = false := by cases h : s.toList with
    | nil => rw [h] at hse; cases hse
    | cons _ _ => rfl
  have HZ := Lib.hid (show T.data.toList.length = T.size by simp)
  clear hR
  rcases Nat.lt_or_ge T.size 1 with hl | hl
  · have HN := Lib.hid (rdR_no (rest_len HR.out (.inl (by rw [HZ.out]; exact hl))))
    go_enter Tryd.func71, Tryd.ntmps71
    go_wp2
    go_ret2
    exact ⟨by rw [HN.out]; rfl, Below.refl _ _⟩
  rcases Nat.lt_or_ge 18 T.size with hl2 | hl2
  · have HN := Lib.hid (rdR_no (rest_len HR.out (.inr (by rw [HZ.out]; exact hl2))))
    go_enter Tryd.func71, Tryd.ntmps71
    go_wp2
    go_ret2
    exact ⟨by rw [HN.out]; rfl, Below.refl _ _⟩
  go_enter Tryd.func71, Tryd.ntmps71
  go_wp2
  go_loop [5, 6] (fun v i => ∃ k : Nat, k ≤ T.size ∧ i = .int .i64 k ∧ v = .int .i64 (pv 0 (T.data.toList.take k) : Int) ∧ Hid (∀ c ∈ T.data.toList.take k, isNum c)) (fun _ i => T.size - (intOf i).toNat)
  case atStart => exact ⟨0, Nat.zero_le _, rfl, rfl, Lib.hid (by simp)⟩
  case round =>
    obtain ⟨k, hk, rfl, rfl, hd⟩ := hrel
    have hb := pv_bd hd.out (by rw [List.length_take]; omega)
    by_cases hlt : k < T.size
    · by_cases hg : 48 ≤ ((T[k]'hlt).toNat : Int) ∧ ((T[k]'hlt).toNat : Int) ≤ 57
      · have c1 := fun w => sDig_t ((T[k]'hlt).toNat : Int) w hg
        have HT := Lib.hid (take_at hlt)
        have HD : Hid (∀ c ∈ T.data.toList.take (k + 1), isNum c) := Lib.hid (by
          rw [HT.out]; intro c hc
          rcases List.mem_append.1 hc with hc | hc
          · exact hd.out c hc
          · rw [List.mem_singleton] at hc; subst hc; exact ⟨by omega, by omega⟩)
        have HP : Hid ((pv 0 (T.data.toList.take (k + 1)) : Int) = 10 * (pv 0 (T.data.toList.take k) : Int) + (((T[k]'hlt).toNat : Int) - 48)) := Lib.hid (by
          rw [HT.out, pv_snoc]; omega)
        obtain ⟨hg1, hg2⟩ := hg
        clear hd
        go_wp2_with (go_at_call 120; refine (c1 _).mono ?_; rintro e w' ⟨rfl, rfl⟩)
        go_round
        case rel =>
          have hb2 := pv_bd HD.out (by rw [List.length_take]; omega)
          have hb3 := HP.out
          refine ⟨k + 1, by omega, by go_num, ?_, HD⟩
          rw [HP.out, IntWalk.wrap64_in (10 * _) ⟨by omega, by omega⟩, IntWalk.wrap64_in _ ⟨by omega, by omega⟩]
        case measure => simp [intOf]; omega
      · have c1 := fun w => sDig_f ((T[k]'hlt).toNat : Int) w hg
        have HN := Lib.hid (rdR_no (rest_dig HR.out (k := k) (by rw [HZ.out]; exact hlt) (by rw [bytes_at hlt]; intro h; exact hg ⟨by have := h.1; omega, by have := h.2; omega⟩)))
        clear hg hd
        go_wp2_with (go_at_call 120; refine (c1 _).mono ?_; rintro e w' ⟨rfl, rfl⟩)
        go_ret2
        exact ⟨by rw [HN.out]; rfl, Below.refl _ _⟩
    · obtain rfl : k = T.size := by omega
      have ht : T.data.toList.take T.size = T.data.toList := List.take_of_length_le (by rw [HZ.out]; exact Nat.le_refl _)
      rw [ht] at hd hb ⊢
      clear ht
      have c1 := l01Dec_any (-(pv 0 T.data.toList : Int)) w (by omega) (by omega)
      obtain ⟨S, hS⟩ : ∃ S : ByteArray, S = ⟨(Lib.itoa (-(pv 0 T.data.toList : Int))).toArray⟩ := ⟨_, rfl⟩
      rw [← hS] at c1
      by_cases he : S = s
      · have HN := Lib.hid (rest_yes (n := (-(pv 0 T.data.toList : Int))) hd.out (by rw [HZ.out]; exact hl2) (by simp) (hS ▸ he))
        subst he
        clear hS hd
        go_wp2_with (go_at_call 117; refine c1.mono ?_; rintro e w' ⟨rfl, hbl⟩)
        go_ret2
        exact ⟨by rw [HN.out]; rfl, hbl⟩
      · have HN := Lib.hid (rest_no (n := (-(pv 0 T.data.toList : Int))) HR.out (by simp) (hS ▸ he))
        have hne := str_ne he
        clear hS hd he
        go_wp2_with (go_at_call 117; refine c1.mono ?_; rintro e w' ⟨rfl, hbl⟩)
        go_ret2
        exact ⟨by rw [HN.out]; rfl, hbl⟩

theorem l01Number_any (s : ByteArray) (w : World) (hs : s.size ≤ 1048576) :
    Calls Tryd.prog 71 #[.string s] w fun e w' => e = .returned (.tuple #[.int .i64 (rdR s).1, .bool (rdR s).2]) ∧ Below w.heap.size w w' := by
  rcases Nat.eq_zero_or_pos s.size with h0 | h0
  · obtain rfl : s = ByteArray.empty := by
      cases s with | mk d => (have : d = #[] := Array.eq_empty_of_size_eq_zero h0); rw [this]; rfl
    have HN := Lib.hid (rdR_no (rest_empty (s := ByteArray.empty) rfl))
    clear h0 hs
    go_enter Tryd.func71, Tryd.ntmps71
    go_wp2
    go_ret2
    exact ⟨by rw [HN.out]; rfl, Below.refl _ _⟩
  · obtain ⟨c, l, hl⟩ : ∃ c l, s.data.toList = c :: l := by
      cases h : s.data.toList with
      | nil => have h2 : s.data.toList.length = s.size := by simp
               rw [h] at h2; simp at h2; omega
      | cons c l => exact ⟨c, l, rfl⟩
    have hc0 : s[0]'h0 = c := by
      have : s.data.toList[0]'(by rw [hl]; simp) = c := by simp [hl]
      rw [← this]; rfl
    by_cases hc : ((s[0]'h0).toNat : Int) = 45
    · have hT : (s.extract 1 s.size).data.toList = l := by
        rw [Lib.extract_data, hl, List.drop_one, List.tail_cons, List.take_of_length_le]
        have h2 : s.data.toList.length = s.size := by simp
        rw [hl] at h2; simp at h2; omega
      have hTs : (s.extract 1 s.size).size < s.size := by simp; omega
      exact l01Number_neg s w hs h0 hc _ rfl hTs (by rw [hT]; exact rest_neg hl (by rw [← hc0]; omega))
    · exact l01Number_pos s w hs h0 hc (rest_pos hl (by rw [← hc0]; omega))

theorem specReadDecimal (s : ByteArray) (w : World) (hs : s.size ≤ 1048576) :
    Calls Tryd.prog 30 #[.string s] w fun e w' => e = .returned (.tuple #[.int .i64 (rdR s).1, .bool (rdR s).2]) ∧ Below w.heap.size w w' := by
  have c1 := l01Number_any s w hs
  go_enter Tryd.func30, Tryd.ntmps30
  go_wp2_with (go_at_call 71; refine c1.mono ?_; rintro e w1 ⟨rfl, hb⟩)
  go_ret2
  exact ⟨rfl, hb⟩
end Go.Proofs.YtgfopieojpjddaaDoor
