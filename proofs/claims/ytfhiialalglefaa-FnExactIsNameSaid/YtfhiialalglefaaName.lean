/-
  IsName, in the specification and in the program.
-/
import Derived.Test.YtfhiialalglefaaProg
import Derived.Test.YtfhiialalglefaaBase
import Derived.Laws.RangeAny
namespace Go.Proofs.Ytfhiialalglefaa
open Go.RowKit

/-- The byte c may stand at place k of a name. -/
def nmP (k c : Nat) : Prop := (97 ≤ c ∧ c ≤ 122) ∨ (k ≠ 0 ∧ ((48 ≤ c ∧ c ≤ 57) ∨ c = 45))
def nameP (s : ByteArray) : Prop := 1 ≤ s.size ∧ s.size ≤ 12 ∧ ∀ k (h : k < s.size), nmP k (s[k]'h).toNat
instance (k c : Nat) : Decidable (nmP k c) := by unfold nmP; infer_instance
instance (s : ByteArray) : Decidable (nameP s) := by unfold nameP; infer_instance
def nameB (s : ByteArray) : Bool := decide (nameP s)
def nmUpto (s : ByteArray) (k : Nat) : Prop := ∀ j (h : j < s.size), j < k → nmP j (s[j]'h).toNat
theorem nmUpto_zero (s : ByteArray) : nmUpto s 0 := fun _ _ h => absurd h (Nat.not_lt_zero _)
theorem nmUpto_succ {s : ByteArray} {k : Nat} (h : nmUpto s k) (hk : k < s.size) (hc : nmP k (s[k]'hk).toNat) : nmUpto s (k + 1) := by
  intro j hj hlt
  rcases Nat.lt_or_ge j k with h1 | h1
  · exact h j hj h1
  · obtain rfl : j = k := by omega
    exact hc
theorem nameB_true {s : ByteArray} (h1 : 1 ≤ s.size) (h2 : s.size ≤ 12) (h : nmUpto s s.size) : nameB s = true :=
  decide_eq_true ⟨h1, h2, fun k hk => h k hk hk⟩
theorem nameB_len {s : ByteArray} (h : s.size < 1 ∨ 12 < s.size) : nameB s = false :=
  decide_eq_false fun ⟨h1, h2, _⟩ => by omega
theorem nameB_at {s : ByteArray} {k : Nat} (hk : k < s.size) (h : ¬ nmP k (s[k]'hk).toNat) : nameB s = false :=
  decide_eq_false fun ⟨_, _, h3⟩ => h (h3 k hk)

theorem iSmall_t (c : Int) (w : World) (h : 97 ≤ c ∧ c ≤ 122) : Calls Try.prog 64 #[.int .i32 c] w fun e w' => e = .returned (.bool true) ∧ w' = w := by
  obtain ⟨h1, h2⟩ := h
  go_enter Try.func64, Try.ntmps64
  go_wp2
  go_ret
  exact ⟨ret_bool (by simp), rfl⟩
theorem iSmall_f (c : Int) (w : World) (h : ¬ (97 ≤ c ∧ c ≤ 122)) : Calls Try.prog 64 #[.int .i32 c] w fun e w' => e = .returned (.bool false) ∧ w' = w := by
  by_cases h1 : 97 ≤ c
  · have h2 : ¬ c ≤ 122 := by omega
    clear h
    go_enter Try.func64, Try.ntmps64
    go_wp2
    go_ret
    exact ⟨ret_bool (by simp), rfl⟩
  · clear h
    go_enter Try.func64, Try.ntmps64
    go_wp2
    go_ret
    exact ⟨rfl, rfl⟩
theorem iDig_t (c : Int) (w : World) (h : 48 ≤ c ∧ c ≤ 57) : Calls Try.prog 65 #[.int .i32 c] w fun e w' => e = .returned (.bool true) ∧ w' = w := by
  obtain ⟨h1, h2⟩ := h
  go_enter Try.func65, Try.ntmps65
  go_wp2
  go_ret
  exact ⟨ret_bool (by simp), rfl⟩
theorem iDig_f (c : Int) (w : World) (h : ¬ (48 ≤ c ∧ c ≤ 57)) : Calls Try.prog 65 #[.int .i32 c] w fun e w' => e = .returned (.bool false) ∧ w' = w := by
  by_cases h1 : 48 ≤ c
  · have h2 : ¬ c ≤ 57 := by omega
    clear h
    go_enter Try.func65, Try.ntmps65
    go_wp2
    go_ret
    exact ⟨ret_bool (by simp), rfl⟩
  · clear h
    go_enter Try.func65, Try.ntmps65
    go_wp2
    go_ret
    exact ⟨rfl, rfl⟩

/-- Whether the byte may stand there can be told by what is decoded; then it is one byte. -/
theorem dec_nm {s : ByteArray} {k c z : Nat} (h : k < s.size) (hd : Utf8.decode s k = (c, z)) : (nmP k c ↔ nmP k (s[k]'h).toNat) ∧ (nmP k c → z = 1) := by
  rcases Nat.lt_or_ge (s[k]'h).toNat 128 with h1 | h1
  · rw [decode_ascii s k h h1] at hd
    injection hd with h2 h3
    subst h2
    exact ⟨Iff.rfl, fun _ => h3.symm⟩
  · have h2 := (decode_high s k h h1).1
    rw [hd] at h2
    have h3 : 128 ≤ c := h2
    have no : ∀ b, 128 ≤ b → ¬ nmP k b := by
      intro b hb hn
      rcases hn with hn | ⟨_, hn | hn⟩ <;> omega
    exact ⟨⟨fun h => absurd h (no _ h3), fun h => absurd h (no _ h1)⟩, fun h => absurd h (no _ h3)⟩

set_option maxRecDepth 100000 in
set_option maxHeartbeats 2000000 in
theorem implIsName (s : ByteArray) (w : World) (hs : s.size ≤ 1048576) :
    Calls Try.prog 23 #[.string s] w fun e w' => e = .returned (.bool (nameB s)) ∧ Below w.heap.size w w' := by
  rcases Nat.lt_or_ge s.size 1 with h1 | h1
  · have hn := Lib.hid (nameB_len (s := s) (.inl h1))
    have h1' : s.size = 0 := by omega
    go_enter Try.func23, Try.ntmps23
    go_wp2
    go_ret
    exact ⟨ret_bool hn.out.symm, Below.refl _ _⟩
  rcases Nat.lt_or_ge 12 s.size with h2 | h2
  · have hn := Lib.hid (nameB_len (s := s) (.inr h2))
    go_enter Try.func23, Try.ntmps23
    go_wp2
    go_ret
    exact ⟨ret_bool hn.out.symm, Below.refl _ _⟩
  go_enter Try.func23, Try.ntmps23
  go_wp2
  go_loopw [3] (fun _ wr => ∃ k : Nat, k ≤ s.size ∧ wr = w.iter s k ∧ Hid (nmUpto s k)) (fun _ wr => s.size - wr.iterPos w.heap.size)
  case atStart => exact ⟨0, Nat.zero_le _, rfl, Lib.hid (nmUpto_zero s)⟩
  case round =>
    obtain ⟨k, hk, rfl, hu⟩ := hrel
    by_cases hlt : k < s.size
    · have hnx := fun ty => run_next_any (P := Try.prog) w s k ty hlt
      obtain ⟨c, z, hd⟩ : ∃ c z, Utf8.decode s k = (c, z) := ⟨_, _, rfl⟩
      obtain ⟨hc, hz⟩ := dec_nm hlt hd
      have hle : c ≤ 2147483647 := by have := decode_le s k; rw [hd] at this; exact this
      rw [hd] at hnx
      clear hd
      have hgo := fun (h : nmP k c) => Lib.hid (nmUpto_succ hu.out hlt (hc.1 h))
      have hno := fun (h : ¬ nmP k c) => Lib.hid (nameB_at hlt (fun h' => h (hc.2 h')))
      clear hc
      by_cases h97 : 97 ≤ (c : Int) ∧ (c : Int) ≤ 122
      · have c1 := fun w => iSmall_t (c : Int) w h97
        have hg : nmP k c := .inl (by omega)
        obtain rfl : z = 1 := hz hg
        have HU := hgo hg
        clear hz hno hgo hg h97
        go_wp2_with (go_at_call 64; refine (c1 _).mono ?_; rintro e w' ⟨rfl, rfl⟩)
        go_roundw
        case rel => exact ⟨k + 1, by omega, rfl, HU⟩
        case measure => simp; omega
      · have c1 := fun w => iSmall_f (c : Int) w h97
        rcases Nat.eq_zero_or_pos k with rfl | hk0
        · have HN := hno (fun h => by rcases h with h | h <;> omega)
          clear hno hgo hz h97
          go_wp2_with (go_at_call 64; refine (c1 _).mono ?_; rintro e w' ⟨rfl, rfl⟩)
          go_ret
          exact ⟨ret_bool HN.out.symm, (Below.refl _ _).alloc (Nat.le_refl _) _⟩
        · have hk1 : ((k : Int) == 0) = false := by simp; omega
          have hk2 : ¬ k = 0 := by omega
          by_cases h48 : 48 ≤ (c : Int) ∧ (c : Int) ≤ 57
          · have c2 := fun w => iDig_t (c : Int) w h48
            have hg : nmP k c := .inr ⟨by omega, .inl (by omega)⟩
            obtain rfl : z = 1 := hz hg
            have HU := hgo hg
            clear hz hno hgo hg h97 h48
            go_wp2_with (first | (go_at_call 64; refine (c1 _).mono ?_; rintro e w' ⟨rfl, rfl⟩) | (go_at_call 65; refine (c2 _).mono ?_; rintro e w' ⟨rfl, rfl⟩))
            go_roundw
            case rel => exact ⟨k + 1, by omega, rfl, HU⟩
            case measure => simp; omega
          · have c2 := fun w => iDig_f (c : Int) w h48
            by_cases h45 : c = 45
            · subst h45
              have hg : nmP k 45 := .inr ⟨by omega, .inr rfl⟩
              obtain rfl : z = 1 := hz hg
              have HU := hgo hg
              clear hz hno hgo hg h97 h48
              go_wp2_with (first | (go_at_call 64; refine (c1 _).mono ?_; rintro e w' ⟨rfl, rfl⟩) | (go_at_call 65; refine (c2 _).mono ?_; rintro e w' ⟨rfl, rfl⟩))
              go_roundw
              case rel => exact ⟨k + 1, by omega, rfl, HU⟩
              case measure => simp; omega
            · have HN := hno (fun h => by rcases h with h | ⟨_, h | h⟩ <;> omega)
              have h45b : ((c : Int) != 45) = true := by simp; omega
              have h45c : ¬ (c : Int) = 45 := by omega
              clear hno hgo hz h97 h48 h45
              go_wp2_with (first | (go_at_call 64; refine (c1 _).mono ?_; rintro e w' ⟨rfl, rfl⟩) | (go_at_call 65; refine (c2 _).mono ?_; rintro e w' ⟨rfl, rfl⟩))
              go_ret
              exact ⟨ret_bool HN.out.symm, (Below.refl _ _).alloc (Nat.le_refl _) _⟩
    · have hnx := fun ty => run_next_end (P := Try.prog) w s k ty hlt
      obtain rfl : k = s.size := by omega
      have hn := Lib.hid (nameB_true h1 h2 hu.out)
      go_wp2
      go_ret
      exact ⟨ret_bool hn.out.symm, (Below.refl _ _).alloc (Nat.le_refl _) _⟩

theorem sSmall_t (c : Int) (w : World) (h : 97 ≤ c ∧ c ≤ 122) : Calls Try.prog 62 #[.int .u8 c] w fun e w' => e = .returned (.bool true) ∧ w' = w := by
  obtain ⟨h1, h2⟩ := h
  go_enter Try.func62, Try.ntmps62
  go_wp2
  go_ret
  exact ⟨ret_bool (by simp), rfl⟩
theorem sSmall_f (c : Int) (w : World) (h : ¬ (97 ≤ c ∧ c ≤ 122)) : Calls Try.prog 62 #[.int .u8 c] w fun e w' => e = .returned (.bool false) ∧ w' = w := by
  by_cases h1 : 97 ≤ c
  · have h2 : ¬ c ≤ 122 := by omega
    clear h
    go_enter Try.func62, Try.ntmps62
    go_wp2
    go_ret
    exact ⟨ret_bool (by simp), rfl⟩
  · clear h
    go_enter Try.func62, Try.ntmps62
    go_wp2
    go_ret
    exact ⟨rfl, rfl⟩
theorem sDig_t (c : Int) (w : World) (h : 48 ≤ c ∧ c ≤ 57) : Calls Try.prog 63 #[.int .u8 c] w fun e w' => e = .returned (.bool true) ∧ w' = w := by
  obtain ⟨h1, h2⟩ := h
  go_enter Try.func63, Try.ntmps63
  go_wp2
  go_ret
  exact ⟨ret_bool (by simp), rfl⟩
theorem sDig_f (c : Int) (w : World) (h : ¬ (48 ≤ c ∧ c ≤ 57)) : Calls Try.prog 63 #[.int .u8 c] w fun e w' => e = .returned (.bool false) ∧ w' = w := by
  by_cases h1 : 48 ≤ c
  · have h2 : ¬ c ≤ 57 := by omega
    clear h
    go_enter Try.func63, Try.ntmps63
    go_wp2
    go_ret
    exact ⟨ret_bool (by simp), rfl⟩
  · clear h
    go_enter Try.func63, Try.ntmps63
    go_wp2
    go_ret
    exact ⟨rfl, rfl⟩

theorem toList_loop_len (s : ByteArray) : ∀ n i r, s.size - i = n → (ByteArray.toList.loop s i r).length = r.length + n := by
  intro n
  induction n with
  | zero => intro i r h; unfold ByteArray.toList.loop; rw [if_neg (by omega)]; simp
  | succ n ih => intro i r h; unfold ByteArray.toList.loop; rw [if_pos (by omega), ih _ _ (by omega)]; simp; omega
theorem toList_len (s : ByteArray) : s.toList.length = s.size := by
  unfold ByteArray.toList; rw [toList_loop_len s s.size 0 [] (by omega)]; simp

set_option maxRecDepth 100000 in
set_option maxHeartbeats 2000000 in
theorem specIsName_same (s : ByteArray) (w : World) (hs : s.size ≤ 9223372036854775807) :
    Calls Try.prog 22 #[.string s] w fun e w' => e = .returned (.bool (nameB s)) ∧ w' = w := by
  rcases Nat.lt_or_ge s.size 1 with h1 | h1
  · have hn := Lib.hid (nameB_len (s := s) (.inl h1))
    obtain rfl : s = ByteArray.empty := by
      cases s with | mk d => (have : d = #[] := Array.eq_empty_of_size_eq_zero (by have : d.size < 1 := h1; omega)); rw [this]; rfl
    clear h1
    go_enter Try.func22, Try.ntmps22
    go_wp2
    go_ret
    exact ⟨ret_bool hn.out.symm, rfl⟩
  have hne1 : ¬ s.toList = [] := by
    intro h
    have h2 : s.toList.length = 0 := by rw [h]; rfl
    rw [toList_len] at h2
    omega
  have hne2 : (!s.toList.isEmpty) = true := by
    cases h : s.toList with
    | nil => exact absurd h hne1
    | cons _ _ => rfl
  have hne4 : s.toList.isEmpty = false := by cases h : s.toList with
    | nil => exact absurd h hne1
    | cons _ _ => rfl
  have hne3 : ¬ s = ByteArray.empty := by rintro rfl; exact absurd h1 (by decide)
  rcases Nat.lt_or_ge 12 s.size with h2 | h2
  · have hn := Lib.hid (nameB_len (s := s) (.inr h2))
    go_enter Try.func22, Try.ntmps22
    go_wp2
    go_ret
    exact ⟨ret_bool hn.out.symm, rfl⟩
  by_cases h0 : 97 ≤ ((s[0]'h1).toNat : Int) ∧ ((s[0]'h1).toNat : Int) ≤ 122
  · have c0 := fun w => sSmall_t ((s[0]'h1).toNat : Int) w h0
    have H0 := Lib.hid h0
    clear h0
    go_enter Try.func22, Try.ntmps22
    go_wp2_with (go_at_call 62; refine (c0 _).mono ?_; rintro e w' ⟨rfl, rfl⟩)
    go_loop [3] (fun i => ∃ k : Nat, k ≤ s.size ∧ i = .int .i64 k ∧ Hid (nmUpto s k)) (fun i => s.size - (intOf i).toNat)
    case atStart => exact ⟨0, Nat.zero_le _, rfl, Lib.hid (nmUpto_zero s)⟩
    case round =>
      obtain ⟨k, hk, rfl, hu⟩ := hrel
      clear c0
      by_cases hlt : k < s.size
      · obtain ⟨c, hc⟩ : ∃ c : UInt8, c = s[k]'hlt := ⟨_, rfl⟩
        have hgo := fun (h : nmP k c.toNat) => Lib.hid (nmUpto_succ hu.out hlt (hc ▸ h))
        have hno := fun (h : ¬ nmP k c.toNat) => Lib.hid (nameB_at hlt (fun h' => h (hc ▸ h')))
        have hk0 : k = 0 → 97 ≤ c.toNat ∧ c.toNat ≤ 122 := by rintro rfl; rw [hc]; have := H0.out; omega
        by_cases h97 : 97 ≤ (c.toNat : Int) ∧ (c.toNat : Int) ≤ 122
        · have c1 := fun w => sSmall_t (c.toNat : Int) w h97
          have HU := hgo (.inl (by omega))
          clear hno hgo h97 hk0
          rw [hc] at c1
          clear hc
          go_wp2_with (go_at_call 62; refine (c1 _).mono ?_; rintro e w' ⟨rfl, rfl⟩)
          go_round
          case rel => exact ⟨k + 1, by omega, by go_num, HU⟩
          case measure => simp [intOf]; omega
        · have c1 := fun w => sSmall_f (c.toNat : Int) w h97
          by_cases h48 : 48 ≤ (c.toNat : Int) ∧ (c.toNat : Int) ≤ 57
          · have c2 := fun w => sDig_t (c.toNat : Int) w h48
            have HU := hgo (.inr ⟨by rintro rfl; have := hk0 rfl; omega, .inl (by omega)⟩)
            clear hno hgo h97 hk0 h48
            rw [hc] at c1 c2
            clear hc
            go_wp2_with (first | (go_at_call 62; refine (c1 _).mono ?_; rintro e w' ⟨rfl, rfl⟩) | (go_at_call 63; refine (c2 _).mono ?_; rintro e w' ⟨rfl, rfl⟩))
            go_round
            case rel => exact ⟨k + 1, by omega, by go_num, HU⟩
            case measure => simp [intOf]; omega
          · have c2 := fun w => sDig_f (c.toNat : Int) w h48
            by_cases h45 : c.toNat = 45
            · have HU := hgo (.inr ⟨by rintro rfl; have := hk0 rfl; omega, .inr h45⟩)
              have h45b : (((s[k]'hlt).toNat : Int) != 45) = false := by rw [← hc, h45]; rfl
              have h45c : ((s[k]'hlt).toNat : Int) = 45 := by rw [← hc, h45]; rfl
              clear hno hgo h97 hk0 h48
              rw [hc] at c1 c2
              clear hc h45
              rw [h45c] at c1 c2
              go_wp2_with (first | (go_at_call 62; refine (c1 _).mono ?_; rintro e w' ⟨rfl, rfl⟩) | (go_at_call 63; refine (c2 _).mono ?_; rintro e w' ⟨rfl, rfl⟩))
              go_round
              case rel => exact ⟨k + 1, by omega, by go_num, HU⟩
              case measure => simp [intOf]; omega
            · have HN := hno (fun h => by rcases h with h | ⟨_, h | h⟩ <;> omega)
              have h45b : (((s[k]'hlt).toNat : Int) != 45) = true := by rw [← hc]; simp; omega
              have h45c : ¬ ((s[k]'hlt).toNat : Int) = 45 := by rw [← hc]; omega
              clear hno hgo h97 h48 h45 hk0
              rw [hc] at c1 c2
              clear hc
              go_wp2_with (first | (go_at_call 62; refine (c1 _).mono ?_; rintro e w' ⟨rfl, rfl⟩) | (go_at_call 63; refine (c2 _).mono ?_; rintro e w' ⟨rfl, rfl⟩))
              go_ret
              exact ⟨ret_bool HN.out.symm, rfl⟩
      · obtain rfl : k = s.size := by omega
        have hn := Lib.hid (nameB_true h1 h2 hu.out)
        go_wp2
        go_ret
        exact ⟨ret_bool hn.out.symm, rfl⟩
  · have HN := Lib.hid (nameB_at h1 (fun h => by rcases h with h | ⟨h, _⟩ <;> omega))
    have c0 := fun w => sSmall_f ((s[0]'h1).toNat : Int) w h0
    clear h0
    go_enter Try.func22, Try.ntmps22
    go_wp2_with (go_at_call 62; refine (c0 _).mono ?_; rintro e w' ⟨rfl, rfl⟩)
    go_ret
    exact ⟨ret_bool HN.out.symm, rfl⟩
theorem specIsName (s : ByteArray) (w : World) (hs : s.size ≤ 1048576) :
    Calls Try.prog 22 #[.string s] w fun e w' => e = .returned (.bool (nameB s)) ∧ Below w.heap.size w w' :=
  (specIsName_same s w (by omega)).mono fun _ _ ⟨h1, h2⟩ => ⟨h1, by rw [h2]; exact Below.refl _ _⟩
end Go.Proofs.Ytfhiialalglefaa
