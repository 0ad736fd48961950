/-
  GroupSignals: the model's (l07Groups: a list that grows, or whose last signal is joined).
-/
import Derived.Test.YtmdngcoccekdgaaPfxI
namespace Go.Proofs.Ytmdngcoccekdgaa
open Go.RowKit

/-- The signals of the groups of n digits among the first k. -/
def grp (n : Nat) (xs : List (Bool × Bool)) : Nat → List (Bool × Bool)
  | 0 => []
  | k + 1 => if k % n = 0 then grp n xs k ++ [elt sigF xs k] else (grp n xs k).set ((grp n xs k).length - 1) (jn (elt sigF (grp n xs k) ((grp n xs k).length - 1)) (elt sigF xs k))
theorem grp_pos (n : Nat) (xs : List (Bool × Bool)) {k : Nat} (h : 0 < k) : 0 < (grp n xs k).length := by
  induction k with
  | zero => omega
  | succ k ih =>
    by_cases hk : k = 0
    · subst hk; simp [grp]
    · simp only [grp]
      split
      · simp
      · simpa using ih (by omega)
theorem grp_le (n : Nat) (xs : List (Bool × Bool)) (k : Nat) : (grp n xs k).length ≤ k := by
  induction k with
  | zero => simp [grp]
  | succ k ih =>
    simp only [grp]
    split
    · simp; exact ih
    · simp; omega
theorem grp_push {n : Nat} {xs : List (Bool × Bool)} {k : Nat} (h : k % n = 0) : grp n xs (k + 1) = grp n xs k ++ [elt sigF xs k] := if_pos h
theorem grp_join {n : Nat} {xs : List (Bool × Bool)} {k m : Nat} (h : ¬ k % n = 0) (hm : (grp n xs k).length = m + 1) : grp n xs (k + 1) = (grp n xs k).set m (jn (elt sigF (grp n xs k) m) (elt sigF xs k)) := by
  rw [grp, if_neg h, hm]; rfl
def grR (xs : List (Bool × Bool)) (s : Int) : List (Bool × Bool) × Int := if (inB s 1 16 && inB (xs.length : Int) 1 16) = true then (grp s.toNat xs xs.length, 0) else ([], 2)
theorem grR_bad1 {xs : List (Bool × Bool)} {s : Int} (h : inB s 1 16 = false) : grR xs s = ([], 2) := by simp [grR, h]
theorem grR_bad2 {xs : List (Bool × Bool)} {s : Int} (h : inB (xs.length : Int) 1 16 = false) : grR xs s = ([], 2) := by simp [grR, h]
theorem grR_ok {xs : List (Bool × Bool)} {s : Int} (h : inB s 1 16 = true) (h2 : inB (xs.length : Int) 1 16 = true) : grR xs s = (grp s.toNat xs xs.length, 0) := by simp [grR, h, h2]

set_option maxRecDepth 100000 in
set_option maxHeartbeats 4000000 in
theorem l07Groups_any (a : Option Addr) (c : Nat) (xs : List (Bool × Bool)) (n : Nat) (w : World) (ha : RdF sigF w a xs) (hn : 0 < n) (hn2 : n ≤ 16) (hl : xs.length ≤ 16) :
    Calls Try.prog 94 #[.slice a xs.length c, .int .i64 (n : Int)] w fun e w' => ∃ A C, e = .returned (.slice A (grp n xs xs.length).length C) ∧
      OwnF sigF 122 w' w.heap.size w'.heap.size (.slice A (grp n xs xs.length).length C) (grp n xs xs.length) ∧ Below w.heap.size w w' := by
  have ow0 : OwnF sigF 122 (w.alloc (.cells #[] 122)) w.heap.size (w.alloc (.cells #[] 122)).heap.size (.slice (some ⟨w.heap.size, 0, none⟩) 0 0) (grp n xs 0) := (ownF_row (n := 0) (row_new 122 2 w #[] 0 (by simp) (by omega)) rfl (Nat.zero_le _)).wide (Nat.le_refl _) (by simp)
  go_enter Try.func94, Try.ntmps94
  go_wp2
  go_loopw [5, 6] (fun s i wr => ∃ (k m : Nat) (A : Option Addr) (C : Nat), k ≤ xs.length ∧ s = .slice A m C ∧ i = .int .i64 k ∧ Hid ((grp n xs k).length = m) ∧
      OwnF sigF 122 wr w.heap.size wr.heap.size (.slice A m C) (grp n xs k) ∧ Below w.heap.size w wr) (fun _ i _ => xs.length - (intOf i).toNat)
  case atStart => exact ⟨0, 0, _, 0, Nat.zero_le _, rfl, rfl, Lib.hid rfl, ow0, (Below.refl _ _).alloc (Nat.le_refl _) _⟩
  case round =>
    obtain ⟨k, m, A, C, hk, rfl, rfl, HM, hown, hb1⟩ := hrel
    clear ow0
    have hsz := hb1.size
    by_cases hlt : k < xs.length
    · obtain ⟨p1, o1, rfl, hc0, hc1⟩ := (ha.below hb1).atS hlt
      have hmod : (k : Int) % (n : Int) = ((k % n : Nat) : Int) := rfl
      have hn0 : ¬ (n : Int) = 0 := by omega
      have hml : m ≤ k := by have := grp_le n xs k; rw [HM.out] at this; exact this
      by_cases hr : k % n = 0
      · have he : ((k : Int) % (n : Int) == 0) = true := by rw [hmod, hr]; rfl
        have HS := Lib.hid (grp_push (xs := xs) hr)
        clear hmod hr
        obtain ⟨x, hx⟩ : ∃ x, x = elt sigF xs k := ⟨_, rfl⟩
        obtain ⟨ms, hms⟩ : ∃ ms, ms = grp n xs k := ⟨_, rfl⟩
        rw [← hms] at hown HS HM
        rw [← hx] at hc0 hc1 HS
        clear hms hx
        have row0 : Row 122 2 wr w.heap.size wr.heap.size (.slice A m C) m (flat sigF ms) := by have := hown.row; rw [HM.out] at this; exact this
        go_wp2_with (at_builtin; refine wpList_appR rfl (.tmp 18) (.tmp 23) 73 122 rfl (.agg #[.bool false, .bool false]) 2 2 Try.underlying73 info_Signal rfl (by omega) (by omega) rfl (row0.alloc _) ⟨wr.heap.size, 0, none⟩ 1 1 (flat sigF [x]) rfl rfl (sig_new wr x) flat_mem (by omega) (by simp; omega) ?_; intro A' C' w5 row5 ht5; have hS5 : Below w.heap.size w w5 := (hb1.alloc hsz _).trans (ht5.below (Nat.le_refl _) (by simp; omega)); have ow5 : OwnF sigF 122 w5 w.heap.size w5.heap.size (.slice A' (m + 1) C') (ms ++ [x]) := ownF_row (n := m + 1) (by rw [flat_append]; exact row5) (by have := HM.out; simp; omega) (by have := HM.out; simp; omega); clear row5 ht5)
        go_roundw
        case rel => exact ⟨k + 1, m + 1, A', C', by omega, rfl, by go_num, Lib.hid (by rw [HS.out]; simp [HM.out]), by rw [HS.out]; exact ow5, hS5⟩
        case measure => (simp [intOf]) <;> omega
      · have he : ((k : Int) % (n : Int) == 0) = false := by rw [hmod]; simp; omega
        have hk0 : 0 < k := by
          rcases Nat.eq_zero_or_pos k with h0 | h0
          · subst h0; simp at hr
          · exact h0
        obtain ⟨j, hj⟩ : ∃ j, m = j + 1 := ⟨m - 1, by have := grp_pos n xs hk0; rw [HM.out] at this; omega⟩
        have HS := Lib.hid (grp_join hr (HM.out.trans hj))
        have hjm : j < m := by omega
        clear hmod hr hk0
        obtain ⟨x, hx⟩ : ∃ x, x = elt sigF xs k := ⟨_, rfl⟩
        obtain ⟨ms, hms⟩ : ∃ ms, ms = grp n xs k := ⟨_, rfl⟩
        rw [← hms] at hown HS HM
        rw [← hx] at hc0 hc1 HS
        clear hms hx
        have hjl : j < ms.length := by rw [HM.out]; exact hjm
        obtain ⟨g, rfl, hg1, hg2, hg3⟩ := hown.head (by omega)
        obtain ⟨q0, q1⟩ := hown.getS (k := j) hjl
        obtain ⟨y, hy⟩ : ∃ y, y = elt sigF ms j := ⟨_, rfl⟩
        rw [← hy] at q0 q1 HS
        clear hy
        have hv1 : IntKind.i64.wrap ((m : Int) - 1) = (j : Nat) := by rw [show (m : Int) - 1 = (j : Nat) by omega]; exact fits_int _ (by omega) (by omega)
        replace hj := Lib.hid hj
        have HJ := Lib.hid hjl
        clear hjl
        have k0 := kept_all q0
        have k1 := kept_all q1
        have k2 := kept_all hc0
        have k3 := kept_all hc1
        have hi1 : (0 : Int) ≤ (j : Int) ∧ (j : Int) < (m : Int) := by omega
        have hi2 : (0 : Int) ≤ (k : Int) ∧ (k : Int) < (xs.length : Int) := by omega
        clear hc0 hc1 q0 q1
        go_upto_region 7 with fail
        refine wp_region_marked (fun w' => Below wr.heap.size wr w') 16 (by kernel_rfl) ?_
        have hS : Below wr.heap.size wr wr.drew := (Below.refl _ _).drew
        refine wpAnyM_takeC (i := 0) (v := ?_) 20 rfl (by kernel_rfl) (by kernel_rfl) (by kernel_rfl) (by kernel_rfl) (by kernel_rfl) (by kernel_rfl) (fun _ _ _ h => h) hS (.inl ⟨by rfl, ?_⟩) ?_
        rotate_left 1
        · intro w' hS'; go_simp; try with_reducible rfl
        simp only [Act.put, List.setIfInBounds_toArray]
        refine wpAnyM_takeC (i := 1) (v := ?_) 20 rfl (by kernel_rfl) (by kernel_rfl) (by kernel_rfl) (by kernel_rfl) (by kernel_rfl) (by kernel_rfl) (fun _ _ _ h => h) hS (.inl ⟨by rfl, ?_⟩) ?_
        rotate_left 1
        · intro w' hS'; go_simp; try with_reducible rfl
        simp only [Act.put]
        refine wpAnyM_takeC (i := 2) (v := ?_) 20 rfl (by kernel_rfl) (by kernel_rfl) (by kernel_rfl) (by kernel_rfl) (by kernel_rfl) (by kernel_rfl) (fun _ _ _ h => h) hS (.inl ⟨by rfl, ?_⟩) ?_
        rotate_left 1
        · intro w' hS'; go_simp; try with_reducible rfl
        simp only [Act.put]
        refine wpAnyM_takeC (i := 3) (v := ?_) 20 rfl (by kernel_rfl) (by kernel_rfl) (by kernel_rfl) (by kernel_rfl) (by kernel_rfl) (by kernel_rfl) (fun _ _ _ h => h) hS (.inl ⟨by rfl, ?_⟩) ?_
        rotate_left 1
        · intro w' hS'; go_simp; try with_reducible rfl
        simp only [Act.put]
        refine wpAnyM_takeC (i := 4) (v := ?_) 20 rfl (by kernel_rfl) (by kernel_rfl) (by kernel_rfl) (by kernel_rfl) (by kernel_rfl) (by kernel_rfl) (fun _ _ _ h => h) hS (.inl ⟨by rfl, ?_⟩) ?_
        rotate_left 1
        · intro w' hS'; go_simp; try with_reducible rfl
        simp only [Act.put]
        refine wpAnyM_takeC (i := 5) (v := ?_) 20 rfl (by kernel_rfl) (by kernel_rfl) (by kernel_rfl) (by kernel_rfl) (by kernel_rfl) (by kernel_rfl) (fun _ _ _ h => h) hS (.inl ⟨by rfl, ?_⟩) ?_
        rotate_left 1
        · intro w' hS'; go_simp; try with_reducible rfl
        simp only [Act.put]
        refine wpAnyM_takeC (i := 6) (v := ?_) 20 rfl (by kernel_rfl) (by kernel_rfl) (by kernel_rfl) (by kernel_rfl) (by kernel_rfl) (by kernel_rfl) (fun _ _ _ h => h) hS (.inl ⟨by rfl, ?_⟩) ?_
        rotate_left 1
        · intro w' hS'; go_simp; try with_reducible rfl
        simp only [Act.put]
        refine wpAnyM_takeC (i := 7) (v := ?_) 20 rfl (by kernel_rfl) (by kernel_rfl) (by kernel_rfl) (by kernel_rfl) (by kernel_rfl) (by kernel_rfl) (fun _ _ _ h => h) hS (.inl ⟨by rfl, ?_⟩) ?_
        rotate_left 1
        · intro w' hS'; go_simp; try with_reducible rfl
        simp only [Act.put]
        refine wpAnyM_takeC (i := 8) (v := ?_) 20 rfl (by kernel_rfl) (by kernel_rfl) (by kernel_rfl) (by kernel_rfl) (by kernel_rfl) (by kernel_rfl) (fun _ _ _ h => h) hS (.inl ⟨by rfl, ?_⟩) ?_
        rotate_left 1
        · intro w' hS'; go_simp; try with_reducible rfl
        simp only [Act.put]
        refine wpAnyM_takeC (i := 9) (v := ?_) 20 rfl (by kernel_rfl) (by kernel_rfl) (by kernel_rfl) (by kernel_rfl) (by kernel_rfl) (by kernel_rfl) (fun _ _ _ h => h) hS (.inl ⟨by rfl, ?_⟩) ?_
        rotate_left 1
        · intro w' hS'; go_simp; try with_reducible rfl
        simp only [Act.put]
        refine wpAnyM_takeC (i := 10) (v := ?_) 20 rfl (by kernel_rfl) (by kernel_rfl) (by kernel_rfl) (by kernel_rfl) (by kernel_rfl) (by kernel_rfl) (fun _ _ _ h => h) hS (.inl ⟨by rfl, ?_⟩) ?_
        rotate_left 1
        · intro w' hS'; go_simp; try with_reducible rfl
        simp only [Act.put]
        refine wpAnyM_takeC (i := 11) (v := ?_) 20 rfl (by kernel_rfl) (by kernel_rfl) (by kernel_rfl) (by kernel_rfl) (by kernel_rfl) (by kernel_rfl) (fun _ _ _ h => h) hS (.inl ⟨by rfl, ?_⟩) ?_
        rotate_left 1
        · intro w' hS'; go_simp; try with_reducible rfl
        simp only [Act.put]
        refine wpAnyM_takeC (i := 12) (v := ?_) 20 rfl (by kernel_rfl) (by kernel_rfl) (by kernel_rfl) (by kernel_rfl) (by kernel_rfl) (by kernel_rfl) (fun _ _ _ h => h) hS (.inl ⟨by rfl, ?_⟩) ?_
        rotate_left 1
        · intro w' hS'; go_simp; try with_reducible rfl
        simp only [Act.put]
        refine wpAnyM_takeC (i := 13) (v := ?_) 20 rfl (by kernel_rfl) (by kernel_rfl) (by kernel_rfl) (by kernel_rfl) (by kernel_rfl) (by kernel_rfl) (fun _ _ _ h => h) hS (.inl ⟨by rfl, ?_⟩) ?_
        rotate_left 1
        · intro w' hS'; go_simp; try with_reducible rfl
        simp only [Act.put]
        clear k0 k1 k2 k3 hv1
        refine wpAnyM_one (i := 14) (by kernel_rfl) rfl (by rfl) (fun K hK => ?_)
        go_simp
        refine (specJoinSignals y x wr.drew).mono ?_
        rintro e w1 ⟨rfl, hb2⟩
        have hS1 : Below wr.heap.size wr w1 := hS.trans hb2
        have ow1 : OwnF sigF 122 w1 w.heap.size wr.heap.size (.slice (some ⟨g, 0, none⟩) m C) ms := hown.drew.below hb2
        have hs1 : wr.heap.size ≤ w1.heap.size := hS1.size
        obtain ⟨q0, q1⟩ := ow1.getS (k := j) HJ.out
        have f0 := ow1.thaw (j * 2)
        have f1 := ow1.thaw (j * 2 + 1)
        have HP := Lib.hid (ow1.putS (k := j) HJ.out (jn y x))
        have hbw : Below w.heap.size w w1 := hb1.trans (hS1.mono hsz)
        clear hown ow1
        refine hK _ _ (.inr hS1) ?_
        try simp only [Act.put, List.setIfInBounds_toArray]
        clear hK K
        refine wpAnyM_one (i := 15) (by kernel_rfl) rfl (by rfl) (fun K hK => ?_)
        go_simp
        refine hK _ _ (.inr hS1) ?_
        clear hK K
        try simp only [Act.put, List.setIfInBounds_toArray]
        refine wpAnyM_one (i := 16) (by kernel_rfl) rfl (by rfl) (fun K hK => ?_)
        go_simp
        refine hK _ _ (.inl rfl) ?_
        clear hK K
        refine wpAnyM_done (by kernel_rfl) ?_ _
        clear q0 q1 f0 f1
        go_wp2
        go_roundw
        case rel => exact ⟨k + 1, m, _, C, by omega, rfl, by go_num, Lib.hid (by rw [HS.out]; simp [HM.out]), by rw [HS.out]; exact HP.out.wide (Nat.le_refl _) (by simpa using hs1), (by repeat (first | exact hbw | refine Below.setCell ?_ (by first | omega | (simp <;> omega)) _ | refine Below.alloc ?_ (by first | omega | (simp <;> omega)) _ | refine Below.drew ?_))⟩
        case measure => (simp [intOf]) <;> omega
    · obtain rfl : k = xs.length := by omega
      go_wp2
      go_ret
      exact ⟨A, C, by rw [HM.out]; rfl, by rw [HM.out]; exact hown, hb1⟩

set_option maxRecDepth 100000 in
set_option maxHeartbeats 1000000 in
theorem specGroupSignals (a : Option Addr) (c : Nat) (xs : List (Bool × Bool)) (s : Int) (w : World) (ha : RdF sigF w a xs) (_ : I64 s) :
    Calls Try.prog 51 #[.slice a xs.length c, .int .i64 s] w (SgC (grR xs s) w) := by
  have hx := ha.len
  have HA := fun b h v => Lib.hid (l07Size_at (b := b) (xs.length : Int) v h)
  have HB := fun b h v => Lib.hid (l07Size_at (b := b) s v h)
  cases h0 : inB s 1 16 with
  | false =>
    have HR := Lib.hid (grR_bad1 (xs := xs) h0)
    replace HB := HB _ h0
    clear h0 HA
    go_enter Try.func51, Try.ntmps51
    go_wp2_with (go_at_call 93; refine (HB _).out.mono ?_; rintro e w1 ⟨rfl, hq⟩; subst w1)
    exact bodyPost_ret (v := .tuple #[.slice none 0 0, .int .i64 2]) (by simp [results, Try.results51, go_sem]) rfl (sgC_err HR.out rfl (Below.refl _ _))
  | true =>
    replace HB := HB _ h0
    cases h1 : inB (xs.length : Int) 1 16 with
    | false =>
      have HR := Lib.hid (grR_bad2 (s := s) h1)
      replace HA := HA _ h1
      clear h0 h1
      go_enter Try.func51, Try.ntmps51
      go_wp2_with fail
      refine (HB _).out.mono ?_
      rintro e w1 ⟨rfl, hq⟩
      subst w1
      go_wp2_with fail
      refine (HA _).out.mono ?_
      rintro e w1 ⟨rfl, hq⟩
      subst w1
      go_wp2
      exact bodyPost_ret (v := .tuple #[.slice none 0 0, .int .i64 2]) (by simp [results, Try.results51, go_sem]) rfl (sgC_err HR.out rfl (Below.refl _ _))
    | true =>
      have HR := Lib.hid (grR_ok h0 h1)
      replace HA := HA _ h1
      obtain ⟨n1, n2⟩ := inB_true h1
      obtain ⟨s1, s2⟩ := inB_true h0
      clear h0 h1
      obtain ⟨n, rfl⟩ : ∃ n : Nat, s = n := ⟨s.toNat, by omega⟩
      rw [Int.toNat_natCast] at HR
      go_enter Try.func51, Try.ntmps51
      go_wp2_with fail
      refine (HB _).out.mono ?_
      rintro e w1 ⟨rfl, hq⟩
      subst w1
      go_wp2_with fail
      refine (HA _).out.mono ?_
      rintro e w1 ⟨rfl, hq⟩
      subst w1
      go_wp2_with fail
      refine (l07Groups_any a c xs n w ha (by omega) (by omega) (by omega)).mono ?_
      rintro e w1 ⟨A, C, rfl, ow, hb⟩
      go_wp2
      exact bodyPost_ret (v := .tuple #[.slice A (grp n xs xs.length).length C, .int .i64 0]) (by simp [results, Try.results51, go_sem]) rfl (sgC_ok HR.out rfl rfl ow (Nat.le_refl _) (Nat.le_refl _) hb)
end Go.Proofs.Ytmdngcoccekdgaa
