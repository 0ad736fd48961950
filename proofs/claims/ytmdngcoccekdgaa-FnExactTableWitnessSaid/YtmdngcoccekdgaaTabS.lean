/-
  spec.l08Right, l08Table, RightTable.
-/
import Derived.Test.YtmdngcoccekdgaaTabM
import Derived.Test.YtmdngcoccekdgaaAddRowS
import Derived.Test.YtmdngcoccekdgaaOrdC
import Derived.Test.YtmdngcoccekdgaaOkS
import Derived.Test.YtmdngcoccekdgaaAppR
import Derived.Deep.Cut
namespace Go.Proofs.Ytmdngcoccekdgaa
open Go.RowKit

/-- A row as a value. -/
def rowV (r : Row5) : Value := .agg #[.int .i64 r.1, .int .i64 r.2.1, .int .i64 r.2.2.1, .int .i64 r.2.2.2.1, .int .i64 r.2.2.2.2]

set_option maxRecDepth 100000 in
set_option maxHeartbeats 2000000 in
theorem l08Right_any (m i a c : Nat) (w : World) (hm : 2 ≤ m) (hm2 : m ≤ 16) (hi : i ≤ 1000) (ha : a ≤ 1000) (hc : c ≤ 1000) :
    Calls Try.prog 102 #[.int .i64 (m : Int), .int .i64 (i : Int), .int .i64 (a : Int), .int .i64 (c : Int)] w fun e w' => e = .returned (.agg #[.int .i64 (mkRow m i a c).1, .int .i64 (mkRow m i a c).2.1, .int .i64 (mkRow m i a c).2.2.1, .int .i64 (mkRow m i a c).2.2.2.1, .int .i64 (mkRow m i a c).2.2.2.2]) ∧ Below w.heap.size w w' := by
  obtain ⟨s, hs⟩ : ∃ s, s = i + a + c := ⟨_, rfl⟩
  have hw1 : IntKind.i64.wrap ((i : Int) + (a : Int)) = (i : Int) + a := IntWalk.i64_in _ (by omega)
  have hw2 : IntKind.i64.wrap ((i : Int) + (a : Int) + (c : Int)) = (s : Int) := by rw [IntWalk.i64_in _ (by omega)]; omega
  have hr : (s : Int).tmod (m : Int) = ((s % m : Nat) : Int) := by rw [← Int.ofNat_tmod]
  have hq : (s : Int).tdiv (m : Int) = ((s / m : Nat) : Int) := by rw [← Int.ofNat_tdiv]
  have hqb : s / m ≤ s := Nat.div_le_self _ _
  have hrb : s % m < m := Nat.mod_lt _ (by omega)
  have hm0 : ¬ m = 0 := by omega
  have HS := Lib.hid hs
  obtain ⟨rr, hrr⟩ : ∃ rr, rr = s % m := ⟨_, rfl⟩
  obtain ⟨qq, hqq⟩ : ∃ qq, qq = s / m := ⟨_, rfl⟩
  rw [← hrr] at hr hrb
  rw [← hqq] at hq hqb
  have hw3 : IntKind.i64.wrap (qq : Int) = (qq : Int) := IntWalk.i64_in _ (by omega)
  have HR := Lib.hid (show mkRow m i a c = ((i : Int), (a : Int), (c : Int), (rr : Int), (qq : Int)) by rw [mkRow, ← hs, ← hrr, ← hqq])
  rw [HR.out]
  clear hs hrr hqq
  go_enter Try.func102, Try.ntmps102
  go_wp2_with fail
  go_upto_region 2 with fail
  obtain ⟨V, hV⟩ : ∃ V, V = w.alloc (.cells #[.int .i64 0, .int .i64 0, .int .i64 0, .int .i64 0, .int .i64 0] 88) := ⟨_, rfl⟩
  obtain ⟨g, hg⟩ : ∃ g, g = w.heap.size := ⟨_, rfl⟩
  have bx : Bx V g 88 #[.int .i64 0, .int .i64 0, .int .i64 0, .int .i64 0, .int .i64 0] := by rw [hV, hg]; exact Bx.new _ _ _
  have hbel : Below g w V := by rw [hV, hg]; exact (Below.refl _ _).alloc (Nat.le_refl _) _
  rw [← hV, ← hg]
  have HG := Lib.hid hg
  clear hV hg
  refine wp_region_marked (fun w' => w' = V.drew) 10 (by kernel_rfl) ?_
  obtain ⟨D, hD⟩ : ∃ D, D = V.drew := ⟨_, rfl⟩
  replace bx : Bx D g 88 #[.int .i64 0, .int .i64 0, .int .i64 0, .int .i64 0, .int .i64 0] := by rw [hD]; exact bx.drew
  replace hbel : Below g w D := by rw [hD]; exact hbel.drew
  rw [← hD]
  clear hD
  have b0 := bx.at_ 0 rfl
  have b1 := bx.at_ 1 rfl
  have b2 := bx.at_ 2 rfl
  have b3 := bx.at_ 3 rfl
  have b4 := bx.at_ 4 rfl
  have f0 := bx.thaw 0
  have f1 := bx.thaw 1
  have f2 := bx.thaw 2
  have f3 := bx.thaw 3
  have f4 := bx.thaw 4
  refine wpAnyM_take (i := 0) (v := ?_) rfl (by kernel_rfl) (by kernel_rfl) (by kernel_rfl) (by kernel_rfl) (by kernel_rfl) (fun _ _ _ h => h) rfl (.inl ⟨by rfl, ?_⟩) ?_
  rotate_left 1
  · intro w' hS'; go_simp; try with_reducible rfl
  simp only [Act.put, List.setIfInBounds_toArray]
  refine wpAnyM_take (i := 1) (v := ?_) rfl (by kernel_rfl) (by kernel_rfl) (by kernel_rfl) (by kernel_rfl) (by kernel_rfl) (fun _ _ _ h => h) rfl (.inl ⟨by rfl, ?_⟩) ?_
  rotate_left 1
  · intro w' hS'; go_simp; try with_reducible rfl
  simp only [Act.put]
  refine wpAnyM_take (i := 2) (v := ?_) rfl (by kernel_rfl) (by kernel_rfl) (by kernel_rfl) (by kernel_rfl) (by kernel_rfl) (fun _ _ _ h => h) rfl (.inl ⟨by rfl, ?_⟩) ?_
  rotate_left 1
  · intro w' hS'; go_simp; try with_reducible rfl
  simp only [Act.put]
  refine wpAnyM_take (i := 3) (v := ?_) rfl (by kernel_rfl) (by kernel_rfl) (by kernel_rfl) (by kernel_rfl) (by kernel_rfl) (fun _ _ _ h => h) rfl (.inl ⟨by rfl, ?_⟩) ?_
  rotate_left 1
  · intro w' hS'; go_simp; try with_reducible rfl
  simp only [Act.put]
  refine wpAnyM_take (i := 4) (v := ?_) rfl (by kernel_rfl) (by kernel_rfl) (by kernel_rfl) (by kernel_rfl) (by kernel_rfl) (fun _ _ _ h => h) rfl (.inl ⟨by rfl, ?_⟩) ?_
  rotate_left 1
  · intro w' hS'; go_simp; try with_reducible rfl
  simp only [Act.put]
  refine wpAnyM_take (i := 5) (v := ?_) rfl (by kernel_rfl) (by kernel_rfl) (by kernel_rfl) (by kernel_rfl) (by kernel_rfl) (fun _ _ _ h => h) rfl (.inl ⟨by rfl, ?_⟩) ?_
  rotate_left 1
  · intro w' hS'; go_simp; try with_reducible rfl
  simp only [Act.put]
  refine wpAnyM_take (i := 6) (v := ?_) rfl (by kernel_rfl) (by kernel_rfl) (by kernel_rfl) (by kernel_rfl) (by kernel_rfl) (fun _ _ _ h => h) rfl (.inl ⟨by rfl, ?_⟩) ?_
  rotate_left 1
  · intro w' hS'; go_simp; try with_reducible rfl
  simp only [Act.put]
  refine wpAnyM_take (i := 7) (v := ?_) rfl (by kernel_rfl) (by kernel_rfl) (by kernel_rfl) (by kernel_rfl) (by kernel_rfl) (fun _ _ _ h => h) rfl (.inl ⟨by rfl, ?_⟩) ?_
  rotate_left 1
  · intro w' hS'; go_simp; try with_reducible rfl
  simp only [Act.put]
  refine wpAnyM_take (i := 8) (v := ?_) rfl (by kernel_rfl) (by kernel_rfl) (by kernel_rfl) (by kernel_rfl) (by kernel_rfl) (fun _ _ _ h => h) rfl (.inl ⟨by rfl, ?_⟩) ?_
  rotate_left 1
  · intro w' hS'; go_simp; try with_reducible rfl
  simp only [Act.put]
  refine wpAnyM_take (i := 9) (v := ?_) rfl (by kernel_rfl) (by kernel_rfl) (by kernel_rfl) (by kernel_rfl) (by kernel_rfl) (fun _ _ _ h => h) rfl (.inl ⟨by rfl, ?_⟩) ?_
  rotate_left 1
  · intro w' hS'; go_simp; try with_reducible rfl
  simp only [Act.put]
  refine wpAnyM_one (i := 10) (by kernel_rfl) rfl (by rfl) (fun K hK => ?_)
  go_simp
  obtain ⟨Z, hZ⟩ : ∃ Z, Z = ((((D.setCell ⟨g, 0, none⟩ (.int .i64 (i : Int))).setCell ⟨g, 1, none⟩ (.int .i64 (a : Int))).setCell ⟨g, 2, none⟩ (.int .i64 (c : Int))).setCell ⟨g, 3, none⟩ (.int .i64 (rr : Int))).setCell ⟨g, 4, none⟩ (.int .i64 (qq : Int)) := ⟨_, rfl⟩
  rw [← hZ]
  have bz : Bx Z g 88 #[.int .i64 (i : Int), .int .i64 (a : Int), .int .i64 (c : Int), .int .i64 (rr : Int), .int .i64 (qq : Int)] := by
    rw [hZ]; exact ((((bx.set_ 0 _).set_ 1 _).set_ 2 _).set_ 3 _).set_ 4 _
  have hbz : Below g w Z := by
    rw [hZ]
    have h1 := hbel.setCell (p := ⟨g, 0, none⟩) (Nat.le_refl _) (.int .i64 (i : Int))
    have h2 := h1.setCell (p := ⟨g, 1, none⟩) (Nat.le_refl _) (.int .i64 (a : Int))
    have h3 := h2.setCell (p := ⟨g, 2, none⟩) (Nat.le_refl _) (.int .i64 (c : Int))
    have h4 := h3.setCell (p := ⟨g, 3, none⟩) (Nat.le_refl _) (.int .i64 (rr : Int))
    exact h4.setCell (p := ⟨g, 4, none⟩) (Nat.le_refl _) (.int .i64 (qq : Int))
  clear hZ b0 b1 b2 b3 b4 f0 f1 f2 f3 f4
  refine hK _ _ (.inl rfl) ?_
  clear hK K
  refine wpAnyM_done (by kernel_rfl) ?_ _
  have b0 := bz.at_ 0 rfl
  have b1 := bz.at_ 1 rfl
  have b2 := bz.at_ 2 rfl
  have b3 := bz.at_ 3 rfl
  have b4 := bz.at_ 4 rfl
  go_wp2_with fail
  exact bodyPost_ret (v := .agg #[.int .i64 (i : Int), .int .i64 (a : Int), .int .i64 (c : Int), .int .i64 (rr : Int), .int .i64 (qq : Int)]) (by simp [results, Try.results102, go_sem, b0, b1, b2, b3, b4]) rfl ⟨rfl, by rw [← HG.out]; exact hbz⟩

theorem row_new5 (w : World) (r : Row5) : ∀ (i : Nat) (u : Value), (flat quinF [r])[i]? = some u → (w.alloc (.cells #[.int .i64 r.1, .int .i64 r.2.1, .int .i64 r.2.2.1, .int .i64 r.2.2.2.1, .int .i64 r.2.2.2.2] 88)).cell? ((⟨w.heap.size, 0, none⟩ : Addr).add i) = some u := by
  intro i u hu
  have hbx := Bx.new w #[.int .i64 r.1, .int .i64 r.2.1, .int .i64 r.2.2.1, .int .i64 r.2.2.2.1, .int .i64 r.2.2.2.2] 88
  match i, hu with
  | 0, hu => simp [flat, quinF] at hu; subst hu; exact hbx.at_ 0 rfl
  | 1, hu => simp [flat, quinF] at hu; subst hu; exact hbx.at_ 1 rfl
  | 2, hu => simp [flat, quinF] at hu; subst hu; exact hbx.at_ 2 rfl
  | 3, hu => simp [flat, quinF] at hu; subst hu; exact hbx.at_ 3 rfl
  | 4, hu => simp [flat, quinF] at hu; subst hu; exact hbx.at_ 4 rfl

theorem two_sq {m : Nat} (h : m ≤ 16) : 2 * m * m ≤ 512 := by
  have h1 : 2 * m ≤ 32 := by omega
  exact Nat.mul_le_mul h1 h

set_option maxRecDepth 100000 in
set_option maxHeartbeats 4000000 in
theorem l08Table_any (m : Nat) (w : World) (hm : 2 ≤ m) (hm2 : m ≤ 16) :
    Calls Try.prog 60 #[.int .i64 (m : Int)] w fun e w' => ∃ A C, e = .returned (.slice A (2 * m * m) C) ∧
      OwnF quinF 88 w' w.heap.size w'.heap.size (.slice A (2 * m * m) C) (tbl m (2 * m * m)) ∧ Below w.heap.size w w' := by
  obtain ⟨n, hn⟩ : ∃ n, n = 2 * m * m := ⟨_, rfl⟩
  have hn2 : n ≤ 512 := by rw [hn]; exact two_sq hm2
  have hv1 : IntKind.i64.wrap (2 * (m : Int)) = 2 * (m : Int) := IntWalk.i64_in _ (by omega)
  have hv2 : IntKind.i64.wrap (2 * (m : Int) * (m : Int)) = (n : Int) := by
    have e : 2 * (m : Int) * (m : Int) = (n : Int) := by rw [hn]; simp
    rw [e]; exact IntWalk.i64_in _ (by omega)
  rw [← hn]
  clear hn
  have hm0 : ¬ m = 0 := by omega
  go_enter Try.func60, Try.ntmps60
  have ow0 : OwnF quinF 88 (w.alloc (.cells #[] 88)) w.heap.size (w.alloc (.cells #[] 88)).heap.size (.slice (some ⟨w.heap.size, 0, none⟩) 0 0) [] := (ownF_row (n := 0) (row_new 88 5 w #[] 0 (by simp) (by omega)) rfl (by simp)).wide (Nat.le_refl _) (by simp)
  go_wp2
  go_loopw [3, 4] (fun s i wr => ∃ (k : Nat) (A : Option Addr) (C : Nat), k ≤ n ∧ s = .slice A k C ∧ i = .int .i64 k ∧
      OwnF quinF 88 wr w.heap.size wr.heap.size (.slice A k C) (tbl m k) ∧ Below w.heap.size w wr) (fun _ i _ => n - (intOf i).toNat)
  case atStart => exact ⟨0, _, 0, Nat.zero_le _, rfl, rfl, ow0, (Below.refl _ _).alloc (Nat.le_refl _) _⟩
  case round =>
    obtain ⟨k, A, C, hk, rfl, rfl, hown, hbel⟩ := hrel
    have hsz := hbel.size
    by_cases hlt : k < n
    · obtain ⟨q1, hq1⟩ : ∃ q1, q1 = k / m := ⟨_, rfl⟩
      obtain ⟨q2, hq2⟩ : ∃ q2, q2 = q1 / m := ⟨_, rfl⟩
      obtain ⟨r1, hr1⟩ : ∃ r1, r1 = q1 % m := ⟨_, rfl⟩
      obtain ⟨r0, hr0⟩ : ∃ r0, r0 = k % m := ⟨_, rfl⟩
      have HN := Lib.hid (show rowN m k = mkRow m q2 r1 r0 by rw [rowN, ← hq1, ← hq2, ← hr1, ← hr0])
      have b1 : q1 ≤ k := by rw [hq1]; exact Nat.div_le_self _ _
      have b2 : q2 ≤ q1 := by rw [hq2]; exact Nat.div_le_self _ _
      have b2' : q2 ≤ 1000 := by omega
      have b3 : r1 < m := by rw [hr1]; exact Nat.mod_lt _ (by omega)
      have b4 : r0 < m := by rw [hr0]; exact Nat.mod_lt _ (by omega)
      have e1 : (k : Int).tdiv (m : Int) = (q1 : Int) := by rw [hq1, ← Int.ofNat_tdiv]
      have e2 : (q1 : Int).tdiv (m : Int) = (q2 : Int) := by rw [hq2, ← Int.ofNat_tdiv]
      have e3 : (q1 : Int).tmod (m : Int) = (r1 : Int) := by rw [hr1, ← Int.ofNat_tmod]
      have e4 : (k : Int).tmod (m : Int) = (r0 : Int) := by rw [hr0, ← Int.ofNat_tmod]
      have w1 : IntKind.i64.wrap (q1 : Int) = (q1 : Int) := IntWalk.i64_in _ (by omega)
      have w2 : IntKind.i64.wrap (q2 : Int) = (q2 : Int) := IntWalk.i64_in _ (by omega)
      clear hq1 hq2 hr1 hr0
      obtain ⟨ms, hms⟩ : ∃ ms, ms = tbl m k := ⟨_, rfl⟩
      have HT := Lib.hid (show tbl m (k + 1) = ms ++ [mkRow m q2 r1 r0] by rw [tbl_succ, hms, HN.out])
      have HL := Lib.hid (show ms.length = k by rw [hms, tbl_len])
      rw [← hms] at hown
      clear hms HN
      have row0 : Row 88 5 wr w.heap.size wr.heap.size (.slice A k C) k (flat quinF ms) := by have := hown.row; rw [HL.out] at this; exact this
      have HC := Lib.hid (l08Right_any m q2 r1 r0 wr.drew hm hm2 b2' (by omega) (by omega))
      obtain ⟨r, hr⟩ : ∃ r, r = mkRow m q2 r1 r0 := ⟨_, rfl⟩
      rw [← hr] at HT HC
      clear hr
      go_wp2
      refine wp_region_marked (fun w' => Below w.heap.size wr w') 17 (by kernel_rfl) ?_
      have hS : Below w.heap.size wr wr.drew := (Below.refl _ _).drew
      refine wpAnyM_takeC (i := 0) (v := ?_) 6 rfl (by kernel_rfl) (by kernel_rfl) (by kernel_rfl) (by kernel_rfl) (by kernel_rfl) (by kernel_rfl) (fun _ _ _ h => h) hS (.inl ⟨by rfl, ?_⟩) ?_
      rotate_left 1
      · intro w' hS'; go_simp; try with_reducible rfl
      simp only [Act.put, List.setIfInBounds_toArray]
      refine wpAnyM_takeC (i := 1) (v := ?_) 6 rfl (by kernel_rfl) (by kernel_rfl) (by kernel_rfl) (by kernel_rfl) (by kernel_rfl) (by kernel_rfl) (fun _ _ _ h => h) hS (.inl ⟨by rfl, ?_⟩) ?_
      rotate_left 1
      · intro w' hS'; go_simp; try with_reducible rfl
      simp only [Act.put]
      refine wpAnyM_takeC (i := 2) (v := ?_) 6 rfl (by kernel_rfl) (by kernel_rfl) (by kernel_rfl) (by kernel_rfl) (by kernel_rfl) (by kernel_rfl) (fun _ _ _ h => h) hS (.inl ⟨by rfl, ?_⟩) ?_
      rotate_left 1
      · intro w' hS'; go_simp; try with_reducible rfl
      simp only [Act.put]
      refine wpAnyM_takeC (i := 3) (v := ?_) 6 rfl (by kernel_rfl) (by kernel_rfl) (by kernel_rfl) (by kernel_rfl) (by kernel_rfl) (by kernel_rfl) (fun _ _ _ h => h) hS (.inl ⟨by rfl, ?_⟩) ?_
      rotate_left 1
      · intro w' hS'; go_simp; try with_reducible rfl
      simp only [Act.put]
      refine wpAnyM_takeC (i := 4) (v := ?_) 6 rfl (by kernel_rfl) (by kernel_rfl) (by kernel_rfl) (by kernel_rfl) (by kernel_rfl) (by kernel_rfl) (fun _ _ _ h => h) hS (.inl ⟨by rfl, ?_⟩) ?_
      rotate_left 1
      · intro w' hS'; go_simp; try with_reducible rfl
      simp only [Act.put]
      refine wpAnyM_takeC (i := 5) (v := ?_) 6 rfl (by kernel_rfl) (by kernel_rfl) (by kernel_rfl) (by kernel_rfl) (by kernel_rfl) (by kernel_rfl) (fun _ _ _ h => h) hS (.inl ⟨by rfl, ?_⟩) ?_
      rotate_left 1
      · intro w' hS'; go_simp; try with_reducible rfl
      simp only [Act.put]
      refine wpAnyM_takeC (i := 6) (v := ?_) 6 rfl (by kernel_rfl) (by kernel_rfl) (by kernel_rfl) (by kernel_rfl) (by kernel_rfl) (by kernel_rfl) (fun _ _ _ h => h) hS (.inl ⟨by rfl, ?_⟩) ?_
      rotate_left 1
      · intro w' hS'; go_simp; try with_reducible rfl
      simp only [Act.put]
      refine wpAnyM_takeC (i := 7) (v := ?_) 6 rfl (by kernel_rfl) (by kernel_rfl) (by kernel_rfl) (by kernel_rfl) (by kernel_rfl) (by kernel_rfl) (fun _ _ _ h => h) hS (.inl ⟨by rfl, ?_⟩) ?_
      rotate_left 1
      · intro w' hS'; go_simp; try with_reducible rfl
      simp only [Act.put]
      refine wpAnyM_takeC (i := 8) (v := ?_) 6 rfl (by kernel_rfl) (by kernel_rfl) (by kernel_rfl) (by kernel_rfl) (by kernel_rfl) (by kernel_rfl) (fun _ _ _ h => h) hS (.inl ⟨by rfl, ?_⟩) ?_
      rotate_left 1
      · intro w' hS'; go_simp; try with_reducible rfl
      simp only [Act.put]
      refine wpAnyM_takeC (i := 9) (v := ?_) 6 rfl (by kernel_rfl) (by kernel_rfl) (by kernel_rfl) (by kernel_rfl) (by kernel_rfl) (by kernel_rfl) (fun _ _ _ h => h) hS (.inl ⟨by rfl, ?_⟩) ?_
      rotate_left 1
      · intro w' hS'; go_simp; try with_reducible rfl
      simp only [Act.put]
      refine wpAnyM_takeC (i := 10) (v := ?_) 6 rfl (by kernel_rfl) (by kernel_rfl) (by kernel_rfl) (by kernel_rfl) (by kernel_rfl) (by kernel_rfl) (fun _ _ _ h => h) hS (.inl ⟨by rfl, ?_⟩) ?_
      rotate_left 1
      · intro w' hS'; go_simp; try with_reducible rfl
      simp only [Act.put]
      refine wpAnyM_takeC (i := 11) (v := ?_) 6 rfl (by kernel_rfl) (by kernel_rfl) (by kernel_rfl) (by kernel_rfl) (by kernel_rfl) (by kernel_rfl) (fun _ _ _ h => h) hS (.inl ⟨by rfl, ?_⟩) ?_
      rotate_left 1
      · intro w' hS'; go_simp; try with_reducible rfl
      simp only [Act.put]
      refine wpAnyM_takeC (i := 12) (v := ?_) 6 rfl (by kernel_rfl) (by kernel_rfl) (by kernel_rfl) (by kernel_rfl) (by kernel_rfl) (by kernel_rfl) (fun _ _ _ h => h) hS (.inl ⟨by rfl, ?_⟩) ?_
      rotate_left 1
      · intro w' hS'; go_simp; try with_reducible rfl
      simp only [Act.put]
      refine wpAnyM_takeC (i := 13) (v := ?_) 6 rfl (by kernel_rfl) (by kernel_rfl) (by kernel_rfl) (by kernel_rfl) (by kernel_rfl) (by kernel_rfl) (fun _ _ _ h => h) hS (.inl ⟨by rfl, ?_⟩) ?_
      rotate_left 1
      · intro w' hS'; go_simp; try with_reducible rfl
      simp only [Act.put]
      refine wpAnyM_takeC (i := 14) (v := ?_) 6 rfl (by kernel_rfl) (by kernel_rfl) (by kernel_rfl) (by kernel_rfl) (by kernel_rfl) (by kernel_rfl) (fun _ _ _ h => h) hS (.inl ⟨by rfl, ?_⟩) ?_
      rotate_left 1
      · intro w' hS'; go_simp; try with_reducible rfl
      simp only [Act.put]
      refine wpAnyM_one (i := 15) (by kernel_rfl) rfl (by rfl) (fun K hK => ?_)
      go_simp
      refine HC.out.mono ?_
      rintro e v1 ⟨rfl, hb2⟩
      have hS1 : Below w.heap.size wr v1 := hS.trans (hb2.mono hsz)
      have hs1 := hb2.size
      have rowv : Row 88 5 v1 w.heap.size wr.heap.size (.slice A k C) k (flat quinF ms) := (row0.drew).below hb2
      refine hK _ _ (.inr hS1) ?_
      try simp only [Act.put, List.setIfInBounds_toArray]
      clear hK K
      refine wpAnyM_one (i := 16) (by kernel_rfl) rfl (by rfl) (fun K hK => ?_)
      go_simp
      replace hS1 : Below w.heap.size wr (v1.alloc (.cells #[.int .i64 r.1, .int .i64 r.2.1, .int .i64 r.2.2.1, .int .i64 r.2.2.2.1, .int .i64 r.2.2.2.2] 88)) := hS1.alloc (by have := hS1.size; omega) _
      refine hK _ _ (.inr hS1) ?_
      clear hK K
      try simp only [Act.put, List.setIfInBounds_toArray]
      refine wpAnyM_one (i := 17) (by kernel_rfl) rfl (by rfl) (fun K hK => ?_)
      refine wp_appR (.tmp 14) (.tmp 30) 24 88 rfl (.agg #[.int .i64 0, .int .i64 0, .int .i64 0, .int .i64 0, .int .i64 0]) 5 40 Try.underlying24 info_AddRow rfl (by omega) (by omega) rfl (rowv.alloc _) ⟨v1.heap.size, 0, none⟩ 1 1 (flat quinF [r]) rfl rfl (row_new5 v1 r) flat_mem (by omega) (by simp; have := hs1; simp at this; omega) ?_
      intro A' C' w5 row5 ht5
      replace hS1 : Below w.heap.size wr w5 := hS1.trans (ht5.below (Nat.le_refl _) (by simp; have := hs1; simp at this; omega))
      refine hK _ _ (.inr hS1) ?_
      try simp only [Act.put, List.setIfInBounds_toArray]
      clear hK K
      refine wpAnyM_one (i := 18) (by kernel_rfl) rfl (by rfl) (fun K hK => ?_)
      go_simp
      refine hK _ _ (.inl rfl) ?_
      clear hK K
      refine wpAnyM_done (by kernel_rfl) ?_ _
      have ow5 : OwnF quinF 88 w5 w.heap.size w5.heap.size (.slice A' (k + 1) C') (ms ++ [r]) := ownF_row (n := k + 1) (by rw [flat_append]; exact row5) (by have := HL.out; simp; omega) (by have := HL.out; simp; omega)
      have hb5 : Below w.heap.size w w5 := hbel.trans hS1
      go_wp2
      go_roundw
      case rel => exact ⟨k + 1, A', C', by omega, rfl, by go_num, by rw [HT.out]; exact ow5, hb5⟩
      case measure => (simp [intOf]) <;> omega
    · obtain rfl : k = n := by omega
      go_wp2
      go_ret
      exact ⟨A, C, rfl, hown, hbel⟩

/-- What a function leaves that returns a list of rows and a code. -/
def RowsC (R : List Row5 × Int) (w : World) (e : Ending) (w' : World) : Prop := ∃ A C, e = .returned (.tuple #[.slice A R.1.length C, .int .i64 R.2]) ∧ OwnF quinF 88 w' w.heap.size w'.heap.size (.slice A R.1.length C) R.1 ∧ Below w.heap.size w w'
theorem rowsC_err {R : List Row5 × Int} {c : Int} {w w' : World} {e : Ending} (h : R = ([], c)) (he : e = .returned (.tuple #[.slice none 0 0, .int .i64 c])) (hb : Below w.heap.size w w') : RowsC R w e w' := by
  subst h he; exact ⟨none, 0, rfl, ownF_nil _ _ _ _ _, hb⟩
theorem rowsC_ok {R : List Row5 × Int} {zs : List Row5} {m : Nat} {w w' : World} {e : Ending} {A : Option Addr} {C lo hi : Nat} (h : R = (zs, 0)) (hm : zs.length = m) (he : e = .returned (.tuple #[.slice A m C, .int .i64 0]))
    (ho : OwnF quinF 88 w' lo hi (.slice A m C) zs) (h1 : w.heap.size ≤ lo) (h2 : hi ≤ w'.heap.size) (hb : Below w.heap.size w w') : RowsC R w e w' := by
  subst h hm he; exact ⟨A, C, rfl, ho.wide h1 h2, hb⟩
theorem rtR_bad {b : Int} (h : baseB b = false) : rtR b = ([], 2) := by simp [rtR, h]
theorem rtR_ok {m : Nat} (h : baseB (m : Int) = true) : rtR (m : Int) = (tbl m (2 * m * m), 0) := by simp [rtR, h]

set_option maxHeartbeats 1000000 in
theorem specRightTable (b : Int) (w : World) (_ : I64 b) : Calls Try.prog 40 #[.int .i64 b] w (RowsC (rtR b) w) := by
  cases h : baseB b with
  | false =>
    have HR := Lib.hid (rtR_bad h)
    have HB := Lib.hid (l02Base_any b w)
    rw [h] at HB
    clear h
    go_enter Try.func40, Try.ntmps40
    go_wp2_with fail
    refine HB.out.mono ?_
    rintro e w1 ⟨rfl, rfl⟩
    go_wp2
    exact bodyPost_ret (v := .tuple #[.slice none 0 0, .int .i64 2]) (by simp [results, Try.results40, go_sem]) rfl (rowsC_err HR.out rfl (Below.refl _ _))
  | true =>
    have hb := baseB_true h
    obtain ⟨m, rfl⟩ : ∃ m : Nat, b = m := ⟨b.toNat, by omega⟩
    have HR := Lib.hid (rtR_ok h)
    have HB := Lib.hid (l02Base_any (m : Int) w)
    rw [h] at HB
    clear h
    go_enter Try.func40, Try.ntmps40
    go_wp2_with fail
    refine HB.out.mono ?_
    rintro e w1 ⟨rfl, rfl⟩
    go_wp2_with fail
    refine (l08Table_any m w1 (by omega) (by omega)).mono ?_
    rintro e w2 ⟨A, C, rfl, own, hb2⟩
    go_wp2
    exact bodyPost_ret (v := .tuple #[.slice A (2 * m * m) C, .int .i64 0]) (by simp [results, Try.results40, go_sem]) rfl (rowsC_ok HR.out (tbl_len _ _) rfl own (Nat.le_refl _) (Nat.le_refl _) hb2)
end Go.Proofs.Ytmdngcoccekdgaa
