/-
  Several texts in one: TabS, FrmS, TfS, RowsF, BelI, FwI.
-/
import Derived.Test.YtmdngcoccekdgaaTabM
import Derived.Test.YtmdngcoccekdgaaAddRowS
import Derived.Test.YtmdngcoccekdgaaOrdC
import Derived.Test.YtmdngcoccekdgaaOkS
import Derived.Test.YtmdngcoccekdgaaAppR
import Derived.Test.YtmdngcoccekdgaaInB
import Derived.Test.YtmdngcoccekdgaaIterF
import Derived.Test.YtmdngcoccekdgaaScopeIn
import Derived.Test.YtmdngcoccekdgaaWithin
import Derived.Test.YtmdngcoccekdgaaDrumI
import Derived.Test.YtmdngcoccekdgaaOrdIn
import Derived.Deep.Cut
import Derived.Sort.QuietTacIn

/- TabS -/
namespace Go.Proofs.Ytmdngcoccekdgaa
open Go.RowKit

/-- A row as a value. -/
def rowV (r : Row5) : Value := .agg #[.int .i64 r.1, .int .i64 r.2.1, .int .i64 r.2.2.1, .int .i64 r.2.2.2.1, .int .i64 r.2.2.2.2]

set_option maxRecDepth 100000 in
set_option maxHeartbeats 2000000 in
theorem l08Right_any (m i a c : Nat) (w : World) (hm : 2 ≤ m) (hm2 : m ≤ 16) (hi : i ≤ 1000) (ha : a ≤ 1000) (hc : c ≤ 1000) :
    Calls Try.prog 102 #[.int .i64 (m : Int), .int .i64 (i : Int), .int .i64 (a : Int), .int .i64 (c : Int)] w fun e w' => e = .returned (.agg #[.int .i64 (mkRow m i a c).1, .int .i64 (mkRow m i a c).2.1, .int .i64 (mkRow m i a c).2.2.1, .int .i64 (mkRow m i a c).2.2.2.1, .int .i64 (mkRow m i a c).2.2.2.2]) ∧ Below w.heap.size w w' := by
  obtain ⟨s, hs⟩ : ∃ s, s = i + a + c := ⟨_, rfl⟩
  have hw1 : IntKind.i64.wrap ((i : Int) + (a : Int)) = (i : Int) + a := IntWalk.i64_in _ (by omega)
  have hw2 : IntKind.i64.wrap ((i : Int) + (a : Int) + (c : Int)) = (s : Int) := by rw [IntWalk.i64_in _ (by omega)]; omega
  have hr : (s : Int).tmod (m : Int) = ((s % m : Nat) : Int) := by rw [← Int.ofNat_tmod]
  have hq : (s : Int).tdiv (m : Int) = ((s / m : Nat) : Int) := by rw [← Int.ofNat_tdiv]
  have hqb : s / m ≤ s := Nat.div_le_self _ _
  have hrb : s % m < m := Nat.mod_lt _ (by omega)
  have hm0 : ¬ m = 0 := by omega
  have HS := Lib.hid hs
  obtain ⟨rr, hrr⟩ : ∃ rr, rr = s % m := ⟨_, rfl⟩
  obtain ⟨qq, hqq⟩ : ∃ qq, qq = s / m := ⟨_, rfl⟩
  rw [← hrr] at hr hrb
  rw [← hqq] at hq hqb
  have hw3 : IntKind.i64.wrap (qq : Int) = (qq : Int) := IntWalk.i64_in _ (by omega)
  have HR := Lib.hid (show mkRow m i a c = ((i : Int), (a : Int), (c : Int), (rr : Int), (qq : Int)) by rw [mkRow, ← hs, ← hrr, ← hqq])
  rw [HR.out]
  clear hs hrr hqq
  go_enter Try.func102, Try.ntmps102
  go_wp2_with fail
  go_upto_region 2 with fail
  obtain ⟨V, hV⟩ : ∃ V, V = w.alloc (.cells #[.int .i64 0, .int .i64 0, .int .i64 0, .int .i64 0, .int .i64 0] 88) := ⟨_, rfl⟩
  obtain ⟨g, hg⟩ : ∃ g, g = w.heap.size := ⟨_, rfl⟩
  have bx : Bx V g 88 #[.int .i64 0, .int .i64 0, .int .i64 0, .int .i64 0, .int .i64 0] := by rw [hV, hg]; exact Bx.new _ _ _
  have hbel : Below g w V := by rw [hV, hg]; exact (Below.refl _ _).alloc (Nat.le_refl _) _
  rw [← hV, ← hg]
  have HG := Lib.hid hg
  clear hV hg
  refine wp_region_marked (fun w' => w' = V.drew) 10 (by kernel_rfl) ?_
  obtain ⟨D, hD⟩ : ∃ D, D = V.drew := ⟨_, rfl⟩
  replace bx : Bx D g 88 #[.int .i64 0, .int .i64 0, .int .i64 0, .int .i64 0, .int .i64 0] := by rw [hD]; exact bx.drew
  replace hbel : Below g w D := by rw [hD]; exact hbel.drew
  rw [← hD]
  clear hD
  have b0 := bx.at_ 0 rfl
  have b1 := bx.at_ 1 rfl
  have b2 := bx.at_ 2 rfl
  have b3 := bx.at_ 3 rfl
  have b4 := bx.at_ 4 rfl
  have f0 := bx.thaw 0
  have f1 := bx.thaw 1
  have f2 := bx.thaw 2
  have f3 := bx.thaw 3
  have f4 := bx.thaw 4
  refine wpAnyM_take (i := 0) (v := ?_) rfl (by kernel_rfl) (by kernel_rfl) (by kernel_rfl) (by kernel_rfl) (by kernel_rfl) (fun _ _ _ h => h) rfl (.inl ⟨by rfl, ?_⟩) ?_
  rotate_left 1
  · intro w' hS'; go_simp; try with_reducible rfl
  simp only [Act.put, List.setIfInBounds_toArray, List.set_cons_succ, List.set_cons_zero, List.getElem_toArray, List.getElem_cons_zero]
  refine wpAnyM_take (i := 1) (v := ?_) rfl (by kernel_rfl) (by kernel_rfl) (by kernel_rfl) (by kernel_rfl) (by kernel_rfl) (fun _ _ _ h => h) rfl (.inl ⟨by rfl, ?_⟩) ?_
  rotate_left 1
  · intro w' hS'; go_simp; try with_reducible rfl
  simp only [Act.put, List.setIfInBounds_toArray, List.set_cons_succ, List.set_cons_zero, List.getElem_toArray, List.getElem_cons_succ, List.getElem_cons_zero]
  refine wpAnyM_take (i := 2) (v := ?_) rfl (by kernel_rfl) (by kernel_rfl) (by kernel_rfl) (by kernel_rfl) (by kernel_rfl) (fun _ _ _ h => h) rfl (.inl ⟨by rfl, ?_⟩) ?_
  rotate_left 1
  · intro w' hS'; go_simp; try with_reducible rfl
  simp only [Act.put, List.setIfInBounds_toArray, List.set_cons_succ, List.set_cons_zero, List.getElem_toArray, List.getElem_cons_succ, List.getElem_cons_zero]
  refine wpAnyM_take (i := 3) (v := ?_) rfl (by kernel_rfl) (by kernel_rfl) (by kernel_rfl) (by kernel_rfl) (by kernel_rfl) (fun _ _ _ h => h) rfl (.inl ⟨by rfl, ?_⟩) ?_
  rotate_left 1
  · intro w' hS'; go_simp; try with_reducible rfl
  simp only [Act.put, List.setIfInBounds_toArray, List.set_cons_succ, List.set_cons_zero, List.getElem_toArray, List.getElem_cons_succ, List.getElem_cons_zero]
  refine wpAnyM_take (i := 4) (v := ?_) rfl (by kernel_rfl) (by kernel_rfl) (by kernel_rfl) (by kernel_rfl) (by kernel_rfl) (fun _ _ _ h => h) rfl (.inl ⟨by rfl, ?_⟩) ?_
  rotate_left 1
  · intro w' hS'; go_simp; try with_reducible rfl
  simp only [Act.put, List.setIfInBounds_toArray, List.set_cons_succ, List.set_cons_zero, List.getElem_toArray, List.getElem_cons_succ, List.getElem_cons_zero]
  refine wpAnyM_take (i := 5) (v := ?_) rfl (by kernel_rfl) (by kernel_rfl) (by kernel_rfl) (by kernel_rfl) (by kernel_rfl) (fun _ _ _ h => h) rfl (.inl ⟨by rfl, ?_⟩) ?_
  rotate_left 1
  · intro w' hS'; go_simp; try with_reducible rfl
  simp only [Act.put, List.setIfInBounds_toArray, List.set_cons_succ, List.set_cons_zero, List.getElem_toArray, List.getElem_cons_succ, List.getElem_cons_zero]
  refine wpAnyM_take (i := 6) (v := ?_) rfl (by kernel_rfl) (by kernel_rfl) (by kernel_rfl) (by kernel_rfl) (by kernel_rfl) (fun _ _ _ h => h) rfl (.inl ⟨by rfl, ?_⟩) ?_
  rotate_left 1
  · intro w' hS'; go_simp; try with_reducible rfl
  simp only [Act.put, List.setIfInBounds_toArray, List.set_cons_succ, List.set_cons_zero, List.getElem_toArray, List.getElem_cons_succ, List.getElem_cons_zero]
  refine wpAnyM_take (i := 7) (v := ?_) rfl (by kernel_rfl) (by kernel_rfl) (by kernel_rfl) (by kernel_rfl) (by kernel_rfl) (fun _ _ _ h => h) rfl (.inl ⟨by rfl, ?_⟩) ?_
  rotate_left 1
  · intro w' hS'; go_simp; try with_reducible rfl
  simp only [Act.put, List.setIfInBounds_toArray, List.set_cons_succ, List.set_cons_zero, List.getElem_toArray, List.getElem_cons_succ, List.getElem_cons_zero]
  refine wpAnyM_take (i := 8) (v := ?_) rfl (by kernel_rfl) (by kernel_rfl) (by kernel_rfl) (by kernel_rfl) (by kernel_rfl) (fun _ _ _ h => h) rfl (.inl ⟨by rfl, ?_⟩) ?_
  rotate_left 1
  · intro w' hS'; go_simp; try with_reducible rfl
  simp only [Act.put, List.setIfInBounds_toArray, List.set_cons_succ, List.set_cons_zero, List.getElem_toArray, List.getElem_cons_succ, List.getElem_cons_zero]
  refine wpAnyM_take (i := 9) (v := ?_) rfl (by kernel_rfl) (by kernel_rfl) (by kernel_rfl) (by kernel_rfl) (by kernel_rfl) (fun _ _ _ h => h) rfl (.inl ⟨by rfl, ?_⟩) ?_
  rotate_left 1
  · intro w' hS'; go_simp; try with_reducible rfl
  simp only [Act.put, List.setIfInBounds_toArray, List.set_cons_succ, List.set_cons_zero, List.getElem_toArray, List.getElem_cons_succ, List.getElem_cons_zero]
  refine wpAnyM_one (i := 10) (by kernel_rfl) rfl (by rfl) (fun K hK => ?_)
  go_simp
  obtain ⟨Z, hZ⟩ : ∃ Z, Z = ((((D.setCell ⟨g, 0, none⟩ (.int .i64 (i : Int))).setCell ⟨g, 1, none⟩ (.int .i64 (a : Int))).setCell ⟨g, 2, none⟩ (.int .i64 (c : Int))).setCell ⟨g, 3, none⟩ (.int .i64 (rr : Int))).setCell ⟨g, 4, none⟩ (.int .i64 (qq : Int)) := ⟨_, rfl⟩
  rw [← hZ]
  have bz : Bx Z g 88 #[.int .i64 (i : Int), .int .i64 (a : Int), .int .i64 (c : Int), .int .i64 (rr : Int), .int .i64 (qq : Int)] := by
    rw [hZ]; exact ((((bx.set_ 0 _).set_ 1 _).set_ 2 _).set_ 3 _).set_ 4 _
  have hbz : Below g w Z := by
    rw [hZ]
    have h1 := hbel.setCell (p := ⟨g, 0, none⟩) (Nat.le_refl _) (.int .i64 (i : Int))
    have h2 := h1.setCell (p := ⟨g, 1, none⟩) (Nat.le_refl _) (.int .i64 (a : Int))
    have h3 := h2.setCell (p := ⟨g, 2, none⟩) (Nat.le_refl _) (.int .i64 (c : Int))
    have h4 := h3.setCell (p := ⟨g, 3, none⟩) (Nat.le_refl _) (.int .i64 (rr : Int))
    exact h4.setCell (p := ⟨g, 4, none⟩) (Nat.le_refl _) (.int .i64 (qq : Int))
  clear hZ b0 b1 b2 b3 b4 f0 f1 f2 f3 f4
  refine hK _ _ (.inl rfl) ?_
  clear hK K
  refine wpAnyM_done (by kernel_rfl) ?_ _
  have b0 := bz.at_ 0 rfl
  have b1 := bz.at_ 1 rfl
  have b2 := bz.at_ 2 rfl
  have b3 := bz.at_ 3 rfl
  have b4 := bz.at_ 4 rfl
  go_wp2_with fail
  exact bodyPost_ret (v := .agg #[.int .i64 (i : Int), .int .i64 (a : Int), .int .i64 (c : Int), .int .i64 (rr : Int), .int .i64 (qq : Int)]) (by simp [results, Try.results102, go_sem, b0, b1, b2, b3, b4]) rfl ⟨rfl, by rw [← HG.out]; exact hbz⟩

theorem row_new5 (w : World) (r : Row5) : ∀ (i : Nat) (u : Value), (flat quinF [r])[i]? = some u → (w.alloc (.cells #[.int .i64 r.1, .int .i64 r.2.1, .int .i64 r.2.2.1, .int .i64 r.2.2.2.1, .int .i64 r.2.2.2.2] 88)).cell? ((⟨w.heap.size, 0, none⟩ : Addr).add i) = some u := by
  intro i u hu
  have hbx := Bx.new w #[.int .i64 r.1, .int .i64 r.2.1, .int .i64 r.2.2.1, .int .i64 r.2.2.2.1, .int .i64 r.2.2.2.2] 88
  match i, hu with
  | 0, hu => simp [flat, quinF] at hu; subst hu; exact hbx.at_ 0 rfl
  | 1, hu => simp [flat, quinF] at hu; subst hu; exact hbx.at_ 1 rfl
  | 2, hu => simp [flat, quinF] at hu; subst hu; exact hbx.at_ 2 rfl
  | 3, hu => simp [flat, quinF] at hu; subst hu; exact hbx.at_ 3 rfl
  | 4, hu => simp [flat, quinF] at hu; subst hu; exact hbx.at_ 4 rfl

theorem two_sq {m : Nat} (h : m ≤ 16) : 2 * m * m ≤ 512 := by
  have h1 : 2 * m ≤ 32 := by omega
  exact Nat.mul_le_mul h1 h

set_option maxRecDepth 100000 in
set_option maxHeartbeats 4000000 in
theorem l08Table_any (m : Nat) (w : World) (hm : 2 ≤ m) (hm2 : m ≤ 16) :
    Calls Try.prog 60 #[.int .i64 (m : Int)] w fun e w' => ∃ A C, e = .returned (.slice A (2 * m * m) C) ∧
      OwnF quinF 88 w' w.heap.size w'.heap.size (.slice A (2 * m * m) C) (tbl m (2 * m * m)) ∧ Below w.heap.size w w' := by
  obtain ⟨n, hn⟩ : ∃ n, n = 2 * m * m := ⟨_, rfl⟩
  have hn2 : n ≤ 512 := by rw [hn]; exact two_sq hm2
  have hv1 : IntKind.i64.wrap (2 * (m : Int)) = 2 * (m : Int) := IntWalk.i64_in _ (by omega)
  have hv2 : IntKind.i64.wrap (2 * (m : Int) * (m : Int)) = (n : Int) := by
    have e : 2 * (m : Int) * (m : Int) = (n : Int) := by rw [hn]; simp
    rw [e]; exact IntWalk.i64_in _ (by omega)
  rw [← hn]
  clear hn
  have hm0 : ¬ m = 0 := by omega
  go_enter Try.func60, Try.ntmps60
  have ow0 : OwnF quinF 88 (w.alloc (.cells #[] 88)) w.heap.size (w.alloc (.cells #[] 88)).heap.size (.slice (some ⟨w.heap.size, 0, none⟩) 0 0) [] := (ownF_row (n := 0) (row_new 88 5 w #[] 0 (by simp) (by omega)) rfl (by simp)).wide (Nat.le_refl _) (by simp)
  go_wp2
  go_loopw [3, 4] (fun s i wr => ∃ (k : Nat) (A : Option Addr) (C : Nat), k ≤ n ∧ s = .slice A k C ∧ i = .int .i64 k ∧
      OwnF quinF 88 wr w.heap.size wr.heap.size (.slice A k C) (tbl m k) ∧ Below w.heap.size w wr) (fun _ i _ => n - (intOf i).toNat)
  case atStart => exact ⟨0, _, 0, Nat.zero_le _, rfl, rfl, ow0, (Below.refl _ _).alloc (Nat.le_refl _) _⟩
  case round =>
    obtain ⟨k, A, C, hk, rfl, rfl, hown, hbel⟩ := hrel
    have hsz := hbel.size
    by_cases hlt : k < n
    · obtain ⟨q1, hq1⟩ : ∃ q1, q1 = k / m := ⟨_, rfl⟩
      obtain ⟨q2, hq2⟩ : ∃ q2, q2 = q1 / m := ⟨_, rfl⟩
      obtain ⟨r1, hr1⟩ : ∃ r1, r1 = q1 % m := ⟨_, rfl⟩
      obtain ⟨r0, hr0⟩ : ∃ r0, r0 = k % m := ⟨_, rfl⟩
      have HN := Lib.hid (show rowN m k = mkRow m q2 r1 r0 by rw [rowN, ← hq1, ← hq2, ← hr1, ← hr0])
      have b1 : q1 ≤ k := by rw [hq1]; exact Nat.div_le_self _ _
      have b2 : q2 ≤ q1 := by rw [hq2]; exact Nat.div_le_self _ _
      have b2' : q2 ≤ 1000 := by omega
      have b3 : r1 < m := by rw [hr1]; exact Nat.mod_lt _ (by omega)
      have b4 : r0 < m := by rw [hr0]; exact Nat.mod_lt _ (by omega)
      have e1 : (k : Int).tdiv (m : Int) = (q1 : Int) := by rw [hq1, ← Int.ofNat_tdiv]
      have e2 : (q1 : Int).tdiv (m : Int) = (q2 : Int) := by rw [hq2, ← Int.ofNat_tdiv]
      have e3 : (q1 : Int).tmod (m : Int) = (r1 : Int) := by rw [hr1, ← Int.ofNat_tmod]
      have e4 : (k : Int).tmod (m : Int) = (r0 : Int) := by rw [hr0, ← Int.ofNat_tmod]
      have w1 : IntKind.i64.wrap (q1 : Int) = (q1 : Int) := IntWalk.i64_in _ (by omega)
      have w2 : IntKind.i64.wrap (q2 : Int) = (q2 : Int) := IntWalk.i64_in _ (by omega)
      clear hq1 hq2 hr1 hr0
      obtain ⟨ms, hms⟩ : ∃ ms, ms = tbl m k := ⟨_, rfl⟩
      have HT := Lib.hid (show tbl m (k + 1) = ms ++ [mkRow m q2 r1 r0] by rw [tbl_succ, hms, HN.out])
      have HL := Lib.hid (show ms.length = k by rw [hms, tbl_len])
      rw [← hms] at hown
      clear hms HN
      have row0 : Row 88 5 wr w.heap.size wr.heap.size (.slice A k C) k (flat quinF ms) := by have := hown.row; rw [HL.out] at this; exact this
      have HC := Lib.hid (l08Right_any m q2 r1 r0 wr.drew hm hm2 b2' (by omega) (by omega))
      obtain ⟨r, hr⟩ : ∃ r, r = mkRow m q2 r1 r0 := ⟨_, rfl⟩
      rw [← hr] at HT HC
      clear hr
      go_wp2
      refine wp_region_marked (fun w' => Below w.heap.size wr w') 17 (by kernel_rfl) ?_
      have hS : Below w.heap.size wr wr.drew := (Below.refl _ _).drew
      refine wpAnyM_takeC (i := 0) (v := ?_) 6 rfl (by kernel_rfl) (by kernel_rfl) (by kernel_rfl) (by kernel_rfl) (by kernel_rfl) (by kernel_rfl) (fun _ _ _ h => h) hS (.inl ⟨by rfl, ?_⟩) ?_
      rotate_left 1
      · intro w' hS'; go_simp; try with_reducible rfl
      simp only [Act.put, List.setIfInBounds_toArray, List.set_cons_succ, List.set_cons_zero, List.getElem_toArray, List.getElem_cons_zero]
      refine wpAnyM_takeC (i := 1) (v := ?_) 6 rfl (by kernel_rfl) (by kernel_rfl) (by kernel_rfl) (by kernel_rfl) (by kernel_rfl) (by kernel_rfl) (fun _ _ _ h => h) hS (.inl ⟨by rfl, ?_⟩) ?_
      rotate_left 1
      · intro w' hS'; go_simp; try with_reducible rfl
      simp only [Act.put, List.setIfInBounds_toArray, List.set_cons_succ, List.set_cons_zero, List.getElem_toArray, List.getElem_cons_succ, List.getElem_cons_zero]
      refine wpAnyM_takeC (i := 2) (v := ?_) 6 rfl (by kernel_rfl) (by kernel_rfl) (by kernel_rfl) (by kernel_rfl) (by kernel_rfl) (by kernel_rfl) (fun _ _ _ h => h) hS (.inl ⟨by rfl, ?_⟩) ?_
      rotate_left 1
      · intro w' hS'; go_simp; try with_reducible rfl
      simp only [Act.put, List.setIfInBounds_toArray, List.set_cons_succ, List.set_cons_zero, List.getElem_toArray, List.getElem_cons_succ, List.getElem_cons_zero]
      refine wpAnyM_takeC (i := 3) (v := ?_) 6 rfl (by kernel_rfl) (by kernel_rfl) (by kernel_rfl) (by kernel_rfl) (by kernel_rfl) (by kernel_rfl) (fun _ _ _ h => h) hS (.inl ⟨by rfl, ?_⟩) ?_
      rotate_left 1
      · intro w' hS'; go_simp; try with_reducible rfl
      simp only [Act.put, List.setIfInBounds_toArray, List.set_cons_succ, List.set_cons_zero, List.getElem_toArray, List.getElem_cons_succ, List.getElem_cons_zero]
      refine wpAnyM_takeC (i := 4) (v := ?_) 6 rfl (by kernel_rfl) (by kernel_rfl) (by kernel_rfl) (by kernel_rfl) (by kernel_rfl) (by kernel_rfl) (fun _ _ _ h => h) hS (.inl ⟨by rfl, ?_⟩) ?_
      rotate_left 1
      · intro w' hS'; go_simp; try with_reducible rfl
      simp only [Act.put, List.setIfInBounds_toArray, List.set_cons_succ, List.set_cons_zero, List.getElem_toArray, List.getElem_cons_succ, List.getElem_cons_zero]
      refine wpAnyM_takeC (i := 5) (v := ?_) 6 rfl (by kernel_rfl) (by kernel_rfl) (by kernel_rfl) (by kernel_rfl) (by kernel_rfl) (by kernel_rfl) (fun _ _ _ h => h) hS (.inl ⟨by rfl, ?_⟩) ?_
      rotate_left 1
      · intro w' hS'; go_simp; try with_reducible rfl
      simp only [Act.put, List.setIfInBounds_toArray, List.set_cons_succ, List.set_cons_zero, List.getElem_toArray, List.getElem_cons_succ, List.getElem_cons_zero]
      refine wpAnyM_takeC (i := 6) (v := ?_) 6 rfl (by kernel_rfl) (by kernel_rfl) (by kernel_rfl) (by kernel_rfl) (by kernel_rfl) (by kernel_rfl) (fun _ _ _ h => h) hS (.inl ⟨by rfl, ?_⟩) ?_
      rotate_left 1
      · intro w' hS'; go_simp; try with_reducible rfl
      simp only [Act.put, List.setIfInBounds_toArray, List.set_cons_succ, List.set_cons_zero, List.getElem_toArray, List.getElem_cons_succ, List.getElem_cons_zero]
      refine wpAnyM_takeC (i := 7) (v := ?_) 6 rfl (by kernel_rfl) (by kernel_rfl) (by kernel_rfl) (by kernel_rfl) (by kernel_rfl) (by kernel_rfl) (fun _ _ _ h => h) hS (.inl ⟨by rfl, ?_⟩) ?_
      rotate_left 1
      · intro w' hS'; go_simp; try with_reducible rfl
      simp only [Act.put, List.setIfInBounds_toArray, List.set_cons_succ, List.set_cons_zero, List.getElem_toArray, List.getElem_cons_succ, List.getElem_cons_zero]
      refine wpAnyM_takeC (i := 8) (v := ?_) 6 rfl (by kernel_rfl) (by kernel_rfl) (by kernel_rfl) (by kernel_rfl) (by kernel_rfl) (by kernel_rfl) (fun _ _ _ h => h) hS (.inl ⟨by rfl, ?_⟩) ?_
      rotate_left 1
      · intro w' hS'; go_simp; try with_reducible rfl
      simp only [Act.put, List.setIfInBounds_toArray, List.set_cons_succ, List.set_cons_zero, List.getElem_toArray, List.getElem_cons_succ, List.getElem_cons_zero]
      refine wpAnyM_takeC (i := 9) (v := ?_) 6 rfl (by kernel_rfl) (by kernel_rfl) (by kernel_rfl) (by kernel_rfl) (by kernel_rfl) (by kernel_rfl) (fun _ _ _ h => h) hS (.inl ⟨by rfl, ?_⟩) ?_
      rotate_left 1
      · intro w' hS'; go_simp; try with_reducible rfl
      simp only [Act.put, List.setIfInBounds_toArray, List.set_cons_succ, List.set_cons_zero, List.getElem_toArray, List.getElem_cons_succ, List.getElem_cons_zero]
      refine wpAnyM_takeC (i := 10) (v := ?_) 6 rfl (by kernel_rfl) (by kernel_rfl) (by kernel_rfl) (by kernel_rfl) (by kernel_rfl) (by kernel_rfl) (fun _ _ _ h => h) hS (.inl ⟨by rfl, ?_⟩) ?_
      rotate_left 1
      · intro w' hS'; go_simp; try with_reducible rfl
      simp only [Act.put, List.setIfInBounds_toArray, List.set_cons_succ, List.set_cons_zero, List.getElem_toArray, List.getElem_cons_succ, List.getElem_cons_zero]
      refine wpAnyM_takeC (i := 11) (v := ?_) 6 rfl (by kernel_rfl) (by kernel_rfl) (by kernel_rfl) (by kernel_rfl) (by kernel_rfl) (by kernel_rfl) (fun _ _ _ h => h) hS (.inl ⟨by rfl, ?_⟩) ?_
      rotate_left 1
      · intro w' hS'; go_simp; try with_reducible rfl
      simp only [Act.put, List.setIfInBounds_toArray, List.set_cons_succ, List.set_cons_zero, List.getElem_toArray, List.getElem_cons_succ, List.getElem_cons_zero]
      refine wpAnyM_takeC (i := 12) (v := ?_) 6 rfl (by kernel_rfl) (by kernel_rfl) (by kernel_rfl) (by kernel_rfl) (by kernel_rfl) (by kernel_rfl) (fun _ _ _ h => h) hS (.inl ⟨by rfl, ?_⟩) ?_
      rotate_left 1
      · intro w' hS'; go_simp; try with_reducible rfl
      simp only [Act.put, List.setIfInBounds_toArray, List.set_cons_succ, List.set_cons_zero, List.getElem_toArray, List.getElem_cons_succ, List.getElem_cons_zero]
      refine wpAnyM_takeC (i := 13) (v := ?_) 6 rfl (by kernel_rfl) (by kernel_rfl) (by kernel_rfl) (by kernel_rfl) (by kernel_rfl) (by kernel_rfl) (fun _ _ _ h => h) hS (.inl ⟨by rfl, ?_⟩) ?_
      rotate_left 1
      · intro w' hS'; go_simp; try with_reducible rfl
      simp only [Act.put, List.setIfInBounds_toArray, List.set_cons_succ, List.set_cons_zero, List.getElem_toArray, List.getElem_cons_succ, List.getElem_cons_zero]
      refine wpAnyM_takeC (i := 14) (v := ?_) 6 rfl (by kernel_rfl) (by kernel_rfl) (by kernel_rfl) (by kernel_rfl) (by kernel_rfl) (by kernel_rfl) (fun _ _ _ h => h) hS (.inl ⟨by rfl, ?_⟩) ?_
      rotate_left 1
      · intro w' hS'; go_simp; try with_reducible rfl
      simp only [Act.put, List.setIfInBounds_toArray, List.set_cons_succ, List.set_cons_zero, List.getElem_toArray, List.getElem_cons_succ, List.getElem_cons_zero]
      refine wpAnyM_one (i := 15) (by kernel_rfl) rfl (by rfl) (fun K hK => ?_)
      go_simp
      refine HC.out.mono ?_
      rintro e v1 ⟨rfl, hb2⟩
      have hS1 : Below w.heap.size wr v1 := hS.trans (hb2.mono hsz)
      have hs1 := hb2.size
      have rowv : Row 88 5 v1 w.heap.size wr.heap.size (.slice A k C) k (flat quinF ms) := (row0.drew).below hb2
      refine hK _ _ (.inr hS1) ?_
      try simp only [Act.put, List.setIfInBounds_toArray, List.set_cons_succ, List.set_cons_zero, List.getElem_toArray, List.getElem_cons_succ, List.getElem_cons_zero]
      clear hK K
      refine wpAnyM_one (i := 16) (by kernel_rfl) rfl (by rfl) (fun K hK => ?_)
      go_simp
      replace hS1 : Below w.heap.size wr (v1.alloc (.cells #[.int .i64 r.1, .int .i64 r.2.1, .int .i64 r.2.2.1, .int .i64 r.2.2.2.1, .int .i64 r.2.2.2.2] 88)) := hS1.alloc (by have := hS1.size; omega) _
      refine hK _ _ (.inr hS1) ?_
      clear hK K
      try simp only [Act.put, List.setIfInBounds_toArray, List.set_cons_succ, List.set_cons_zero, List.getElem_toArray, List.getElem_cons_succ, List.getElem_cons_zero]
      refine wpAnyM_one (i := 17) (by kernel_rfl) rfl (by rfl) (fun K hK => ?_)
      refine wp_appR (.tmp 14) (.tmp 30) 24 88 rfl (.agg #[.int .i64 0, .int .i64 0, .int .i64 0, .int .i64 0, .int .i64 0]) 5 40 Try.underlying24 info_AddRow rfl (by omega) (by omega) rfl (rowv.alloc _) ⟨v1.heap.size, 0, none⟩ 1 1 (flat quinF [r]) rfl rfl (row_new5 v1 r) flat_mem (by omega) (by simp; have := hs1; simp at this; omega) ?_
      intro A' C' w5 row5 ht5
      replace hS1 : Below w.heap.size wr w5 := hS1.trans (ht5.below (Nat.le_refl _) (by simp; have := hs1; simp at this; omega))
      refine hK _ _ (.inr hS1) ?_
      try simp only [Act.put, List.setIfInBounds_toArray, List.set_cons_succ, List.set_cons_zero, List.getElem_toArray, List.getElem_cons_succ, List.getElem_cons_zero]
      clear hK K
      refine wpAnyM_one (i := 18) (by kernel_rfl) rfl (by rfl) (fun K hK => ?_)
      go_simp
      refine hK _ _ (.inl rfl) ?_
      clear hK K
      refine wpAnyM_done (by kernel_rfl) ?_ _
      have ow5 : OwnF quinF 88 w5 w.heap.size w5.heap.size (.slice A' (k + 1) C') (ms ++ [r]) := ownF_row (n := k + 1) (by rw [flat_append]; exact row5) (by have := HL.out; simp; omega) (by have := HL.out; simp; omega)
      have hb5 : Below w.heap.size w w5 := hbel.trans hS1
      go_wp2
      go_roundw
      case rel => exact ⟨k + 1, A', C', by omega, rfl, by go_num, by rw [HT.out]; exact ow5, hb5⟩
      case measure => (simp [intOf]) <;> omega
    · obtain rfl : k = n := by omega
      go_wp2
      go_ret
      exact ⟨A, C, rfl, hown, hbel⟩

/-- What a function leaves that returns a list of rows and a code. -/
def RowsC (R : List Row5 × Int) (w : World) (e : Ending) (w' : World) : Prop := ∃ A C, e = .returned (.tuple #[.slice A R.1.length C, .int .i64 R.2]) ∧ OwnF quinF 88 w' w.heap.size w'.heap.size (.slice A R.1.length C) R.1 ∧ Below w.heap.size w w'
theorem rowsC_err {R : List Row5 × Int} {c : Int} {w w' : World} {e : Ending} (h : R = ([], c)) (he : e = .returned (.tuple #[.slice none 0 0, .int .i64 c])) (hb : Below w.heap.size w w') : RowsC R w e w' := by
  subst h he; exact ⟨none, 0, rfl, ownF_nil _ _ _ _ _, hb⟩
theorem rowsC_ok {R : List Row5 × Int} {zs : List Row5} {m : Nat} {w w' : World} {e : Ending} {A : Option Addr} {C lo hi : Nat} (h : R = (zs, 0)) (hm : zs.length = m) (he : e = .returned (.tuple #[.slice A m C, .int .i64 0]))
    (ho : OwnF quinF 88 w' lo hi (.slice A m C) zs) (h1 : w.heap.size ≤ lo) (h2 : hi ≤ w'.heap.size) (hb : Below w.heap.size w w') : RowsC R w e w' := by
  subst h hm he; exact ⟨A, C, rfl, ho.wide h1 h2, hb⟩
theorem rtR_bad {b : Int} (h : baseB b = false) : rtR b = ([], 2) := by simp [rtR, h]
theorem rtR_ok {m : Nat} (h : baseB (m : Int) = true) : rtR (m : Int) = (tbl m (2 * m * m), 0) := by simp [rtR, h]

set_option maxHeartbeats 1000000 in
theorem specRightTable (b : Int) (w : World) (_ : I64 b) : Calls Try.prog 40 #[.int .i64 b] w (RowsC (rtR b) w) := by
  cases h : baseB b with
  | false =>
    have HR := Lib.hid (rtR_bad h)
    have HB := Lib.hid (l02Base_any b w)
    rw [h] at HB
    clear h
    go_enter Try.func40, Try.ntmps40
    go_wp2_with fail
    refine HB.out.mono ?_
    rintro e w1 ⟨rfl, rfl⟩
    go_wp2
    exact bodyPost_ret (v := .tuple #[.slice none 0 0, .int .i64 2]) (by simp [results, Try.results40, go_sem]) rfl (rowsC_err HR.out rfl (Below.refl _ _))
  | true =>
    have hb := baseB_true h
    obtain ⟨m, rfl⟩ : ∃ m : Nat, b = m := ⟨b.toNat, by omega⟩
    have HR := Lib.hid (rtR_ok h)
    have HB := Lib.hid (l02Base_any (m : Int) w)
    rw [h] at HB
    clear h
    go_enter Try.func40, Try.ntmps40
    go_wp2_with fail
    refine HB.out.mono ?_
    rintro e w1 ⟨rfl, rfl⟩
    go_wp2_with fail
    refine (l08Table_any m w1 (by omega) (by omega)).mono ?_
    rintro e w2 ⟨A, C, rfl, own, hb2⟩
    go_wp2
    exact bodyPost_ret (v := .tuple #[.slice A (2 * m * m) C, .int .i64 0]) (by simp [results, Try.results40, go_sem]) rfl (rowsC_ok HR.out (tbl_len _ _) rfl own (Nat.le_refl _) (Nat.le_refl _) hb2)
end Go.Proofs.Ytmdngcoccekdgaa

/- FrmS -/
namespace Go.Proofs.Ytmdngcoccekdgaa
open Go.RowKit

theorem form_n1 {m : Nat} {rs : List Row5} {k : Nat} (h : ¬ (elt quinF rs k).1 = (rowN m k).1) : formAt m rs k = false := by simp [formAt, h]
theorem form_n2 {m : Nat} {rs : List Row5} {k : Nat} (h : ¬ (elt quinF rs k).2.1 = (rowN m k).2.1) : formAt m rs k = false := by simp [formAt, h]
theorem form_n3 {m : Nat} {rs : List Row5} {k : Nat} (h : ¬ (elt quinF rs k).2.2.1 = (rowN m k).2.2.1) : formAt m rs k = false := by simp [formAt, h]
theorem form_n4 {m : Nat} {rs : List Row5} {k : Nat} (h : inB (elt quinF rs k).2.2.2.1 0 ((m : Int) - 1) = false) : formAt m rs k = false := by simp [formAt, h]
theorem form_n5 {m : Nat} {rs : List Row5} {k : Nat} (h : inB (elt quinF rs k).2.2.2.2 0 1 = false) : formAt m rs k = false := by simp [formAt, h]
theorem form_y {m : Nat} {rs : List Row5} {k : Nat} (h1 : (elt quinF rs k).1 = (rowN m k).1) (h2 : (elt quinF rs k).2.1 = (rowN m k).2.1) (h3 : (elt quinF rs k).2.2.1 = (rowN m k).2.2.1) (h4 : inB (elt quinF rs k).2.2.2.1 0 ((m : Int) - 1) = true) (h5 : inB (elt quinF rs k).2.2.2.2 0 1 = true) : formAt m rs k = true := by simp [formAt, h1, h2, h3, h4, h5]

set_option maxRecDepth 100000 in
set_option maxHeartbeats 8000000 in
theorem l08Form_any (m : Nat) (a : Option Addr) (c : Nat) (rs : List Row5) (w : World) (ha : RdF quinF w a rs) (hm : 2 ≤ m) (hm2 : m ≤ 16) :
    Calls Try.prog 92 #[.int .i64 (m : Int), .slice a rs.length c] w fun e w' => e = .returned (.bool (formB m rs)) ∧ Below w.heap.size w w' := by
  have hx := ha.len
  obtain ⟨n, hn⟩ : ∃ n, n = 2 * m * m := ⟨_, rfl⟩
  have hn2 : n ≤ 512 := by rw [hn]; exact two_sq hm2
  have HT := Lib.hid (l08Table_any m w hm hm2)
  have HN := Lib.hid hn
  rw [← hn] at HT
  clear hn
  by_cases hl : rs.length = n
  · have hne : ((rs.length : Int) != (n : Int)) = false := by simp [hl]
    have HL := Lib.hid hl
    go_enter Try.func92, Try.ntmps92
    go_wp2_with fail
    refine HT.out.mono ?_
    rintro e w1 ⟨A, C, rfl, own, hb1⟩
    have ha1 := ha.below hb1
    have hs1 := hb1.size
    go_wp2
    go_loopw [6, 7, 8] (fun i _ _ wr => ∃ k : Nat, k ≤ rs.length ∧ i = .int .i64 k ∧ Below w1.heap.size w1 wr ∧ Hid (formTo m rs k = true)) (fun i _ _ _ => rs.length - (intOf i).toNat)
    case atStart => exact ⟨0, Nat.zero_le _, rfl, Below.refl _ _, Lib.hid rfl⟩
    case round =>
      obtain ⟨k, hk, hi, hbel, HF⟩ := hrel
      subst hi
      have hsz := hbel.size
      by_cases hlt : k < rs.length
      · obtain ⟨b, off, rfl, p0, p1, p2, p3, p4⟩ := (ha1.below hbel).at5 hlt
        have hltn : k < n := by omega
        obtain ⟨b2, off2, rfl, q0, q1, q2, q3, q4⟩ := (own.rd.below hbel).at5 (k := k) (by rw [tbl_len]; exact hltn)
        rw [tbl_at hltn] at q0 q1 q2 q3 q4
        have hq2 : b2 < wr.heap.size := World.block_lt_of_cell? _ _ q0
        have v1 : IntKind.i64.wrap ((m : Int) - 1) = (m : Int) - 1 := fits_int _ (by omega) (by omega)
        have S1 := Lib.hid fun (h : ¬ (elt quinF rs k).1 = (rowN m k).1) => form_n1 h
        have S2 := Lib.hid fun (h : ¬ (elt quinF rs k).2.1 = (rowN m k).2.1) => form_n2 h
        have S3 := Lib.hid fun (h : ¬ (elt quinF rs k).2.2.1 = (rowN m k).2.2.1) => form_n3 h
        have S4 := Lib.hid fun (h : inB (elt quinF rs k).2.2.2.1 0 ((m : Int) - 1) = false) => form_n4 h
        have S5 := Lib.hid fun (h : inB (elt quinF rs k).2.2.2.2 0 1 = false) => form_n5 (m := m) h
        have SY := Lib.hid (@form_y m rs k)
        have BF := Lib.hid fun (h : formAt m rs k = false) => formB_bad hlt h
        obtain ⟨x, hx0⟩ : ∃ x, x = elt quinF rs k := ⟨_, rfl⟩
        obtain ⟨y, hy0⟩ : ∃ y, y = rowN m k := ⟨_, rfl⟩
        rw [← hx0] at p0 p1 p2 p3 p4 S1 S2 S3 S4 S5 SY
        rw [← hy0] at q0 q1 q2 q3 q4 S1 S2 S3 SY
        clear hx0 hy0
        have HK := Lib.hid (l00In_any x.2.2.2.1 0 ((m : Int) - 1))
        have HC := Lib.hid (l00In_any x.2.2.2.2 0 1)
        by_cases h1 : x.1 = y.1
        · have t1 : (x.1 != y.1) = false := by simp [h1]
          by_cases h2 : x.2.1 = y.2.1
          · have t2 : (x.2.1 != y.2.1) = false := by simp [h2]
            by_cases h3 : x.2.2.1 = y.2.2.1
            · have t3 : (x.2.2.1 != y.2.2.1) = false := by simp [h3]
              cases h4 : inB x.2.2.2.1 0 ((m : Int) - 1) with
              | true =>
                rw [h4] at HK
                cases h5 : inB x.2.2.2.2 0 1 with
                | true =>
                  rw [h5] at HC
                  have HS := Lib.hid (formTo_succ HF.out (SY.out h1 h2 h3 h4 h5))
                  clear h1 h2 h3 h4 h5
                  go_wp2_with (go_at_call 114; (first | (with_reducible refine (HK.out _).mono ?_) | (with_reducible refine (HC.out _).mono ?_)); rintro e w9 ⟨rfl, hq⟩; subst w9)
                  go_roundw
                  case rel => exact ⟨k + 1, by omega, by go_num, (by repeat (first | exact hbel | refine Below.setCell ?_ (by first | omega | (simp <;> omega)) _ | refine Below.alloc ?_ (by first | omega | (simp <;> omega)) _ | refine Below.drew ?_)), HS⟩
                  case measure => (simp [intOf]) <;> omega
                | false =>
                  rw [h5] at HC
                  have HB := Lib.hid (BF.out (S5.out h5))
                  clear h1 h2 h3 h4 h5
                  go_wp2_with (go_at_call 114; (first | (with_reducible refine (HK.out _).mono ?_) | (with_reducible refine (HC.out _).mono ?_)); rintro e w9 ⟨rfl, hq⟩; subst w9)
                  go_ret
                  exact ⟨ret_bool HB.out.symm, (by repeat (first | exact hb1.trans (hbel.mono hs1) | refine Below.setCell ?_ (by first | omega | (simp <;> omega)) _ | refine Below.alloc ?_ (by first | omega | (simp <;> omega)) _ | refine Below.drew ?_))⟩
              | false =>
                rw [h4] at HK
                have HB := Lib.hid (BF.out (S4.out h4))
                clear h1 h2 h3 h4
                go_wp2_with (go_at_call 114; (first | (with_reducible refine (HK.out _).mono ?_) | (with_reducible refine (HC.out _).mono ?_)); rintro e w9 ⟨rfl, hq⟩; subst w9)
                go_ret
                exact ⟨ret_bool HB.out.symm, (by repeat (first | exact hb1.trans (hbel.mono hs1) | refine Below.setCell ?_ (by first | omega | (simp <;> omega)) _ | refine Below.alloc ?_ (by first | omega | (simp <;> omega)) _ | refine Below.drew ?_))⟩
            · have t3 : (x.2.2.1 != y.2.2.1) = true := by simp [h3]
              have HB := Lib.hid (BF.out (S3.out h3))
              clear h1 h2 h3
              go_wp2_with (go_at_call 114; (first | (with_reducible refine (HK.out _).mono ?_) | (with_reducible refine (HC.out _).mono ?_)); rintro e w9 ⟨rfl, hq⟩; subst w9)
              go_ret
              exact ⟨ret_bool HB.out.symm, (by repeat (first | exact hb1.trans (hbel.mono hs1) | refine Below.setCell ?_ (by first | omega | (simp <;> omega)) _ | refine Below.alloc ?_ (by first | omega | (simp <;> omega)) _ | refine Below.drew ?_))⟩
          · have t2 : (x.2.1 != y.2.1) = true := by simp [h2]
            have HB := Lib.hid (BF.out (S2.out h2))
            clear h1 h2
            go_wp2_with (go_at_call 114; (first | (with_reducible refine (HK.out _).mono ?_) | (with_reducible refine (HC.out _).mono ?_)); rintro e w9 ⟨rfl, hq⟩; subst w9)
            go_ret
            exact ⟨ret_bool HB.out.symm, (by repeat (first | exact hb1.trans (hbel.mono hs1) | refine Below.setCell ?_ (by first | omega | (simp <;> omega)) _ | refine Below.alloc ?_ (by first | omega | (simp <;> omega)) _ | refine Below.drew ?_))⟩
        · have t1 : (x.1 != y.1) = true := by simp [h1]
          have HB := Lib.hid (BF.out (S1.out h1))
          clear h1
          go_wp2_with (go_at_call 114; (first | (with_reducible refine (HK.out _).mono ?_) | (with_reducible refine (HC.out _).mono ?_)); rintro e w9 ⟨rfl, hq⟩; subst w9)
          go_ret
          exact ⟨ret_bool HB.out.symm, (by repeat (first | exact hb1.trans (hbel.mono hs1) | refine Below.setCell ?_ (by first | omega | (simp <;> omega)) _ | refine Below.alloc ?_ (by first | omega | (simp <;> omega)) _ | refine Below.drew ?_))⟩
      · obtain rfl : k = rs.length := by omega
        have HB := Lib.hid (formB_all (by rw [HL.out, HN.out]) HF.out)
        go_wp2
        go_ret
        exact ⟨ret_bool HB.out.symm, hb1.trans (hbel.mono hs1)⟩
  · have hne : ((rs.length : Int) != (n : Int)) = true := by simp; omega
    have HB := Lib.hid (formB_len (m := m) (rs := rs) (by rw [← HN.out]; exact hl))
    clear hl
    go_enter Try.func92, Try.ntmps92
    go_wp2_with fail
    refine HT.out.mono ?_
    rintro e w1 ⟨A, C, rfl, own, hb1⟩
    go_wp2
    go_ret
    exact ⟨ret_bool HB.out.symm, hb1⟩
theorem l08Form_at {v : Bool} (m : Nat) (a : Option Addr) (c : Nat) (rs : List Row5) (w : World) (hv : formB m rs = v) (ha : RdF quinF w a rs) (hm : 2 ≤ m) (hm2 : m ≤ 16) :
    Calls Try.prog 92 #[.int .i64 (m : Int), .slice a rs.length c] w fun e w' => e = .returned (.bool v) ∧ Below w.heap.size w w' := by
  subst hv; exact l08Form_any m a c rs w ha hm hm2
end Go.Proofs.Ytmdngcoccekdgaa

/- TfS -/
namespace Go.Proofs.Ytmdngcoccekdgaa
open Go.RowKit

theorem row_same {m : Nat} {rs : List Row5} {k : Nat} (h : formAt m rs k = true) (h1 : (elt quinF rs k).2.2.2.1 = (rowN m k).2.2.2.1) (h2 : (elt quinF rs k).2.2.2.2 = (rowN m k).2.2.2.2) : elt quinF rs k = rowN m k := by
  obtain ⟨a1, a2, a3, _⟩ := formAt_row h
  exact Prod.ext a1 (Prod.ext a2 (Prod.ext a3 (Prod.ext h1 h2)))

set_option maxRecDepth 100000 in
set_option maxHeartbeats 4000000 in
theorem l08Wrong_any (m : Nat) (a : Option Addr) (c : Nat) (rs : List Row5) (w : World) (ha : RdF quinF w a rs) (hm : 2 ≤ m) (hm2 : m ≤ 16) (hf : formB m rs = true) :
    Calls Try.prog 90 #[.int .i64 (m : Int), .slice a rs.length c] w fun e w' => e = .returned (.int .i64 (wrongTo m rs rs.length)) ∧ Below w.heap.size w w' := by
  have hx := ha.len
  have hF : rs.length = 2 * m * m ∧ formTo m rs rs.length = true := by simp only [formB, Bool.and_eq_true, decide_eq_true_eq] at hf; exact hf
  obtain ⟨n, hn⟩ : ∃ n, n = 2 * m * m := ⟨_, rfl⟩
  have hn2 : n ≤ 512 := by rw [hn]; exact two_sq hm2
  have HT := Lib.hid (l08Table_any m w hm hm2)
  rw [← hn] at HT hF
  have hl := hF.1
  have HF := Lib.hid hF.2
  clear hn hF hf
  go_enter Try.func90, Try.ntmps90
  go_wp2_with fail
  refine HT.out.mono ?_
  rintro e w1 ⟨A, C, rfl, own, hb1⟩
  have ha1 := ha.below hb1
  have hs1 := hb1.size
  go_wp2
  go_loopw [6] (fun i wr => ∃ k : Nat, k ≤ rs.length ∧ i = .int .i64 k ∧ Below w1.heap.size w1 wr ∧ Hid (wrongTo m rs k = -1)) (fun i _ => rs.length - (intOf i).toNat)
  case atStart => exact ⟨0, Nat.zero_le _, rfl, Below.refl _ _, Lib.hid rfl⟩
  case round =>
    obtain ⟨k, hk, hi, hbel, HW⟩ := hrel
    subst hi
    have hsz := hbel.size
    by_cases hlt : k < rs.length
    · obtain ⟨b, off, rfl, p0, p1, p2, p3, p4⟩ := (ha1.below hbel).at5 hlt
      have hltn : k < n := by omega
      obtain ⟨b2, off2, rfl, q0, q1, q2, q3, q4⟩ := (own.rd.below hbel).at5 (k := k) (by rw [tbl_len]; exact hltn)
      rw [tbl_at hltn] at q0 q1 q2 q3 q4
      obtain ⟨a1, a2, a3, _⟩ := formAt_row (formTo_at HF.out k hlt)
      have t1 : ((elt quinF rs k).1 == (rowN m k).1) = true := by simp [a1]
      have t2 : ((elt quinF rs k).2.1 == (rowN m k).2.1) = true := by simp [a2]
      have t3 : ((elt quinF rs k).2.2.1 == (rowN m k).2.2.1) = true := by simp [a3]
      have SY := Lib.hid fun h1 h2 => wrongTo_same (row_same (formTo_at HF.out k hlt) h1 h2)
      have S4 := Lib.hid fun (h : ¬ (elt quinF rs k).2.2.2.1 = (rowN m k).2.2.2.1) => wrongTo_first HW.out (show elt quinF rs k ≠ rowN m k by intro e; exact h (by rw [e])) hlt
      have S5 := Lib.hid fun (h : ¬ (elt quinF rs k).2.2.2.2 = (rowN m k).2.2.2.2) => wrongTo_first HW.out (show elt quinF rs k ≠ rowN m k by intro e; exact h (by rw [e])) hlt
      obtain ⟨x, hx0⟩ : ∃ x, x = elt quinF rs k := ⟨_, rfl⟩
      obtain ⟨y, hy0⟩ : ∃ y, y = rowN m k := ⟨_, rfl⟩
      rw [← hx0] at p0 p1 p2 p3 p4 S4 S5 SY t1 t2 t3
      rw [← hy0] at q0 q1 q2 q3 q4 S4 S5 SY t1 t2 t3
      clear hx0 hy0 a1 a2 a3
      have c0 := kept_after p0
      have c1 := kept_after p1
      have c2 := kept_after p2
      have c3 := kept_after p3
      have c4 := kept_after p4
      have d0 := kept_after q0
      have d1 := kept_after q1
      have d2 := kept_after q2
      have d3 := kept_after q3
      have d4 := kept_after q4
      clear p0 p1 p2 p3 p4 q0 q1 q2 q3 q4
      by_cases h4 : x.2.2.2.1 = y.2.2.2.1
      · have t4 : (x.2.2.2.1 == y.2.2.2.1) = true := by simp [h4]
        by_cases h5 : x.2.2.2.2 = y.2.2.2.2
        · have t5 : (x.2.2.2.2 == y.2.2.2.2) = true := by simp [h5]
          have HS := Lib.hid ((SY.out h4 h5).trans HW.out)
          clear h4 h5
          go_wp2
          refine wp_region_after (by kernel_rfl) (by kernel_rfl) ?_
          repeat (go_big_quiet_step (fail))
          refine wpQuiet_nil ?_
          intro u
          go_wp2
          go_roundw
          case rel => exact ⟨k + 1, by omega, by go_num, hbel.trans (u.ok.mono hsz), HS⟩
          case measure => (simp [intOf]) <;> omega
        · have t5 : (x.2.2.2.2 == y.2.2.2.2) = false := by simp [h5]
          have HB := Lib.hid (S5.out h5)
          clear h4 h5
          go_wp2
          refine wp_region_after (by kernel_rfl) (by kernel_rfl) ?_
          repeat (go_big_quiet_step (fail))
          refine wpQuiet_nil ?_
          intro u
          go_wp2
          go_ret
          exact ⟨ret_int HB.out.symm, hb1.trans ((hbel.trans (u.ok.mono hsz)).mono hs1)⟩
      · have t4 : (x.2.2.2.1 == y.2.2.2.1) = false := by simp [h4]
        have HB := Lib.hid (S4.out h4)
        clear h4
        go_wp2
        refine wp_region_after (by kernel_rfl) (by kernel_rfl) ?_
        repeat (go_big_quiet_step (fail))
        refine wpQuiet_nil ?_
        intro u
        go_wp2
        go_ret
        exact ⟨ret_int HB.out.symm, hb1.trans ((hbel.trans (u.ok.mono hsz)).mono hs1)⟩
    · obtain rfl : k = rs.length := by omega
      go_wp2
      go_ret
      exact ⟨ret_int HW.out.symm, hb1.trans (hbel.mono hs1)⟩

theorem tf_base {b : Int} {rs : List Row5} (h : baseB b = false) : tfR b rs = (0, 2) := by simp [tfR, h]
theorem tf_form {m : Nat} {rs : List Row5} (h : baseB (m : Int) = true) (h2 : formB m rs = false) : tfR (m : Int) rs = (0, 8) := by simp [tfR, h, h2]
theorem tf_ok {m : Nat} {rs : List Row5} (h : baseB (m : Int) = true) (h2 : formB m rs = true) : tfR (m : Int) rs = (wrongTo m rs rs.length, 0) := by simp [tfR, h, h2]

set_option maxHeartbeats 1000000 in
theorem l08Code_any (b : Int) (a : Option Addr) (c : Nat) (rs : List Row5) (w : World) (ha : RdF quinF w a rs) :
    Calls Try.prog 59 #[.int .i64 b, .slice a rs.length c] w fun e w' => e = .returned (.int .i64 (tfR b rs).2) ∧ Below w.heap.size w w' := by
  have HB := Lib.hid (l02Base_any b w)
  cases h : baseB b with
  | false =>
    rw [h] at HB
    rw [tf_base h]
    go_enter Try.func59, Try.ntmps59
    go_wp2_with fail
    refine HB.out.mono ?_
    rintro e w1 ⟨rfl, rfl⟩
    go_wp2
    go_ret
    exact ⟨rfl, Below.refl _ _⟩
  | true =>
    rw [h] at HB
    have hb := baseB_true h
    obtain ⟨m, rfl⟩ : ∃ m : Nat, b = m := ⟨b.toNat, by omega⟩
    cases h2 : formB m rs with
    | false =>
      rw [tf_form h h2]
      go_enter Try.func59, Try.ntmps59
      go_wp2_with fail
      refine HB.out.mono ?_
      rintro e w1 ⟨rfl, rfl⟩
      go_wp2_with fail
      refine (l08Form_at m a c rs w1 h2 ha (by omega) (by omega)).mono ?_
      rintro e w2 ⟨rfl, hb2⟩
      go_wp2
      go_ret
      exact ⟨rfl, hb2⟩
    | true =>
      rw [tf_ok h h2]
      go_enter Try.func59, Try.ntmps59
      go_wp2_with fail
      refine HB.out.mono ?_
      rintro e w1 ⟨rfl, rfl⟩
      go_wp2_with fail
      refine (l08Form_at m a c rs w1 h2 ha (by omega) (by omega)).mono ?_
      rintro e w2 ⟨rfl, hb2⟩
      go_wp2
      go_ret
      exact ⟨rfl, hb2⟩

set_option maxHeartbeats 1000000 in
theorem specTableFault (b : Int) (a : Option Addr) (c : Nat) (rs : List Row5) (w : World) (_ : I64 b) (ha : RdF quinF w a rs) (_ : All5 rs) :
    Calls Try.prog 46 #[.int .i64 b, .slice a rs.length c] w fun e w' => e = .returned (.tuple #[.int .i64 (tfR b rs).1, .int .i64 (tfR b rs).2]) ∧ Below w.heap.size w w' := by
  have HC := Lib.hid (l08Code_any b a c rs w ha)
  by_cases h0 : (tfR b rs).2 = 0
  · have ht : ((tfR b rs).2 != 0) = false := by simp [h0]
    have hbs : baseB b = true := by
      cases h : baseB b with
      | true => rfl
      | false => rw [tf_base h] at h0; cases h0
    have hb := baseB_true hbs
    obtain ⟨m, rfl⟩ : ∃ m : Nat, b = m := ⟨b.toNat, by omega⟩
    have hf : formB m rs = true := by
      cases h : formB m rs with
      | true => rfl
      | false => rw [tf_form hbs h] at h0; cases h0
    have HW := Lib.hid fun v (hv : Below w.heap.size w v) => l08Wrong_any m a c rs v (ha.below hv) (by omega) (by omega) hf
    have HR := Lib.hid (tf_ok hbs hf)
    clear h0 hbs hb hf
    go_enter Try.func46, Try.ntmps46
    go_wp2_with fail
    refine HC.out.mono ?_
    rintro e w1 ⟨rfl, hb1⟩
    go_wp2_with fail
    refine (HW.out w1 hb1).mono ?_
    rintro e w2 ⟨rfl, hb2⟩
    go_wp2
    exact bodyPost_ret (v := .tuple #[.int .i64 (wrongTo m rs rs.length), .int .i64 0]) (by simp [results, Try.results46, go_sem]) rfl ⟨ret_two HR.out, hb1.trans (hb2.mono hb1.size)⟩
  · have ht : ((tfR b rs).2 != 0) = true := by simp [h0]
    have HR := Lib.hid (show tfR b rs = (0, (tfR b rs).2) by unfold tfR at h0 ⊢; split <;> (try split) <;> simp_all)
    clear h0
    go_enter Try.func46, Try.ntmps46
    go_wp2_with fail
    refine HC.out.mono ?_
    rintro e w1 ⟨rfl, hb1⟩
    go_wp2
    exact bodyPost_ret (v := .tuple #[.int .i64 0, .int .i64 (tfR b rs).2]) (by simp [results, Try.results46, go_sem]) rfl ⟨by rw [show (tfR b rs).1 = 0 by rw [HR.out]], hb1⟩
end Go.Proofs.Ytmdngcoccekdgaa

/- RowsF -/
namespace Go.Proofs.Ytmdngcoccekdgaa
open Go.RowKit Go.Shelf

attribute [local go_sem] Oper.semAt_some

/-- The first n indices of N. -/
def rwk (N : Nat) : Nat → List (Fin N)
  | 0 => []
  | n + 1 => if h : n < N then rwk N n ++ [⟨n, h⟩] else rwk N n
theorem rwk_succ {N n : Nat} (h : n < N) : rwk N (n + 1) = rwk N n ++ [⟨n, h⟩] := by rw [rwk, dif_pos h]
theorem rwk_len {N : Nat} : ∀ {n : Nat}, n ≤ N → (rwk N n).length = n
  | 0, _ => rfl
  | n + 1, h => by rw [rwk_succ (by omega), List.length_append, rwk_len (by omega)]; rfl
theorem snoc_rwk {N : Nat} {pre : List (Fin N)} {x : Fin N} (hl : pre.length < N) (h : pre ++ [x] = rwk N (pre ++ [x]).length) : pre = rwk N pre.length ∧ x.1 = pre.length := by
  rw [List.length_append, List.length_singleton, rwk_succ hl] at h
  obtain ⟨h1, h2⟩ := List.append_inj' h rfl
  exact ⟨h1, by injection h2 with h3; rw [h3]⟩
theorem KeepF.drewF_ {n₀ Bs : Nat} {W W' : World} (h : KeepF n₀ Bs W W') (k : Nat) : KeepF n₀ Bs W (W'.drewN k) := ⟨h.1.trans (bel_drewN (Below.refl _ _) k), by rw [← h.2]; rfl⟩
theorem idx_ltF {m i a c p : Nat} (hp : p = i * m * m + a * m + c) (hi : i < 2) (ha : a < m) (hc : c < m) : p < 2 * m * m := by
  have h1 : i * m * m + a * m + c < i * m * m + (a + 1) * m := by rw [Nat.add_mul]; omega
  have h2 : i * m * m + (a + 1) * m ≤ i * m * m + m * m := Nat.add_le_add_left (Nat.mul_le_mul_right m (by omega)) _
  have h3 : i * m * m + m * m = (i + 1) * m * m := by rw [Nat.add_mul, Nat.add_mul, Nat.one_mul]
  have h4 : (i + 1) * m * m ≤ 2 * m * m := Nat.mul_le_mul_right m (Nat.mul_le_mul_right m (by omega))
  omega

set_option maxRecDepth 100000 in
set_option maxHeartbeats 4000000 in
theorem rowsF1_in (n : Nat) (hn : 1 ≤ n) (l Bs n₀ m : Nat) (hm : 2 ≤ m) (hm2 : m ≤ 16)
    (J Jx : List (Fin (2 * m * m)) → World → Prop) (B : Nat) (hJ : AbidesFrom B J)
    (hY : ∀ (pre : List (Fin (2 * m * m))) (x : Fin (2 * m * m)) (W : World), J pre W → pre.length < 2 * m * m → YieldAt Fence.wide (n - 1) Try.prog l #[.int .i64 (x.1 : Int), .agg #[.int .i64 (rowN m x.1).1, .int .i64 (rowN m x.1).2.1, .int .i64 (rowN m x.1).2.2.1, .int .i64 (rowN m x.1).2.2.2.1, .int .i64 (rowN m x.1).2.2.2.2]] W fun e W' =>
      (e = .returned (.bool true) ∧ J (pre ++ [x]) W' ∧ KeepF n₀ Bs W W') ∨ (e = .returned (.bool false) ∧ Jx (pre ++ [x]) W'))
    (W : World) (hBs : W.cell? ⟨Bs, 0, none⟩ = some (.int .i64 (m : Int))) (h0 : J [] W) :
    CallsIn Fence.wide n Try.prog 121 #[.func (.yield l) #[] #[], .pointer (some ⟨Bs, 0, none⟩)] W fun e W' => (∃ v, e = .returned v) ∧
      ((∃ ys, ys = rwk (2 * m * m) (2 * m * m) ∧ J ys W') ∨ (∃ pre, (∃ k, k ≤ 2 * m * m ∧ pre = rwk (2 * m * m) k) ∧ Jx pre W')) := by
  have hro : Fence.wide.round = none := rfl
  have hF : Fence.wide.fn 121 := trivial
  have hsq := Nat.mul_le_mul hm2 hm2
  have hsq2 : 2 * m * m = 2 * (m * m) := Nat.mul_assoc _ _ _
  refine callsIn_of_wp Try.func121 rfl hF ?_ hro
  simp only [Try.ntmps121, List.size_toArray, List.length_cons, List.length_nil, Nat.reduceAdd, Nat.reduceSub, Array.replicate_succ, Array.replicate_zero, List.push_toArray, List.append_toArray, List.nil_append, List.cons_append]
  refine wpIn_scope_straight hro ?_
  gi_wp2
  refine wpIn_label ?_
  gi_wp2
  gi_loopw [3, 4, 5, 6, 7, 8] (fun ix _ _ _ _ ci wr => ∃ p i : Nat, i ≤ 2 ∧ Hid (p = i * m * m) ∧ ix = .int .i64 (p : Int) ∧ ci = .int .i64 (i : Int) ∧ J (rwk (2 * m * m) p) wr ∧ KeepF n₀ Bs W wr) (fun _ _ _ _ _ ci _ => (2 - (intOf ci).toNat))
  case atStart => exact ⟨0, 0, by omega, Lib.hid (by simp), rfl, rfl, h0, KeepF.refl _ _ _⟩
  case round =>
    obtain ⟨p, i, hi, HP, hx, hc, hJs, hnx⟩ := hrel
    subst hx hc
    by_cases hlt : i < 2
    · have hBr := hnx.cell hBs
      have hd2 : decide ((i : Int) < 2) = true := decide_eq_true (by omega)
      gi_wp2
      gi_loopw [3, 5, 6, 7, 12] (fun ix _ _ _ ca wr => ∃ p' a : Nat, a ≤ m ∧ Hid (p' = i * m * m + a * m) ∧ ix = .int .i64 (p' : Int) ∧ ca = .int .i64 (a : Int) ∧ J (rwk (2 * m * m) p') wr ∧ KeepF n₀ Bs W wr) (fun _ _ _ _ ca _ => (m - (intOf ca).toNat))
      case atStart => exact ⟨p, 0, by omega, Lib.hid (by rw [HP.out]; omega), rfl, rfl, hJs, hnx⟩
      case round =>
        obtain ⟨p', a, ha, HP', hx, hc, hJs', hnx'⟩ := hrel
        subst hx hc
        by_cases hlta : a < m
        · have hBr' := hnx'.cell hBs
          gi_wp2
          gi_loopw [3, 6, 7, 16] (fun ix _ _ cc wr => ∃ q c : Nat, c ≤ m ∧ Hid (q = i * m * m + a * m + c) ∧ ix = .int .i64 (q : Int) ∧ cc = .int .i64 (c : Int) ∧ J (rwk (2 * m * m) q) wr ∧ KeepF n₀ Bs W wr) (fun _ _ _ cc _ => (m - (intOf cc).toNat))
          case atStart => exact ⟨p', 0, by omega, Lib.hid (by rw [HP'.out]; omega), rfl, rfl, hJs', hnx'⟩
          case round =>
            obtain ⟨q, c, hc, HQ, hx, hcc, hJq, hnq⟩ := hrel
            subst hx hcc
            by_cases hltc : c < m
            · have hBq := hnq.cell hBs
              obtain ⟨t, ht⟩ : ∃ t, t = i + a + c := ⟨_, rfl⟩
              obtain ⟨rr, hrr⟩ : ∃ rr, rr = t % m := ⟨_, rfl⟩
              obtain ⟨qq, hqq⟩ : ∃ qq, qq = t / m := ⟨_, rfl⟩
              have HR := Lib.hid (show mkRow m i a c = ((i : Int), (a : Int), (c : Int), (rr : Int), (qq : Int)) by rw [mkRow, ← ht, ← hrr, ← hqq])
              have hw1 : IntKind.i64.wrap ((i : Int) + (a : Int)) = (i : Int) + a := IntWalk.i64_in _ (by omega)
              have hw2 : IntKind.i64.wrap ((i : Int) + (a : Int) + (c : Int)) = (t : Int) := by rw [IntWalk.i64_in _ (by omega)]; omega
              have e1 : (t : Int).tmod (m : Int) = (rr : Int) := by rw [hrr, ← Int.ofNat_tmod]
              have e2 : (t : Int).tdiv (m : Int) = (qq : Int) := by rw [hqq, ← Int.ofNat_tdiv]
              have hqb : qq ≤ t := by rw [hqq]; exact Nat.div_le_self _ _
              have hw3 : IntKind.i64.wrap (qq : Int) = (qq : Int) := IntWalk.i64_in _ (by omega)
              have hm0 : ¬ m = 0 := by omega
              have HI := Lib.hid (idx_ltF HQ.out hlt hlta hltc)
              have HM := Lib.hid (show rowN m q = ((i : Int), (a : Int), (c : Int), (rr : Int), (qq : Int)) by rw [HQ.out, idx_row hlta hltc, HR.out])
              have HS := Lib.hid (rwk_succ HI.out)
              clear ht hrr hqq
              obtain ⟨fn, tmps, assign, body, hy, hYR⟩ := hY _ ⟨q, HI.out⟩ wr.drew (hJ _ _ _ none hJq ⟨rfl, rfl, rfl, Nat.le_refl _, fun _ _ _ => rfl⟩ (fun r e => by cases e)) (by rw [rwk_len (Nat.le_of_lt HI.out)]; exact HI.out)
              rw [← HS.out] at hYR
              dsimp only at hy
              rw [HM.out] at hy
              dsimp only at hy
              replace hYR := hYR.mono (fun e W' h => (show ∃ b : Bool, e = .returned (.bool b) ∧ ((b = true ∧ J (rwk (2 * m * m) (q + 1)) W' ∧ KeepF n₀ Bs wr.drew W') ∨ (b = false ∧ Jx (rwk (2 * m * m) (q + 1)) W')) from h.elim (fun h => ⟨true, h.1, .inl ⟨rfl, h.2⟩⟩) (fun h => ⟨false, h.1, .inr ⟨rfl, h.2⟩⟩)))
              have hmo : Try.prog.follows .mixedOrders = true := by kernel_rfl
              have hBd : wr.drew.cell? ⟨Bs, 0, none⟩ = some (.int .i64 (m : Int)) := hBq
              gi_wp2
              gi_region_with_o (refine hYR.mono ?_; rintro e W3 ⟨b, rfl, hW3⟩)
              all_goals simp only [Act.put, List.setIfInBounds_toArray, List.set_cons_succ, List.set_cons_zero, List.getElem_toArray, List.getElem_cons_succ, List.getElem_cons_zero]
              all_goals have hq5 : q ≤ 600 := by have := HI.out; omega
              all_goals rcases hW3 with ⟨rfl, hJ3, hk3⟩ | ⟨rfl, hJx3⟩
              iterate 2
                next =>
                  have hkk := keepF_t (hnq.drewF_ 1) hk3
                  gi_wp2
                  go_roundw
                  case rel => exact ⟨q + 1, c + 1, by omega, Lib.hid (by rw [HQ.out]; omega), by go_num, by go_num, hJ3, hkk⟩
                  case measure => (simp [intOf]) <;> omega
                next =>
                  gi_wp2
                  rw [Exit.noGoto_normal]
                  go_end0
                  exact ⟨⟨_, rfl⟩, .inr ⟨_, ⟨q + 1, HI.out, rfl⟩, hJx3⟩⟩
            · obtain rfl : c = m := by omega
              gi_wp2
              go_roundw
              case rel => exact ⟨q, a + 1, by omega, Lib.hid (by rw [HQ.out, Nat.add_mul, Nat.one_mul]; omega), rfl, by go_num, hJq, hnq⟩
              case measure => (simp [intOf]) <;> omega
        · obtain rfl : a = m := by omega
          gi_wp2
          go_roundw
          case rel => exact ⟨p', i + 1, by omega, Lib.hid (by rw [HP'.out, Nat.add_mul, Nat.add_mul, Nat.one_mul]), rfl, by go_num, hJs', hnx'⟩
          case measure => (simp [intOf]) <;> omega
    · obtain rfl : i = 2 := by omega
      gi_wp2
      rw [Exit.noGoto_normal]
      go_end0
      exact ⟨⟨_, rfl⟩, .inl ⟨_, by rw [HP.out], hJs⟩⟩

set_option maxHeartbeats 1000000 in
theorem rightRowsF_in (n : Nat) (b : Int) (w : World) :
    CallsIn Fence.wide n Try.prog 88 #[.int .i64 b] w fun e w' => e = .returned (.func (.func 121) #[] #[.pointer (some ⟨w.heap.size, 0, none⟩)]) ∧ w' = w.alloc (.cells #[.int .i64 b] 2) := by
  have hro : Fence.wide.round = none := rfl
  refine callsIn_of_wp Try.func88 rfl trivial ?_ hro
  simp only [Try.ntmps88, List.size_toArray, List.length_cons, List.length_nil, Nat.reduceAdd, Nat.reduceSub, Array.replicate_succ, Array.replicate_zero, List.push_toArray, List.append_toArray, List.nil_append, List.cons_append]
  gi_wp2
  go_ret
  exact ⟨rfl, rfl⟩

theorem rowsF_stops (n : Nat) (hn : 1 ≤ n) (Bs n₀ m : Nat) (hm : 2 ≤ m) (hm2 : m ≤ 16) (w : World) (hBs : Bs < w.heap.size) (hc : w.cell? ⟨Bs, 0, none⟩ = some (.int .i64 (m : Int))) :
    SeqStopsK Fence.wide n Try.prog 121 #[.pointer (some ⟨Bs, 0, none⟩)] (fun x : Fin (2 * m * m) => #[.int .i64 (x.1 : Int), .agg #[.int .i64 (rowN m x.1).1, .int .i64 (rowN m x.1).2.1, .int .i64 (rowN m x.1).2.2.1, .int .i64 (rowN m x.1).2.2.2.1, .int .i64 (rowN m x.1).2.2.2.2]]) (KeepF n₀ Bs)
      (fun ys => ys = rwk (2 * m * m) (2 * m * m)) (fun pre => ∃ k, k ≤ 2 * m * m ∧ pre = rwk (2 * m * m) k) (2 * m * m) w := fun l J Jx W hW hJ _ hY h0 =>
  rowsF1_in n hn l Bs n₀ m hm hm2 J Jx _ hJ hY W ((hW.cell (p := ⟨Bs, 0, none⟩) hBs).trans hc) h0
end Go.Proofs.Ytmdngcoccekdgaa

/- BelI -/
namespace Go.Proofs.Ytmdngcoccekdgaa
open Go.RowKit

set_option maxHeartbeats 1000000 in
theorem input_any (x : Row5) (w : World) : Calls Try.prog 108 #[.agg #[.int .i64 x.1, .int .i64 x.2.1, .int .i64 x.2.2.1, .int .i64 x.2.2.2.1, .int .i64 x.2.2.2.2]] w fun e w' => e = .returned (.agg #[.int .i64 x.1, .int .i64 x.2.1, .int .i64 x.2.2.1]) ∧ Below w.heap.size w w' := by
  go_enter Try.func108, Try.ntmps108
  go_wp2
  exact bodyPost_ret (v := .agg #[.int .i64 x.1, .int .i64 x.2.1, .int .i64 x.2.2.1]) (by simp [results, Try.results108, go_sem]) rfl ⟨rfl, (by repeat (first | exact Below.refl _ _ | refine Below.setCell ?_ (by first | omega | (simp <;> omega)) _ | refine Below.alloc ?_ (by first | omega | (simp <;> omega)) _ | refine Below.drew ?_))⟩

/-- May row x stand beside the right row y? -/
def blB (m : Nat) (x y : Row5) : Bool := (decide (x.1 = y.1) && decide (x.2.1 = y.2.1) && decide (x.2.2.1 = y.2.2.1)) && (inB x.2.2.2.1 0 ((m : Int) - 1) && inB x.2.2.2.2 0 1)
theorem blB_form (m : Nat) (rs : List Row5) (k : Nat) : blB m (elt quinF rs k) (rowN m k) = formAt m rs k := rfl

set_option maxRecDepth 100000 in
set_option maxHeartbeats 8000000 in
theorem belongs_any (m : Nat) (x y : Row5) (w : World) (hm : 2 ≤ m) (hm2 : m ≤ 16) : Calls Try.prog 103 #[.agg #[.int .i64 x.1, .int .i64 x.2.1, .int .i64 x.2.2.1, .int .i64 x.2.2.2.1, .int .i64 x.2.2.2.2], .agg #[.int .i64 y.1, .int .i64 y.2.1, .int .i64 y.2.2.1, .int .i64 y.2.2.2.1, .int .i64 y.2.2.2.2], .int .i64 (m : Int)] w fun e w' => e = .returned (.bool (blB m x y)) ∧ Below w.heap.size w w' := by
  have v1 : IntKind.i64.wrap ((m : Int) - 1) = (m : Int) - 1 := fits_int _ (by omega) (by omega)
  obtain ⟨g, hg⟩ : ∃ g, g = w.heap.size := ⟨_, rfl⟩
  obtain ⟨u, hu⟩ : ∃ u, u = (w.alloc (.cells #[.int .i64 x.1, .int .i64 x.2.1, .int .i64 x.2.2.1, .int .i64 x.2.2.2.1, .int .i64 x.2.2.2.2] 88)).alloc (.cells #[.int .i64 y.1, .int .i64 y.2.1, .int .i64 y.2.2.1, .int .i64 y.2.2.2.1, .int .i64 y.2.2.2.2] 88) := ⟨_, rfl⟩
  have bx : Bx u g 88 #[.int .i64 x.1, .int .i64 x.2.1, .int .i64 x.2.2.1, .int .i64 x.2.2.2.1, .int .i64 x.2.2.2.2] := by rw [hu, hg]; exact (Bx.new _ _ _).alloc _
  have by_ : Bx u (g + 1) 88 #[.int .i64 y.1, .int .i64 y.2.1, .int .i64 y.2.2.1, .int .i64 y.2.2.2.1, .int .i64 y.2.2.2.2] := by rw [hu, hg]; simpa using Bx.new (w.alloc (.cells #[.int .i64 x.1, .int .i64 x.2.1, .int .i64 x.2.2.1, .int .i64 x.2.2.2.1, .int .i64 x.2.2.2.2] 88)) #[.int .i64 y.1, .int .i64 y.2.1, .int .i64 y.2.2.1, .int .i64 y.2.2.2.1, .int .i64 y.2.2.2.2] 88
  have hbel : Below w.heap.size w u := by rw [hu]; exact (by repeat (first | exact Below.refl _ _ | refine Below.setCell ?_ (by first | omega | (simp <;> omega)) _ | refine Below.alloc ?_ (by first | omega | (simp <;> omega)) _ | refine Below.drew ?_))
  have hsz := hbel.size
  have HU := Lib.hid hu
  have HG := Lib.hid hg
  clear hu hg
  have x0 := kept_all (bx.at_ 0 rfl)
  have y0 := kept_all (by_.at_ 0 rfl)
  have x1 := kept_all (bx.at_ 1 rfl)
  have y1 := kept_all (by_.at_ 1 rfl)
  have x2 := kept_all (bx.at_ 2 rfl)
  have y2 := kept_all (by_.at_ 2 rfl)
  have x3 := kept_all (bx.at_ 3 rfl)
  have y3 := kept_all (by_.at_ 3 rfl)
  have x4 := kept_all (bx.at_ 4 rfl)
  have y4 := kept_all (by_.at_ 4 rfl)
  clear bx by_
  by_cases h1 : x.1 = y.1
  · have t1 : (x.1 == y.1) = true := by simp [h1]
    by_cases h2 : x.2.1 = y.2.1
    · have t2 : (x.2.1 == y.2.1) = true := by simp [h2]
      by_cases h3 : x.2.2.1 = y.2.2.1
      · have t3 : (x.2.2.1 == y.2.2.1) = true := by simp [h3]
        have HB0 := Lib.hid (show blB m x y = (inB x.2.2.2.1 0 ((m : Int) - 1) && inB x.2.2.2.2 0 1) by simp [blB, h1, h2, h3])
        clear h1 h2 h3
        cases h4 : inB x.2.2.2.1 0 ((m : Int) - 1) with
        | true =>
          rw [h4, Bool.true_and] at HB0
          have H4 := Lib.hid h4
          obtain ⟨cb, hcb⟩ : ∃ cb, cb = inB x.2.2.2.2 0 1 := ⟨_, rfl⟩
          rw [← hcb] at HB0
          have H5 := Lib.hid hcb.symm
          clear h4 hcb
          go_enter Try.func103, Try.ntmps103
          go_upto_region 1 with fail
          rw [← HU.out, ← HG.out]
          refine wp_region_marked (fun w' => Below u.heap.size u w') 19 (by kernel_rfl) ?_
          have hS : Below u.heap.size u u.drew := (Below.refl _ _).drew
          refine wpAnyM_take (i := 0) (v := ?_) rfl (by kernel_rfl) (by kernel_rfl) (by kernel_rfl) (by kernel_rfl) (by kernel_rfl) (fun _ _ _ h => h) hS (.inl ⟨by rfl, ?_⟩) ?_
          rotate_left 1
          · intro w' hS'; go_simp; try with_reducible rfl
          simp only [Act.put, List.setIfInBounds_toArray, List.set_cons_succ, List.set_cons_zero, List.getElem_toArray, List.getElem_cons_zero]
          refine wpAnyM_take (i := 2) (v := ?_) rfl (by kernel_rfl) (by kernel_rfl) (by kernel_rfl) (by kernel_rfl) (by kernel_rfl) (fun _ _ _ h => h) hS (.inl ⟨by rfl, ?_⟩) ?_
          rotate_left 1
          · intro w' hS'; go_simp; try with_reducible rfl
          simp only [Act.put, List.setIfInBounds_toArray, List.set_cons_succ, List.set_cons_zero, List.getElem_toArray, List.getElem_cons_succ, List.getElem_cons_zero]
          refine wpAnyM_one (i := 1) (by kernel_rfl) rfl (by rfl) (fun K hK => ?_)
          go_simp
          refine (input_any x u.drew).mono ?_
          rintro e w1 ⟨rfl, hb1⟩
          replace hS : Below u.heap.size u w1 := hS.trans hb1
          refine hK _ _ (.inr hS) ?_
          try simp only [Act.put, List.setIfInBounds_toArray, List.set_cons_succ, List.set_cons_zero, List.getElem_toArray, List.getElem_cons_succ, List.getElem_cons_zero]
          clear hK K
          refine wpAnyM_one (i := 3) (by kernel_rfl) rfl (by rfl) (fun K hK => ?_)
          go_simp
          refine (input_any y w1).mono ?_
          rintro e w2 ⟨rfl, hb2⟩
          replace hS : Below u.heap.size u w2 := hS.trans (hb2.mono hS.size)
          refine hK _ _ (.inr hS) ?_
          try simp only [Act.put, List.setIfInBounds_toArray, List.set_cons_succ, List.set_cons_zero, List.getElem_toArray, List.getElem_cons_succ, List.getElem_cons_zero]
          clear hK K
          refine wpAnyM_take (i := 4) (v := ?_) rfl (by kernel_rfl) (by kernel_rfl) (by kernel_rfl) (by kernel_rfl) (by kernel_rfl) (fun _ _ _ h => h) hS (.inl ⟨by rfl, ?_⟩) ?_
          rotate_left 1
          · intro w' hS'; go_simp; try with_reducible rfl
          simp only [Act.put, List.setIfInBounds_toArray, List.set_cons_succ, List.set_cons_zero, List.getElem_toArray, List.getElem_cons_succ, List.getElem_cons_zero]
          refine wpAnyM_take (i := 5) (v := ?_) rfl (by kernel_rfl) (by kernel_rfl) (by kernel_rfl) (by kernel_rfl) (by kernel_rfl) (fun _ _ _ h => h) hS (.inl ⟨by rfl, ?_⟩) ?_
          rotate_left 1
          · intro w' hS'; go_simp; try with_reducible rfl
          simp only [Act.put, List.setIfInBounds_toArray, List.set_cons_succ, List.set_cons_zero, List.getElem_toArray, List.getElem_cons_succ, List.getElem_cons_zero]
          refine wpAnyM_take (i := 6) (v := ?_) rfl (by kernel_rfl) (by kernel_rfl) (by kernel_rfl) (by kernel_rfl) (by kernel_rfl) (fun _ _ _ h => h) hS (.inl ⟨by rfl, ?_⟩) ?_
          rotate_left 1
          · intro w' hS'; go_simp; try with_reducible rfl
          simp only [Act.put, List.setIfInBounds_toArray, List.set_cons_succ, List.set_cons_zero, List.getElem_toArray, List.getElem_cons_succ, List.getElem_cons_zero]
          refine wpAnyM_take (i := 7) (v := ?_) rfl (by kernel_rfl) (by kernel_rfl) (by kernel_rfl) (by kernel_rfl) (by kernel_rfl) (fun _ _ _ h => h) hS (.inl ⟨by rfl, ?_⟩) ?_
          rotate_left 1
          · intro w' hS'; go_simp; try with_reducible rfl
          simp only [Act.put, List.setIfInBounds_toArray, List.set_cons_succ, List.set_cons_zero, List.getElem_toArray, List.getElem_cons_succ, List.getElem_cons_zero]
          refine wpAnyM_take (i := 8) (v := ?_) rfl (by kernel_rfl) (by kernel_rfl) (by kernel_rfl) (by kernel_rfl) (by kernel_rfl) (fun _ _ _ h => h) hS (.inl ⟨by rfl, ?_⟩) ?_
          rotate_left 1
          · intro w' hS'; go_simp; try with_reducible rfl
          simp only [Act.put, List.setIfInBounds_toArray, List.set_cons_succ, List.set_cons_zero, List.getElem_toArray, List.getElem_cons_succ, List.getElem_cons_zero]
          refine wpAnyM_take (i := 9) (v := ?_) rfl (by kernel_rfl) (by kernel_rfl) (by kernel_rfl) (by kernel_rfl) (by kernel_rfl) (fun _ _ _ h => h) hS (.inl ⟨by rfl, ?_⟩) ?_
          rotate_left 1
          · intro w' hS'; go_simp; try with_reducible rfl
          simp only [Act.put, List.setIfInBounds_toArray, List.set_cons_succ, List.set_cons_zero, List.getElem_toArray, List.getElem_cons_succ, List.getElem_cons_zero]
          refine wpAnyM_one (i := 10) (by kernel_rfl) rfl (by rfl) (fun K hK => ?_)
          go_simp
          obtain ⟨w3, hw3⟩ : ∃ v, v = w2.alloc (.cells #[.int .i64 x.2.2.2.1] 2) := ⟨_, rfl⟩
          have bw3 : Bx w3 w2.heap.size 2 #[.int .i64 x.2.2.2.1] := by rw [hw3]; exact Bx.new _ _ _
          replace hS : Below u.heap.size u w3 := by rw [hw3]; exact hS.alloc hS.size _
          rw [← hw3]
          clear hw3
          refine hK _ _ (.inr hS) ?_
          try simp only [Act.put, List.setIfInBounds_toArray, List.set_cons_succ, List.set_cons_zero, List.getElem_toArray, List.getElem_cons_succ, List.getElem_cons_zero]
          clear hK K
          refine wpAnyM_one (i := 11) (by kernel_rfl) rfl (by rfl) (fun K hK => ?_)
          go_simp
          refine (within1_at 0 ((m : Int) - 1) x.2.2.2.1 w3 w2.heap.size _ (bw3.at_ 0 rfl)).mono ?_
          rintro e v3 ⟨rfl, hq⟩
          subst hq
          rw [H4.out]
          refine hK _ _ (.inr hS) ?_
          try simp only [Act.put, List.setIfInBounds_toArray, List.set_cons_succ, List.set_cons_zero, List.getElem_toArray, List.getElem_cons_succ, List.getElem_cons_zero]
          clear hK K
          refine wpAnyM_take (i := 12) (v := ?_) rfl (by kernel_rfl) (by kernel_rfl) (by kernel_rfl) (by kernel_rfl) (by kernel_rfl) (fun _ _ _ h => h) hS (.inl ⟨by rfl, ?_⟩) ?_
          rotate_left 1
          · intro w' hS'; go_simp; try with_reducible rfl
          simp only [Act.put, List.setIfInBounds_toArray, List.set_cons_succ, List.set_cons_zero, List.getElem_toArray, List.getElem_cons_succ, List.getElem_cons_zero]
          refine wpAnyM_take (i := 13) (v := ?_) rfl (by kernel_rfl) (by kernel_rfl) (by kernel_rfl) (by kernel_rfl) (by kernel_rfl) (fun _ _ _ h => h) hS (.inl ⟨by rfl, ?_⟩) ?_
          rotate_left 1
          · intro w' hS'; go_simp; try with_reducible rfl
          simp only [Act.put, List.setIfInBounds_toArray, List.set_cons_succ, List.set_cons_zero, List.getElem_toArray, List.getElem_cons_succ, List.getElem_cons_zero]
          refine wpAnyM_take (i := 14) (v := ?_) rfl (by kernel_rfl) (by kernel_rfl) (by kernel_rfl) (by kernel_rfl) (by kernel_rfl) (fun _ _ _ h => h) hS (.inl ⟨by rfl, ?_⟩) ?_
          rotate_left 1
          · intro w' hS'; go_simp; try with_reducible rfl
          simp only [Act.put, List.setIfInBounds_toArray, List.set_cons_succ, List.set_cons_zero, List.getElem_toArray, List.getElem_cons_succ, List.getElem_cons_zero]
          refine wpAnyM_take (i := 15) (v := ?_) rfl (by kernel_rfl) (by kernel_rfl) (by kernel_rfl) (by kernel_rfl) (by kernel_rfl) (fun _ _ _ h => h) hS (.inl ⟨by rfl, ?_⟩) ?_
          rotate_left 1
          · intro w' hS'; go_simp; try with_reducible rfl
          simp only [Act.put, List.setIfInBounds_toArray, List.set_cons_succ, List.set_cons_zero, List.getElem_toArray, List.getElem_cons_succ, List.getElem_cons_zero]
          refine wpAnyM_one (i := 16) (by kernel_rfl) rfl (by rfl) (fun K hK => ?_)
          go_simp
          obtain ⟨w4, hw4⟩ : ∃ v, v = v3.alloc (.cells #[.int .i64 x.2.2.2.2] 2) := ⟨_, rfl⟩
          have bw4 : Bx w4 v3.heap.size 2 #[.int .i64 x.2.2.2.2] := by rw [hw4]; exact Bx.new _ _ _
          replace hS : Below u.heap.size u w4 := by rw [hw4]; exact hS.alloc hS.size _
          rw [← hw4]
          clear hw4
          refine hK _ _ (.inr hS) ?_
          try simp only [Act.put, List.setIfInBounds_toArray, List.set_cons_succ, List.set_cons_zero, List.getElem_toArray, List.getElem_cons_succ, List.getElem_cons_zero]
          clear hK K
          refine wpAnyM_one (i := 17) (by kernel_rfl) rfl (by rfl) (fun K hK => ?_)
          go_simp
          refine (within1_at 0 1 x.2.2.2.2 w4 v3.heap.size _ (bw4.at_ 0 rfl)).mono ?_
          rintro e v4 ⟨rfl, hq⟩
          subst hq
          rw [H5.out]
          refine hK _ _ (.inr hS) ?_
          try simp only [Act.put, List.setIfInBounds_toArray, List.set_cons_succ, List.set_cons_zero, List.getElem_toArray, List.getElem_cons_succ, List.getElem_cons_zero]
          clear hK K
          refine wpAnyM_take (i := 18) (v := ?_) rfl (by kernel_rfl) (by kernel_rfl) (by kernel_rfl) (by kernel_rfl) (by kernel_rfl) (fun _ _ _ h => h) hS (.inl ⟨by rfl, ?_⟩) ?_
          rotate_left 1
          · intro w' hS'; go_simp; try with_reducible rfl
          simp only [Act.put, List.setIfInBounds_toArray, List.set_cons_succ, List.set_cons_zero, List.getElem_toArray, List.getElem_cons_succ, List.getElem_cons_zero]
          refine wpAnyM_one (i := 19) (by kernel_rfl) rfl (by rfl) (fun K hK => ?_)
          go_simp
          refine hK _ _ (.inl rfl) ?_
          clear hK K
          refine wpAnyM_done (by kernel_rfl) ?_ _
          go_wp2
          go_ret
          exact ⟨ret_bool HB0.out.symm, hbel.trans (hS.mono hsz)⟩
        | false =>
          rw [h4, Bool.false_and] at HB0
          have H4 := Lib.hid h4
          clear h4
          go_enter Try.func103, Try.ntmps103
          go_upto_region 1 with fail
          rw [← HU.out, ← HG.out]
          refine wp_region_marked (fun w' => Below u.heap.size u w') 19 (by kernel_rfl) ?_
          have hS : Below u.heap.size u u.drew := (Below.refl _ _).drew
          refine wpAnyM_take (i := 0) (v := ?_) rfl (by kernel_rfl) (by kernel_rfl) (by kernel_rfl) (by kernel_rfl) (by kernel_rfl) (fun _ _ _ h => h) hS (.inl ⟨by rfl, ?_⟩) ?_
          rotate_left 1
          · intro w' hS'; go_simp; try with_reducible rfl
          simp only [Act.put, List.setIfInBounds_toArray, List.set_cons_succ, List.set_cons_zero, List.getElem_toArray, List.getElem_cons_zero]
          refine wpAnyM_take (i := 2) (v := ?_) rfl (by kernel_rfl) (by kernel_rfl) (by kernel_rfl) (by kernel_rfl) (by kernel_rfl) (fun _ _ _ h => h) hS (.inl ⟨by rfl, ?_⟩) ?_
          rotate_left 1
          · intro w' hS'; go_simp; try with_reducible rfl
          simp only [Act.put, List.setIfInBounds_toArray, List.set_cons_succ, List.set_cons_zero, List.getElem_toArray, List.getElem_cons_succ, List.getElem_cons_zero]
          refine wpAnyM_one (i := 1) (by kernel_rfl) rfl (by rfl) (fun K hK => ?_)
          go_simp
          refine (input_any x u.drew).mono ?_
          rintro e w1 ⟨rfl, hb1⟩
          replace hS : Below u.heap.size u w1 := hS.trans hb1
          refine hK _ _ (.inr hS) ?_
          try simp only [Act.put, List.setIfInBounds_toArray, List.set_cons_succ, List.set_cons_zero, List.getElem_toArray, List.getElem_cons_succ, List.getElem_cons_zero]
          clear hK K
          refine wpAnyM_one (i := 3) (by kernel_rfl) rfl (by rfl) (fun K hK => ?_)
          go_simp
          refine (input_any y w1).mono ?_
          rintro e w2 ⟨rfl, hb2⟩
          replace hS : Below u.heap.size u w2 := hS.trans (hb2.mono hS.size)
          refine hK _ _ (.inr hS) ?_
          try simp only [Act.put, List.setIfInBounds_toArray, List.set_cons_succ, List.set_cons_zero, List.getElem_toArray, List.getElem_cons_succ, List.getElem_cons_zero]
          clear hK K
          refine wpAnyM_take (i := 4) (v := ?_) rfl (by kernel_rfl) (by kernel_rfl) (by kernel_rfl) (by kernel_rfl) (by kernel_rfl) (fun _ _ _ h => h) hS (.inl ⟨by rfl, ?_⟩) ?_
          rotate_left 1
          · intro w' hS'; go_simp; try with_reducible rfl
          simp only [Act.put, List.setIfInBounds_toArray, List.set_cons_succ, List.set_cons_zero, List.getElem_toArray, List.getElem_cons_succ, List.getElem_cons_zero]
          refine wpAnyM_take (i := 5) (v := ?_) rfl (by kernel_rfl) (by kernel_rfl) (by kernel_rfl) (by kernel_rfl) (by kernel_rfl) (fun _ _ _ h => h) hS (.inl ⟨by rfl, ?_⟩) ?_
          rotate_left 1
          · intro w' hS'; go_simp; try with_reducible rfl
          simp only [Act.put, List.setIfInBounds_toArray, List.set_cons_succ, List.set_cons_zero, List.getElem_toArray, List.getElem_cons_succ, List.getElem_cons_zero]
          refine wpAnyM_take (i := 6) (v := ?_) rfl (by kernel_rfl) (by kernel_rfl) (by kernel_rfl) (by kernel_rfl) (by kernel_rfl) (fun _ _ _ h => h) hS (.inl ⟨by rfl, ?_⟩) ?_
          rotate_left 1
          · intro w' hS'; go_simp; try with_reducible rfl
          simp only [Act.put, List.setIfInBounds_toArray, List.set_cons_succ, List.set_cons_zero, List.getElem_toArray, List.getElem_cons_succ, List.getElem_cons_zero]
          refine wpAnyM_take (i := 7) (v := ?_) rfl (by kernel_rfl) (by kernel_rfl) (by kernel_rfl) (by kernel_rfl) (by kernel_rfl) (fun _ _ _ h => h) hS (.inl ⟨by rfl, ?_⟩) ?_
          rotate_left 1
          · intro w' hS'; go_simp; try with_reducible rfl
          simp only [Act.put, List.setIfInBounds_toArray, List.set_cons_succ, List.set_cons_zero, List.getElem_toArray, List.getElem_cons_succ, List.getElem_cons_zero]
          refine wpAnyM_take (i := 8) (v := ?_) rfl (by kernel_rfl) (by kernel_rfl) (by kernel_rfl) (by kernel_rfl) (by kernel_rfl) (fun _ _ _ h => h) hS (.inl ⟨by rfl, ?_⟩) ?_
          rotate_left 1
          · intro w' hS'; go_simp; try with_reducible rfl
          simp only [Act.put, List.setIfInBounds_toArray, List.set_cons_succ, List.set_cons_zero, List.getElem_toArray, List.getElem_cons_succ, List.getElem_cons_zero]
          refine wpAnyM_take (i := 9) (v := ?_) rfl (by kernel_rfl) (by kernel_rfl) (by kernel_rfl) (by kernel_rfl) (by kernel_rfl) (fun _ _ _ h => h) hS (.inl ⟨by rfl, ?_⟩) ?_
          rotate_left 1
          · intro w' hS'; go_simp; try with_reducible rfl
          simp only [Act.put, List.setIfInBounds_toArray, List.set_cons_succ, List.set_cons_zero, List.getElem_toArray, List.getElem_cons_succ, List.getElem_cons_zero]
          refine wpAnyM_one (i := 10) (by kernel_rfl) rfl (by rfl) (fun K hK => ?_)
          go_simp
          obtain ⟨w3, hw3⟩ : ∃ v, v = w2.alloc (.cells #[.int .i64 x.2.2.2.1] 2) := ⟨_, rfl⟩
          have bw3 : Bx w3 w2.heap.size 2 #[.int .i64 x.2.2.2.1] := by rw [hw3]; exact Bx.new _ _ _
          replace hS : Below u.heap.size u w3 := by rw [hw3]; exact hS.alloc hS.size _
          rw [← hw3]
          clear hw3
          refine hK _ _ (.inr hS) ?_
          try simp only [Act.put, List.setIfInBounds_toArray, List.set_cons_succ, List.set_cons_zero, List.getElem_toArray, List.getElem_cons_succ, List.getElem_cons_zero]
          clear hK K
          refine wpAnyM_one (i := 11) (by kernel_rfl) rfl (by rfl) (fun K hK => ?_)
          go_simp
          refine (within1_at 0 ((m : Int) - 1) x.2.2.2.1 w3 w2.heap.size _ (bw3.at_ 0 rfl)).mono ?_
          rintro e v3 ⟨rfl, hq⟩
          subst hq
          rw [H4.out]
          refine hK _ _ (.inr hS) ?_
          try simp only [Act.put, List.setIfInBounds_toArray, List.set_cons_succ, List.set_cons_zero, List.getElem_toArray, List.getElem_cons_succ, List.getElem_cons_zero]
          clear hK K
          refine wpAnyM_take (i := 12) (v := ?_) rfl (by kernel_rfl) (by kernel_rfl) (by kernel_rfl) (by kernel_rfl) (by kernel_rfl) (fun _ _ _ h => h) hS (.inl ⟨by rfl, ?_⟩) ?_
          rotate_left 1
          · intro w' hS'; go_simp; try with_reducible rfl
          simp only [Act.put, List.setIfInBounds_toArray, List.set_cons_succ, List.set_cons_zero, List.getElem_toArray, List.getElem_cons_succ, List.getElem_cons_zero]
          refine wpAnyM_take (i := 13) (v := ?_) rfl (by kernel_rfl) (by kernel_rfl) (by kernel_rfl) (by kernel_rfl) (by kernel_rfl) (fun _ _ _ h => h) hS (.inl ⟨by rfl, ?_⟩) ?_
          rotate_left 1
          · intro w' hS'; go_simp; try with_reducible rfl
          simp only [Act.put, List.setIfInBounds_toArray, List.set_cons_succ, List.set_cons_zero, List.getElem_toArray, List.getElem_cons_succ, List.getElem_cons_zero]
          refine wpAnyM_take (i := 14) (v := undef) rfl (by kernel_rfl) (by kernel_rfl) (by kernel_rfl) (by kernel_rfl) (by kernel_rfl) (fun _ _ _ h => h) hS (.inr ⟨by rfl, rfl⟩) ?_
          simp only [Act.put, List.setIfInBounds_toArray, List.set_cons_succ, List.set_cons_zero, List.getElem_toArray, List.getElem_cons_succ, List.getElem_cons_zero]
          refine wpAnyM_take (i := 15) (v := undef) rfl (by kernel_rfl) (by kernel_rfl) (by kernel_rfl) (by kernel_rfl) (by kernel_rfl) (fun _ _ _ h => h) hS (.inr ⟨by rfl, rfl⟩) ?_
          simp only [Act.put, List.setIfInBounds_toArray, List.set_cons_succ, List.set_cons_zero, List.getElem_toArray, List.getElem_cons_succ, List.getElem_cons_zero]
          refine wpAnyM_take (i := 16) (v := undef) rfl (by kernel_rfl) (by kernel_rfl) (by kernel_rfl) (by kernel_rfl) (by kernel_rfl) (fun _ _ _ h => h) hS (.inr ⟨by rfl, rfl⟩) ?_
          simp only [Act.put, List.setIfInBounds_toArray, List.set_cons_succ, List.set_cons_zero, List.getElem_toArray, List.getElem_cons_succ, List.getElem_cons_zero]
          refine wpAnyM_take (i := 17) (v := undef) rfl (by kernel_rfl) (by kernel_rfl) (by kernel_rfl) (by kernel_rfl) (by kernel_rfl) (fun _ _ _ h => h) hS (.inr ⟨by rfl, rfl⟩) ?_
          simp only [Act.put, List.setIfInBounds_toArray, List.set_cons_succ, List.set_cons_zero, List.getElem_toArray, List.getElem_cons_succ, List.getElem_cons_zero]
          refine wpAnyM_take (i := 18) (v := ?_) rfl (by kernel_rfl) (by kernel_rfl) (by kernel_rfl) (by kernel_rfl) (by kernel_rfl) (fun _ _ _ h => h) hS (.inl ⟨by rfl, ?_⟩) ?_
          rotate_left 1
          · intro w' hS'; go_simp; try with_reducible rfl
          simp only [Act.put, List.setIfInBounds_toArray, List.set_cons_succ, List.set_cons_zero, List.getElem_toArray, List.getElem_cons_succ, List.getElem_cons_zero]
          refine wpAnyM_one (i := 19) (by kernel_rfl) rfl (by rfl) (fun K hK => ?_)
          go_simp
          refine hK _ _ (.inl rfl) ?_
          clear hK K
          refine wpAnyM_done (by kernel_rfl) ?_ _
          go_wp2
          go_ret
          exact ⟨ret_bool HB0.out.symm, hbel.trans (hS.mono hsz)⟩
      · have t3 : (x.2.2.1 == y.2.2.1) = false := by simp [h3]
        have HB := Lib.hid (show blB m x y = false by simp [blB, h3])
        clear h1 h2 h3
        go_enter Try.func103, Try.ntmps103
        go_upto_region 1 with fail
        rw [← HU.out, ← HG.out]
        refine wp_region_marked (fun w' => Below u.heap.size u w') 19 (by kernel_rfl) ?_
        have hS : Below u.heap.size u u.drew := (Below.refl _ _).drew
        refine wpAnyM_take (i := 0) (v := ?_) rfl (by kernel_rfl) (by kernel_rfl) (by kernel_rfl) (by kernel_rfl) (by kernel_rfl) (fun _ _ _ h => h) hS (.inl ⟨by rfl, ?_⟩) ?_
        rotate_left 1
        · intro w' hS'; go_simp; try with_reducible rfl
        simp only [Act.put, List.setIfInBounds_toArray, List.set_cons_succ, List.set_cons_zero, List.getElem_toArray, List.getElem_cons_zero]
        refine wpAnyM_take (i := 2) (v := ?_) rfl (by kernel_rfl) (by kernel_rfl) (by kernel_rfl) (by kernel_rfl) (by kernel_rfl) (fun _ _ _ h => h) hS (.inl ⟨by rfl, ?_⟩) ?_
        rotate_left 1
        · intro w' hS'; go_simp; try with_reducible rfl
        simp only [Act.put, List.setIfInBounds_toArray, List.set_cons_succ, List.set_cons_zero, List.getElem_toArray, List.getElem_cons_succ, List.getElem_cons_zero]
        refine wpAnyM_one (i := 1) (by kernel_rfl) rfl (by rfl) (fun K hK => ?_)
        go_simp
        refine (input_any x u.drew).mono ?_
        rintro e w1 ⟨rfl, hb1⟩
        replace hS : Below u.heap.size u w1 := hS.trans hb1
        refine hK _ _ (.inr hS) ?_
        try simp only [Act.put, List.setIfInBounds_toArray, List.set_cons_succ, List.set_cons_zero, List.getElem_toArray, List.getElem_cons_succ, List.getElem_cons_zero]
        clear hK K
        refine wpAnyM_one (i := 3) (by kernel_rfl) rfl (by rfl) (fun K hK => ?_)
        go_simp
        refine (input_any y w1).mono ?_
        rintro e w2 ⟨rfl, hb2⟩
        replace hS : Below u.heap.size u w2 := hS.trans (hb2.mono hS.size)
        refine hK _ _ (.inr hS) ?_
        try simp only [Act.put, List.setIfInBounds_toArray, List.set_cons_succ, List.set_cons_zero, List.getElem_toArray, List.getElem_cons_succ, List.getElem_cons_zero]
        clear hK K
        refine wpAnyM_take (i := 4) (v := ?_) rfl (by kernel_rfl) (by kernel_rfl) (by kernel_rfl) (by kernel_rfl) (by kernel_rfl) (fun _ _ _ h => h) hS (.inl ⟨by rfl, ?_⟩) ?_
        rotate_left 1
        · intro w' hS'; go_simp; try with_reducible rfl
        simp only [Act.put, List.setIfInBounds_toArray, List.set_cons_succ, List.set_cons_zero, List.getElem_toArray, List.getElem_cons_succ, List.getElem_cons_zero]
        refine wpAnyM_take (i := 5) (v := ?_) rfl (by kernel_rfl) (by kernel_rfl) (by kernel_rfl) (by kernel_rfl) (by kernel_rfl) (fun _ _ _ h => h) hS (.inl ⟨by rfl, ?_⟩) ?_
        rotate_left 1
        · intro w' hS'; go_simp; try with_reducible rfl
        simp only [Act.put, List.setIfInBounds_toArray, List.set_cons_succ, List.set_cons_zero, List.getElem_toArray, List.getElem_cons_succ, List.getElem_cons_zero]
        refine wpAnyM_take (i := 6) (v := undef) rfl (by kernel_rfl) (by kernel_rfl) (by kernel_rfl) (by kernel_rfl) (by kernel_rfl) (fun _ _ _ h => h) hS (.inr ⟨by rfl, rfl⟩) ?_
        simp only [Act.put, List.setIfInBounds_toArray, List.set_cons_succ, List.set_cons_zero, List.getElem_toArray, List.getElem_cons_succ, List.getElem_cons_zero]
        refine wpAnyM_take (i := 7) (v := undef) rfl (by kernel_rfl) (by kernel_rfl) (by kernel_rfl) (by kernel_rfl) (by kernel_rfl) (fun _ _ _ h => h) hS (.inr ⟨by rfl, rfl⟩) ?_
        simp only [Act.put, List.setIfInBounds_toArray, List.set_cons_succ, List.set_cons_zero, List.getElem_toArray, List.getElem_cons_succ, List.getElem_cons_zero]
        refine wpAnyM_take (i := 8) (v := undef) rfl (by kernel_rfl) (by kernel_rfl) (by kernel_rfl) (by kernel_rfl) (by kernel_rfl) (fun _ _ _ h => h) hS (.inr ⟨by rfl, rfl⟩) ?_
        simp only [Act.put, List.setIfInBounds_toArray, List.set_cons_succ, List.set_cons_zero, List.getElem_toArray, List.getElem_cons_succ, List.getElem_cons_zero]
        refine wpAnyM_take (i := 9) (v := undef) rfl (by kernel_rfl) (by kernel_rfl) (by kernel_rfl) (by kernel_rfl) (by kernel_rfl) (fun _ _ _ h => h) hS (.inr ⟨by rfl, rfl⟩) ?_
        simp only [Act.put, List.setIfInBounds_toArray, List.set_cons_succ, List.set_cons_zero, List.getElem_toArray, List.getElem_cons_succ, List.getElem_cons_zero]
        refine wpAnyM_take (i := 10) (v := undef) rfl (by kernel_rfl) (by kernel_rfl) (by kernel_rfl) (by kernel_rfl) (by kernel_rfl) (fun _ _ _ h => h) hS (.inr ⟨by rfl, rfl⟩) ?_
        simp only [Act.put, List.setIfInBounds_toArray, List.set_cons_succ, List.set_cons_zero, List.getElem_toArray, List.getElem_cons_succ, List.getElem_cons_zero]
        refine wpAnyM_take (i := 11) (v := undef) rfl (by kernel_rfl) (by kernel_rfl) (by kernel_rfl) (by kernel_rfl) (by kernel_rfl) (fun _ _ _ h => h) hS (.inr ⟨by rfl, rfl⟩) ?_
        simp only [Act.put, List.setIfInBounds_toArray, List.set_cons_succ, List.set_cons_zero, List.getElem_toArray, List.getElem_cons_succ, List.getElem_cons_zero]
        refine wpAnyM_take (i := 12) (v := ?_) rfl (by kernel_rfl) (by kernel_rfl) (by kernel_rfl) (by kernel_rfl) (by kernel_rfl) (fun _ _ _ h => h) hS (.inl ⟨by rfl, ?_⟩) ?_
        rotate_left 1
        · intro w' hS'; go_simp; try with_reducible rfl
        simp only [Act.put, List.setIfInBounds_toArray, List.set_cons_succ, List.set_cons_zero, List.getElem_toArray, List.getElem_cons_succ, List.getElem_cons_zero]
        refine wpAnyM_take (i := 13) (v := ?_) rfl (by kernel_rfl) (by kernel_rfl) (by kernel_rfl) (by kernel_rfl) (by kernel_rfl) (fun _ _ _ h => h) hS (.inl ⟨by rfl, ?_⟩) ?_
        rotate_left 1
        · intro w' hS'; go_simp; try with_reducible rfl
        simp only [Act.put, List.setIfInBounds_toArray, List.set_cons_succ, List.set_cons_zero, List.getElem_toArray, List.getElem_cons_succ, List.getElem_cons_zero]
        refine wpAnyM_take (i := 14) (v := undef) rfl (by kernel_rfl) (by kernel_rfl) (by kernel_rfl) (by kernel_rfl) (by kernel_rfl) (fun _ _ _ h => h) hS (.inr ⟨by rfl, rfl⟩) ?_
        simp only [Act.put, List.setIfInBounds_toArray, List.set_cons_succ, List.set_cons_zero, List.getElem_toArray, List.getElem_cons_succ, List.getElem_cons_zero]
        refine wpAnyM_take (i := 15) (v := undef) rfl (by kernel_rfl) (by kernel_rfl) (by kernel_rfl) (by kernel_rfl) (by kernel_rfl) (fun _ _ _ h => h) hS (.inr ⟨by rfl, rfl⟩) ?_
        simp only [Act.put, List.setIfInBounds_toArray, List.set_cons_succ, List.set_cons_zero, List.getElem_toArray, List.getElem_cons_succ, List.getElem_cons_zero]
        refine wpAnyM_take (i := 16) (v := undef) rfl (by kernel_rfl) (by kernel_rfl) (by kernel_rfl) (by kernel_rfl) (by kernel_rfl) (fun _ _ _ h => h) hS (.inr ⟨by rfl, rfl⟩) ?_
        simp only [Act.put, List.setIfInBounds_toArray, List.set_cons_succ, List.set_cons_zero, List.getElem_toArray, List.getElem_cons_succ, List.getElem_cons_zero]
        refine wpAnyM_take (i := 17) (v := undef) rfl (by kernel_rfl) (by kernel_rfl) (by kernel_rfl) (by kernel_rfl) (by kernel_rfl) (fun _ _ _ h => h) hS (.inr ⟨by rfl, rfl⟩) ?_
        simp only [Act.put, List.setIfInBounds_toArray, List.set_cons_succ, List.set_cons_zero, List.getElem_toArray, List.getElem_cons_succ, List.getElem_cons_zero]
        refine wpAnyM_take (i := 18) (v := ?_) rfl (by kernel_rfl) (by kernel_rfl) (by kernel_rfl) (by kernel_rfl) (by kernel_rfl) (fun _ _ _ h => h) hS (.inl ⟨by rfl, ?_⟩) ?_
        rotate_left 1
        · intro w' hS'; go_simp; try with_reducible rfl
        simp only [Act.put, List.setIfInBounds_toArray, List.set_cons_succ, List.set_cons_zero, List.getElem_toArray, List.getElem_cons_succ, List.getElem_cons_zero]
        refine wpAnyM_one (i := 19) (by kernel_rfl) rfl (by rfl) (fun K hK => ?_)
        go_simp
        refine hK _ _ (.inl rfl) ?_
        clear hK K
        refine wpAnyM_done (by kernel_rfl) ?_ _
        go_wp2
        go_ret
        exact ⟨ret_bool HB.out.symm, hbel.trans (hS.mono hsz)⟩
    · have t2 : (x.2.1 == y.2.1) = false := by simp [h2]
      have HB := Lib.hid (show blB m x y = false by simp [blB, h2])
      clear h1 h2
      go_enter Try.func103, Try.ntmps103
      go_upto_region 1 with fail
      rw [← HU.out, ← HG.out]
      refine wp_region_marked (fun w' => Below u.heap.size u w') 19 (by kernel_rfl) ?_
      have hS : Below u.heap.size u u.drew := (Below.refl _ _).drew
      refine wpAnyM_take (i := 0) (v := ?_) rfl (by kernel_rfl) (by kernel_rfl) (by kernel_rfl) (by kernel_rfl) (by kernel_rfl) (fun _ _ _ h => h) hS (.inl ⟨by rfl, ?_⟩) ?_
      rotate_left 1
      · intro w' hS'; go_simp; try with_reducible rfl
      simp only [Act.put, List.setIfInBounds_toArray, List.set_cons_succ, List.set_cons_zero, List.getElem_toArray, List.getElem_cons_zero]
      refine wpAnyM_take (i := 2) (v := ?_) rfl (by kernel_rfl) (by kernel_rfl) (by kernel_rfl) (by kernel_rfl) (by kernel_rfl) (fun _ _ _ h => h) hS (.inl ⟨by rfl, ?_⟩) ?_
      rotate_left 1
      · intro w' hS'; go_simp; try with_reducible rfl
      simp only [Act.put, List.setIfInBounds_toArray, List.set_cons_succ, List.set_cons_zero, List.getElem_toArray, List.getElem_cons_succ, List.getElem_cons_zero]
      refine wpAnyM_one (i := 1) (by kernel_rfl) rfl (by rfl) (fun K hK => ?_)
      go_simp
      refine (input_any x u.drew).mono ?_
      rintro e w1 ⟨rfl, hb1⟩
      replace hS : Below u.heap.size u w1 := hS.trans hb1
      refine hK _ _ (.inr hS) ?_
      try simp only [Act.put, List.setIfInBounds_toArray, List.set_cons_succ, List.set_cons_zero, List.getElem_toArray, List.getElem_cons_succ, List.getElem_cons_zero]
      clear hK K
      refine wpAnyM_one (i := 3) (by kernel_rfl) rfl (by rfl) (fun K hK => ?_)
      go_simp
      refine (input_any y w1).mono ?_
      rintro e w2 ⟨rfl, hb2⟩
      replace hS : Below u.heap.size u w2 := hS.trans (hb2.mono hS.size)
      refine hK _ _ (.inr hS) ?_
      try simp only [Act.put, List.setIfInBounds_toArray, List.set_cons_succ, List.set_cons_zero, List.getElem_toArray, List.getElem_cons_succ, List.getElem_cons_zero]
      clear hK K
      refine wpAnyM_take (i := 4) (v := ?_) rfl (by kernel_rfl) (by kernel_rfl) (by kernel_rfl) (by kernel_rfl) (by kernel_rfl) (fun _ _ _ h => h) hS (.inl ⟨by rfl, ?_⟩) ?_
      rotate_left 1
      · intro w' hS'; go_simp; try with_reducible rfl
      simp only [Act.put, List.setIfInBounds_toArray, List.set_cons_succ, List.set_cons_zero, List.getElem_toArray, List.getElem_cons_succ, List.getElem_cons_zero]
      refine wpAnyM_take (i := 5) (v := ?_) rfl (by kernel_rfl) (by kernel_rfl) (by kernel_rfl) (by kernel_rfl) (by kernel_rfl) (fun _ _ _ h => h) hS (.inl ⟨by rfl, ?_⟩) ?_
      rotate_left 1
      · intro w' hS'; go_simp; try with_reducible rfl
      simp only [Act.put, List.setIfInBounds_toArray, List.set_cons_succ, List.set_cons_zero, List.getElem_toArray, List.getElem_cons_succ, List.getElem_cons_zero]
      refine wpAnyM_take (i := 6) (v := undef) rfl (by kernel_rfl) (by kernel_rfl) (by kernel_rfl) (by kernel_rfl) (by kernel_rfl) (fun _ _ _ h => h) hS (.inr ⟨by rfl, rfl⟩) ?_
      simp only [Act.put, List.setIfInBounds_toArray, List.set_cons_succ, List.set_cons_zero, List.getElem_toArray, List.getElem_cons_succ, List.getElem_cons_zero]
      refine wpAnyM_take (i := 7) (v := undef) rfl (by kernel_rfl) (by kernel_rfl) (by kernel_rfl) (by kernel_rfl) (by kernel_rfl) (fun _ _ _ h => h) hS (.inr ⟨by rfl, rfl⟩) ?_
      simp only [Act.put, List.setIfInBounds_toArray, List.set_cons_succ, List.set_cons_zero, List.getElem_toArray, List.getElem_cons_succ, List.getElem_cons_zero]
      refine wpAnyM_take (i := 8) (v := undef) rfl (by kernel_rfl) (by kernel_rfl) (by kernel_rfl) (by kernel_rfl) (by kernel_rfl) (fun _ _ _ h => h) hS (.inr ⟨by rfl, rfl⟩) ?_
      simp only [Act.put, List.setIfInBounds_toArray, List.set_cons_succ, List.set_cons_zero, List.getElem_toArray, List.getElem_cons_succ, List.getElem_cons_zero]
      refine wpAnyM_take (i := 9) (v := undef) rfl (by kernel_rfl) (by kernel_rfl) (by kernel_rfl) (by kernel_rfl) (by kernel_rfl) (fun _ _ _ h => h) hS (.inr ⟨by rfl, rfl⟩) ?_
      simp only [Act.put, List.setIfInBounds_toArray, List.set_cons_succ, List.set_cons_zero, List.getElem_toArray, List.getElem_cons_succ, List.getElem_cons_zero]
      refine wpAnyM_take (i := 10) (v := undef) rfl (by kernel_rfl) (by kernel_rfl) (by kernel_rfl) (by kernel_rfl) (by kernel_rfl) (fun _ _ _ h => h) hS (.inr ⟨by rfl, rfl⟩) ?_
      simp only [Act.put, List.setIfInBounds_toArray, List.set_cons_succ, List.set_cons_zero, List.getElem_toArray, List.getElem_cons_succ, List.getElem_cons_zero]
      refine wpAnyM_take (i := 11) (v := undef) rfl (by kernel_rfl) (by kernel_rfl) (by kernel_rfl) (by kernel_rfl) (by kernel_rfl) (fun _ _ _ h => h) hS (.inr ⟨by rfl, rfl⟩) ?_
      simp only [Act.put, List.setIfInBounds_toArray, List.set_cons_succ, List.set_cons_zero, List.getElem_toArray, List.getElem_cons_succ, List.getElem_cons_zero]
      refine wpAnyM_take (i := 12) (v := ?_) rfl (by kernel_rfl) (by kernel_rfl) (by kernel_rfl) (by kernel_rfl) (by kernel_rfl) (fun _ _ _ h => h) hS (.inl ⟨by rfl, ?_⟩) ?_
      rotate_left 1
      · intro w' hS'; go_simp; try with_reducible rfl
      simp only [Act.put, List.setIfInBounds_toArray, List.set_cons_succ, List.set_cons_zero, List.getElem_toArray, List.getElem_cons_succ, List.getElem_cons_zero]
      refine wpAnyM_take (i := 13) (v := ?_) rfl (by kernel_rfl) (by kernel_rfl) (by kernel_rfl) (by kernel_rfl) (by kernel_rfl) (fun _ _ _ h => h) hS (.inl ⟨by rfl, ?_⟩) ?_
      rotate_left 1
      · intro w' hS'; go_simp; try with_reducible rfl
      simp only [Act.put, List.setIfInBounds_toArray, List.set_cons_succ, List.set_cons_zero, List.getElem_toArray, List.getElem_cons_succ, List.getElem_cons_zero]
      refine wpAnyM_take (i := 14) (v := undef) rfl (by kernel_rfl) (by kernel_rfl) (by kernel_rfl) (by kernel_rfl) (by kernel_rfl) (fun _ _ _ h => h) hS (.inr ⟨by rfl, rfl⟩) ?_
      simp only [Act.put, List.setIfInBounds_toArray, List.set_cons_succ, List.set_cons_zero, List.getElem_toArray, List.getElem_cons_succ, List.getElem_cons_zero]
      refine wpAnyM_take (i := 15) (v := undef) rfl (by kernel_rfl) (by kernel_rfl) (by kernel_rfl) (by kernel_rfl) (by kernel_rfl) (fun _ _ _ h => h) hS (.inr ⟨by rfl, rfl⟩) ?_
      simp only [Act.put, List.setIfInBounds_toArray, List.set_cons_succ, List.set_cons_zero, List.getElem_toArray, List.getElem_cons_succ, List.getElem_cons_zero]
      refine wpAnyM_take (i := 16) (v := undef) rfl (by kernel_rfl) (by kernel_rfl) (by kernel_rfl) (by kernel_rfl) (by kernel_rfl) (fun _ _ _ h => h) hS (.inr ⟨by rfl, rfl⟩) ?_
      simp only [Act.put, List.setIfInBounds_toArray, List.set_cons_succ, List.set_cons_zero, List.getElem_toArray, List.getElem_cons_succ, List.getElem_cons_zero]
      refine wpAnyM_take (i := 17) (v := undef) rfl (by kernel_rfl) (by kernel_rfl) (by kernel_rfl) (by kernel_rfl) (by kernel_rfl) (fun _ _ _ h => h) hS (.inr ⟨by rfl, rfl⟩) ?_
      simp only [Act.put, List.setIfInBounds_toArray, List.set_cons_succ, List.set_cons_zero, List.getElem_toArray, List.getElem_cons_succ, List.getElem_cons_zero]
      refine wpAnyM_take (i := 18) (v := ?_) rfl (by kernel_rfl) (by kernel_rfl) (by kernel_rfl) (by kernel_rfl) (by kernel_rfl) (fun _ _ _ h => h) hS (.inl ⟨by rfl, ?_⟩) ?_
      rotate_left 1
      · intro w' hS'; go_simp; try with_reducible rfl
      simp only [Act.put, List.setIfInBounds_toArray, List.set_cons_succ, List.set_cons_zero, List.getElem_toArray, List.getElem_cons_succ, List.getElem_cons_zero]
      refine wpAnyM_one (i := 19) (by kernel_rfl) rfl (by rfl) (fun K hK => ?_)
      go_simp
      refine hK _ _ (.inl rfl) ?_
      clear hK K
      refine wpAnyM_done (by kernel_rfl) ?_ _
      go_wp2
      go_ret
      exact ⟨ret_bool HB.out.symm, hbel.trans (hS.mono hsz)⟩
  · have t1 : (x.1 == y.1) = false := by simp [h1]
    have HB := Lib.hid (show blB m x y = false by simp [blB, h1])
    clear h1
    go_enter Try.func103, Try.ntmps103
    go_upto_region 1 with fail
    rw [← HU.out, ← HG.out]
    refine wp_region_marked (fun w' => Below u.heap.size u w') 19 (by kernel_rfl) ?_
    have hS : Below u.heap.size u u.drew := (Below.refl _ _).drew
    refine wpAnyM_take (i := 0) (v := ?_) rfl (by kernel_rfl) (by kernel_rfl) (by kernel_rfl) (by kernel_rfl) (by kernel_rfl) (fun _ _ _ h => h) hS (.inl ⟨by rfl, ?_⟩) ?_
    rotate_left 1
    · intro w' hS'; go_simp; try with_reducible rfl
    simp only [Act.put, List.setIfInBounds_toArray, List.set_cons_succ, List.set_cons_zero, List.getElem_toArray, List.getElem_cons_zero]
    refine wpAnyM_take (i := 2) (v := ?_) rfl (by kernel_rfl) (by kernel_rfl) (by kernel_rfl) (by kernel_rfl) (by kernel_rfl) (fun _ _ _ h => h) hS (.inl ⟨by rfl, ?_⟩) ?_
    rotate_left 1
    · intro w' hS'; go_simp; try with_reducible rfl
    simp only [Act.put, List.setIfInBounds_toArray, List.set_cons_succ, List.set_cons_zero, List.getElem_toArray, List.getElem_cons_succ, List.getElem_cons_zero]
    refine wpAnyM_one (i := 1) (by kernel_rfl) rfl (by rfl) (fun K hK => ?_)
    go_simp
    refine (input_any x u.drew).mono ?_
    rintro e w1 ⟨rfl, hb1⟩
    replace hS : Below u.heap.size u w1 := hS.trans hb1
    refine hK _ _ (.inr hS) ?_
    try simp only [Act.put, List.setIfInBounds_toArray, List.set_cons_succ, List.set_cons_zero, List.getElem_toArray, List.getElem_cons_succ, List.getElem_cons_zero]
    clear hK K
    refine wpAnyM_one (i := 3) (by kernel_rfl) rfl (by rfl) (fun K hK => ?_)
    go_simp
    refine (input_any y w1).mono ?_
    rintro e w2 ⟨rfl, hb2⟩
    replace hS : Below u.heap.size u w2 := hS.trans (hb2.mono hS.size)
    refine hK _ _ (.inr hS) ?_
    try simp only [Act.put, List.setIfInBounds_toArray, List.set_cons_succ, List.set_cons_zero, List.getElem_toArray, List.getElem_cons_succ, List.getElem_cons_zero]
    clear hK K
    refine wpAnyM_take (i := 4) (v := ?_) rfl (by kernel_rfl) (by kernel_rfl) (by kernel_rfl) (by kernel_rfl) (by kernel_rfl) (fun _ _ _ h => h) hS (.inl ⟨by rfl, ?_⟩) ?_
    rotate_left 1
    · intro w' hS'; go_simp; try with_reducible rfl
    simp only [Act.put, List.setIfInBounds_toArray, List.set_cons_succ, List.set_cons_zero, List.getElem_toArray, List.getElem_cons_succ, List.getElem_cons_zero]
    refine wpAnyM_take (i := 5) (v := ?_) rfl (by kernel_rfl) (by kernel_rfl) (by kernel_rfl) (by kernel_rfl) (by kernel_rfl) (fun _ _ _ h => h) hS (.inl ⟨by rfl, ?_⟩) ?_
    rotate_left 1
    · intro w' hS'; go_simp; try with_reducible rfl
    simp only [Act.put, List.setIfInBounds_toArray, List.set_cons_succ, List.set_cons_zero, List.getElem_toArray, List.getElem_cons_succ, List.getElem_cons_zero]
    refine wpAnyM_take (i := 6) (v := undef) rfl (by kernel_rfl) (by kernel_rfl) (by kernel_rfl) (by kernel_rfl) (by kernel_rfl) (fun _ _ _ h => h) hS (.inr ⟨by rfl, rfl⟩) ?_
    simp only [Act.put, List.setIfInBounds_toArray, List.set_cons_succ, List.set_cons_zero, List.getElem_toArray, List.getElem_cons_succ, List.getElem_cons_zero]
    refine wpAnyM_take (i := 7) (v := undef) rfl (by kernel_rfl) (by kernel_rfl) (by kernel_rfl) (by kernel_rfl) (by kernel_rfl) (fun _ _ _ h => h) hS (.inr ⟨by rfl, rfl⟩) ?_
    simp only [Act.put, List.setIfInBounds_toArray, List.set_cons_succ, List.set_cons_zero, List.getElem_toArray, List.getElem_cons_succ, List.getElem_cons_zero]
    refine wpAnyM_take (i := 8) (v := undef) rfl (by kernel_rfl) (by kernel_rfl) (by kernel_rfl) (by kernel_rfl) (by kernel_rfl) (fun _ _ _ h => h) hS (.inr ⟨by rfl, rfl⟩) ?_
    simp only [Act.put, List.setIfInBounds_toArray, List.set_cons_succ, List.set_cons_zero, List.getElem_toArray, List.getElem_cons_succ, List.getElem_cons_zero]
    refine wpAnyM_take (i := 9) (v := undef) rfl (by kernel_rfl) (by kernel_rfl) (by kernel_rfl) (by kernel_rfl) (by kernel_rfl) (fun _ _ _ h => h) hS (.inr ⟨by rfl, rfl⟩) ?_
    simp only [Act.put, List.setIfInBounds_toArray, List.set_cons_succ, List.set_cons_zero, List.getElem_toArray, List.getElem_cons_succ, List.getElem_cons_zero]
    refine wpAnyM_take (i := 10) (v := undef) rfl (by kernel_rfl) (by kernel_rfl) (by kernel_rfl) (by kernel_rfl) (by kernel_rfl) (fun _ _ _ h => h) hS (.inr ⟨by rfl, rfl⟩) ?_
    simp only [Act.put, List.setIfInBounds_toArray, List.set_cons_succ, List.set_cons_zero, List.getElem_toArray, List.getElem_cons_succ, List.getElem_cons_zero]
    refine wpAnyM_take (i := 11) (v := undef) rfl (by kernel_rfl) (by kernel_rfl) (by kernel_rfl) (by kernel_rfl) (by kernel_rfl) (fun _ _ _ h => h) hS (.inr ⟨by rfl, rfl⟩) ?_
    simp only [Act.put, List.setIfInBounds_toArray, List.set_cons_succ, List.set_cons_zero, List.getElem_toArray, List.getElem_cons_succ, List.getElem_cons_zero]
    refine wpAnyM_take (i := 12) (v := ?_) rfl (by kernel_rfl) (by kernel_rfl) (by kernel_rfl) (by kernel_rfl) (by kernel_rfl) (fun _ _ _ h => h) hS (.inl ⟨by rfl, ?_⟩) ?_
    rotate_left 1
    · intro w' hS'; go_simp; try with_reducible rfl
    simp only [Act.put, List.setIfInBounds_toArray, List.set_cons_succ, List.set_cons_zero, List.getElem_toArray, List.getElem_cons_succ, List.getElem_cons_zero]
    refine wpAnyM_take (i := 13) (v := ?_) rfl (by kernel_rfl) (by kernel_rfl) (by kernel_rfl) (by kernel_rfl) (by kernel_rfl) (fun _ _ _ h => h) hS (.inl ⟨by rfl, ?_⟩) ?_
    rotate_left 1
    · intro w' hS'; go_simp; try with_reducible rfl
    simp only [Act.put, List.setIfInBounds_toArray, List.set_cons_succ, List.set_cons_zero, List.getElem_toArray, List.getElem_cons_succ, List.getElem_cons_zero]
    refine wpAnyM_take (i := 14) (v := undef) rfl (by kernel_rfl) (by kernel_rfl) (by kernel_rfl) (by kernel_rfl) (by kernel_rfl) (fun _ _ _ h => h) hS (.inr ⟨by rfl, rfl⟩) ?_
    simp only [Act.put, List.setIfInBounds_toArray, List.set_cons_succ, List.set_cons_zero, List.getElem_toArray, List.getElem_cons_succ, List.getElem_cons_zero]
    refine wpAnyM_take (i := 15) (v := undef) rfl (by kernel_rfl) (by kernel_rfl) (by kernel_rfl) (by kernel_rfl) (by kernel_rfl) (fun _ _ _ h => h) hS (.inr ⟨by rfl, rfl⟩) ?_
    simp only [Act.put, List.setIfInBounds_toArray, List.set_cons_succ, List.set_cons_zero, List.getElem_toArray, List.getElem_cons_succ, List.getElem_cons_zero]
    refine wpAnyM_take (i := 16) (v := undef) rfl (by kernel_rfl) (by kernel_rfl) (by kernel_rfl) (by kernel_rfl) (by kernel_rfl) (fun _ _ _ h => h) hS (.inr ⟨by rfl, rfl⟩) ?_
    simp only [Act.put, List.setIfInBounds_toArray, List.set_cons_succ, List.set_cons_zero, List.getElem_toArray, List.getElem_cons_succ, List.getElem_cons_zero]
    refine wpAnyM_take (i := 17) (v := undef) rfl (by kernel_rfl) (by kernel_rfl) (by kernel_rfl) (by kernel_rfl) (by kernel_rfl) (fun _ _ _ h => h) hS (.inr ⟨by rfl, rfl⟩) ?_
    simp only [Act.put, List.setIfInBounds_toArray, List.set_cons_succ, List.set_cons_zero, List.getElem_toArray, List.getElem_cons_succ, List.getElem_cons_zero]
    refine wpAnyM_take (i := 18) (v := ?_) rfl (by kernel_rfl) (by kernel_rfl) (by kernel_rfl) (by kernel_rfl) (by kernel_rfl) (fun _ _ _ h => h) hS (.inl ⟨by rfl, ?_⟩) ?_
    rotate_left 1
    · intro w' hS'; go_simp; try with_reducible rfl
    simp only [Act.put, List.setIfInBounds_toArray, List.set_cons_succ, List.set_cons_zero, List.getElem_toArray, List.getElem_cons_succ, List.getElem_cons_zero]
    refine wpAnyM_one (i := 19) (by kernel_rfl) rfl (by rfl) (fun K hK => ?_)
    go_simp
    refine hK _ _ (.inl rfl) ?_
    clear hK K
    refine wpAnyM_done (by kernel_rfl) ?_ _
    go_wp2
    go_ret
    exact ⟨ret_bool HB.out.symm, hbel.trans (hS.mono hsz)⟩
end Go.Proofs.Ytmdngcoccekdgaa

/- FwI -/
namespace Go.Proofs.Ytmdngcoccekdgaa
open Go.RowKit Go.Shelf

attribute [local go_sem] Oper.semAt_some

/-- What it gives. -/
def fwR (m : Nat) (rs : List Row5) : Int × Bool := if formB m rs = true then (wrongTo m rs rs.length, true) else (0, false)
theorem fwR_bad {m : Nat} {rs : List Row5} (h : formB m rs = false) : fwR m rs = (0, false) := by simp [fwR, h]
theorem fwR_ok {m : Nat} {rs : List Row5} (h : formB m rs = true) : fwR m rs = (wrongTo m rs rs.length, true) := by simp [fwR, h]

theorem fw_keep {m k : Nat} {rs : List Row5} {v : Int} (hf : formTo m rs k = true) (h1 : formAt m rs k = true) (hv : v = wrongTo m rs k) (h : 0 ≤ v ∨ elt quinF rs k = rowN m k) : formTo m rs (k + 1) = true ∧ v = wrongTo m rs (k + 1) := by
  refine ⟨formTo_succ hf h1, ?_⟩
  rcases h with h | h
  · rw [wrongTo, if_neg (fun hh => by omega)]; exact hv
  · rw [wrongTo_same h]; exact hv
theorem fw_set {m k : Nat} {rs : List Row5} {v : Int} (hf : formTo m rs k = true) (h1 : formAt m rs k = true) (hv : v = wrongTo m rs k) (h2 : v < 0) (h3 : elt quinF rs k ≠ rowN m k) : formTo m rs (k + 1) = true ∧ (k : Int) = wrongTo m rs (k + 1) := by
  refine ⟨formTo_succ hf h1, ?_⟩
  rw [wrongTo, if_pos ⟨by have := (wrongTo_bd m rs k).1; omega, h3⟩]

/-- What lies in the boxes while the rows are walked. -/
structure FwS (X : World) (g m N c : Nat) (a : Option Addr) (v : Int) : Prop where
  b0 : Bx X g 2 #[.int .i64 (m : Int)]
  b1 : Bx X (g + 1) 24 #[.slice a N c]
  b2 : Bx X (g + 1 + 1) 2 #[.int .i64 0]
  b3 : Bx X (g + 1 + 1 + 1) 4 #[.bool false]
  b4 : Bx X (g + 1 + 1 + 1 + 1) 2 #[.int .i64 v]
  sz : g + 6 ≤ X.heap.size
theorem FwS.same {X Y : World} {g m N c : Nat} {a : Option Addr} {v : Int} (h : FwS X g m N c a v) (hk : ∀ (k : Nat) (o : Obj), X.heap[k]? = some o → o.isCells = true → Y.heap[k]? = X.heap[k]?) (hz : X.heap.size ≤ Y.heap.size) : FwS Y g m N c a v :=
  ⟨(hk _ _ h.b0 rfl).trans h.b0, (hk _ _ h.b1 rfl).trans h.b1, (hk _ _ h.b2 rfl).trans h.b2, (hk _ _ h.b3 rfl).trans h.b3, (hk _ _ h.b4 rfl).trans h.b4, Nat.le_trans h.sz hz⟩
theorem FwS.put {X : World} {g m N c : Nat} {a : Option Addr} {v : Int} (h : FwS X g m N c a v) (u : Int) : FwS (X.setCell ⟨g + 1 + 1 + 1 + 1, 0, none⟩ (.int .i64 u)) g m N c a u :=
  ⟨h.b0.far (by first | (simp; done) | (simp; omega)) _, h.b1.far (by first | (simp; done) | (simp; omega)) _, h.b2.far (by first | (simp; done) | (simp; omega)) _, h.b3.far (by first | (simp; done) | (simp; omega)) _, by simpa using h.b4.set_ 0 (.int .i64 u), by simpa using h.sz⟩
theorem fwS_new (w : World) (m N c : Nat) (a : Option Addr) : FwS ((((((w.alloc (.cells #[.int .i64 (m : Int)] 2)).alloc (.cells #[.slice a N c] 24)).alloc (.cells #[.int .i64 0] 2)).alloc (.cells #[.bool false] 4)).alloc (.cells #[.int .i64 (-1)] 2)).alloc (.cells #[.int .i64 (m : Int)] 2)) w.heap.size m N c a (-1) := by
  refine ⟨((((Bx.new _ _ _).alloc _).alloc _).alloc _).alloc _ |>.alloc _, ?_, ?_, ?_, ?_, by simp⟩
  · simpa using ((((Bx.new (w.alloc (.cells #[.int .i64 (m : Int)] 2)) #[.slice a N c] 24).alloc _).alloc _).alloc _).alloc _
  · simpa using (((Bx.new ((w.alloc (.cells #[.int .i64 (m : Int)] 2)).alloc (.cells #[.slice a N c] 24)) #[.int .i64 0] 2).alloc _).alloc _).alloc _
  · simpa using ((Bx.new (((w.alloc (.cells #[.int .i64 (m : Int)] 2)).alloc (.cells #[.slice a N c] 24)).alloc (.cells #[.int .i64 0] 2)) #[.bool false] 4).alloc _).alloc _
  · simpa using (Bx.new ((((w.alloc (.cells #[.int .i64 (m : Int)] 2)).alloc (.cells #[.slice a N c] 24)).alloc (.cells #[.int .i64 0] 2)).alloc (.cells #[.bool false] 4)) #[.int .i64 (-1)] 2).alloc _

set_option maxRecDepth 100000 in
set_option maxHeartbeats 4000000 in
theorem firstWrong_any (m : Nat) (a : Option Addr) (c : Nat) (rs : List Row5) (w : World) (ha : RdF quinF w a rs) (hm : 2 ≤ m) (hm2 : m ≤ 16) :
    Calls Try.prog 62 #[.int .i64 (m : Int), .slice a rs.length c] w fun e w' => e = .returned (.tuple #[.int .i64 (fwR m rs).1, .bool (fwR m rs).2]) ∧ Below w.heap.size w w' := by
  refine (callsIn_wide (n := 3)).1 ?_
  have hro : Fence.wide.round = none := rfl
  have hf2 : Fence.wide.fn 88 := trivial
  have hx := ha.len
  have hsq := two_sq hm2
  obtain ⟨N, hN⟩ : ∃ N, N = 2 * m * m := ⟨_, rfl⟩
  rw [← hN] at hsq
  have v1 : IntKind.i64.wrap (2 * (m : Int)) = 2 * (m : Int) := IntWalk.i64_in _ (by omega)
  have v2 : IntKind.i64.wrap (2 * (m : Int) * (m : Int)) = (N : Int) := by
    have e : 2 * (m : Int) * (m : Int) = (N : Int) := by rw [hN]; simp
    rw [e]; exact IntWalk.i64_in _ (by omega)
  have HN := Lib.hid hN
  clear hN
  refine callsIn_of_wp_marks Try.func62 rfl trivial ?_ hro
  simp only [Try.ntmps62, List.size_toArray, List.length_cons, List.length_nil, Nat.reduceAdd, Nat.reduceSub, Array.replicate_succ, Array.replicate_zero, List.push_toArray, List.append_toArray, List.nil_append, List.cons_append]
  by_cases hlen : rs.length = N
  · gi_wp2_with (gi_at_call 88; refine (rightRowsF_in _ _ _).mono ?_; rintro e w' ⟨rfl, rfl⟩)
    obtain ⟨g, hg⟩ : ∃ g, g = w.heap.size := ⟨_, rfl⟩
    obtain ⟨W0, hW0⟩ : ∃ W0, W0 = ((((((w.alloc (.cells #[.int .i64 (m : Int)] 2)).alloc (.cells #[.slice a N c] 24)).alloc (.cells #[.int .i64 0] 2)).alloc (.cells #[.bool false] 4)).alloc (.cells #[.int .i64 (-1)] 2)).alloc (.cells #[.int .i64 (m : Int)] 2)) := ⟨_, rfl⟩
    have S0 : FwS W0 g m N c a (-1) := by
      rw [hW0, hg]
      exact fwS_new _ _ _ _ _
    have bs : Bx W0 (g + 1 + 1 + 1 + 1 + 1) 2 #[.int .i64 (m : Int)] := by rw [hW0, hg]; simpa using Bx.new (((((w.alloc (.cells #[.int .i64 (m : Int)] 2)).alloc (.cells #[.slice a N c] 24)).alloc (.cells #[.int .i64 0] 2)).alloc (.cells #[.bool false] 4)).alloc (.cells #[.int .i64 (-1)] 2)) #[.int .i64 (m : Int)] 2
    have hB0 : Below g w W0 := by rw [hW0, hg]; exact (by repeat (first | exact Below.refl _ _ | refine Below.setCell ?_ (by first | omega | (simp <;> omega)) _ | refine Below.alloc ?_ (by first | omega | (simp <;> omega)) _ | refine Below.drew ?_))
    have hsz : W0.heap.size = g + 6 := by rw [hW0, hg]; simp
    rw [← hW0, ← hg]
    have hg1 : w.heap.size ≤ g := Nat.le_of_eq hg.symm
    have hg2 : g ≤ w.heap.size := Nat.le_of_eq hg
    have HG := Lib.hid hg
    clear hW0 hg
    refine wpIn_rangeFunc_ownH hro (by omega) (gf := 121) (lb := #[.pointer (some ⟨g + 1 + 1 + 1 + 1 + 1, 0, none⟩)]) rfl trivial (enters_of Try.func121 (by kernel_rfl) rfl)
      (rowsF_stops _ (by omega) (g + 1 + 1 + 1 + 1 + 1) g m hm hm2 W0 (by omega) (bs.at_ 0 rfl)) keepF_t (keepF_b (by omega) (by omega)) (Below.refl _ _) (fun _ => rfl)
      (fun pre X => (∃ v, Hid (pre = rwk (2 * m * m) pre.length → formTo m rs pre.length = true ∧ v = wrongTo m rs pre.length) ∧ FwS X g m N c a v) ∧ Below g w X)
      (fun ct _ X => (ct = .ret ∧ formB m rs = false ∧ Bx X (g + 1 + 1) 2 #[.int .i64 0] ∧ Bx X (g + 1 + 1 + 1) 4 #[.bool false]) ∧ Below g w X)
      (OwnFrom.and (Own.from (fun s A B row hs hg hr => by
        obtain ⟨v, h1, h2⟩ := hs
        exact ⟨v, h1, h2.same (fun k o ho hc => grownBy_keeps_cells hg hr ho hc) hg.size⟩) _) (ownFrom_below (by have := HG.out; omega) (by omega)))
      (fun _ => OwnFrom.and (Own.from (fun s A B row hs hg hr => ⟨hs.1, hs.2.1, (grownBy_keeps_cells hg hr hs.2.2.1 rfl).trans hs.2.2.1, (grownBy_keeps_cells hg hr hs.2.2.2 rfl).trans hs.2.2.2⟩) _) (ownFrom_below (by have := HG.out; omega) (by omega)))
      ⟨⟨-1, Lib.hid (fun _ => ⟨rfl, rfl⟩), S0⟩, hB0⟩
      (fun x a' X => ∃ B6, g + 5 < B6 ∧ Bx X B6 88 #[.int .i64 (rowN m x.1).1, .int .i64 (rowN m x.1).2.1, .int .i64 (rowN m x.1).2.2.1, .int .i64 (rowN m x.1).2.2.2.1, .int .i64 (rowN m x.1).2.2.2.2] ∧
        a' = { tmps := #[.int .i64 (m : Int), .slice a N c, .pointer (some ⟨g, 0, none⟩), .pointer (some ⟨g + 1, 0, none⟩), .pointer (some ⟨g + 1 + 1, 0, none⟩), .pointer (some ⟨g + 1 + 1 + 1, 0, none⟩), .pointer (some ⟨g + 1 + 1 + 1 + 1, 0, none⟩), .int .i64 (x.1 : Int), .pointer (some ⟨B6, 0, none⟩),
          .slice a N c, .int .i64 (N : Int), .int .i64 (m : Int), .int .i64 (2 * (m : Int)), .int .i64 (m : Int), .int .i64 (N : Int), .bool false, .int .i64 (m : Int), .func (.func 121) #[] #[.pointer (some ⟨g + 1 + 1 + 1 + 1 + 1, 0, none⟩)], .int .i64 (x.1 : Int), .agg #[.int .i64 (rowN m x.1).1, .int .i64 (rowN m x.1).2.1, .int .i64 (rowN m x.1).2.2.1, .int .i64 (rowN m x.1).2.2.2.1, .int .i64 (rowN m x.1).2.2.2.2],
          undef, undef, undef, undef, undef, undef, undef, undef, undef, undef, undef, undef, undef, undef, undef, undef, undef, undef, undef, undef], defers := [] })
      (fun x a' _ A B row hs hg hr => by
        obtain ⟨B6, h1, h2, h3⟩ := hs
        have hr' : ∀ r, row = some r → ∃ o : Obj, A.heap[r]? = some o ∧ o.isCells = false := fun r e => (hr r e).2
        exact ⟨B6, h1, (grownBy_keeps_cells hg hr' h2 rfl).trans h2, h3⟩) ?assign ?body ?done ?stop
    case assign =>
      intro l pre x X K hI hK
      obtain ⟨⟨v, i1, i2⟩, i5⟩ := hI
      have hXb := i2.sz
      gi_wp2
      refine hK _ _ ((KeepsOthers.alloc _ _).from _) ?_ ?_ ?_
      · exact KeepF.alloc_ _ (by omega) (by omega) _
      · exact ⟨⟨v, i1, i2.same (fun k o ho _ => Below.heap_alloc _ _ _ (Array.getElem?_eq_some_iff.1 ho).1) (by simp)⟩, i5.alloc (by omega) _⟩
      · exact ⟨X.heap.size, by omega, Bx.new _ _ _, rfl⟩
    case body =>
      rintro l pre x a' X hl ⟨r, hr⟩ ⟨⟨v, HV, S⟩, hB⟩ ⟨B6, hB6, bB, rfl⟩ hlp
      obtain ⟨k, hkx⟩ : ∃ k, k = x.1 := ⟨_, rfl⟩
      have hkN : k < N := by have := x.2; have := HN.out; omega
      have hx1 := hkx.symm
      rw [hx1] at bB ⊢
      have hXs := S.sz
      have hmo : Try.prog.follows .mixedOrders = true := by kernel_rfl
      have q3 : B6 < X.heap.size := bB.lt
      obtain ⟨b, off, rfl, p0, p1, p2, p3, p4⟩ := (ha.below (hB.mono (by omega))).at5 (k := k) (by omega)
      have HA := Lib.hid (show pre ++ [x] = rwk (2 * m * m) (pre ++ [x]).length → pre = rwk (2 * m * m) pre.length ∧ k = pre.length from fun he => by
        obtain ⟨h1, h2⟩ := snoc_rwk hlp he
        exact ⟨h1, hkx.trans h2⟩)
      have HB0 := Lib.hid (blB_form m rs k)
      have HBD := Lib.hid (fun h => formB_bad (m := m) (rs := rs) (i := k) (by omega) h)
      have HKE := Lib.hid (show formAt m rs k = true → (0 ≤ v ∨ elt quinF rs k = rowN m k) → pre ++ [x] = rwk (2 * m * m) (pre ++ [x]).length → formTo m rs (pre ++ [x]).length = true ∧ v = wrongTo m rs (pre ++ [x]).length from fun h1 h2 he => by
        obtain ⟨e1, e2⟩ := HA.out he
        obtain ⟨f1, f2⟩ := HV.out e1
        rw [List.length_append, List.length_singleton, ← e2]
        rw [← e2] at f1 f2
        exact fw_keep f1 h1 f2 h2)
      have HSE := Lib.hid (show formAt m rs k = true → v < 0 → elt quinF rs k ≠ rowN m k → pre ++ [x] = rwk (2 * m * m) (pre ++ [x]).length → formTo m rs (pre ++ [x]).length = true ∧ (k : Int) = wrongTo m rs (pre ++ [x]).length from fun h1 h2 h3 he => by
        obtain ⟨e1, e2⟩ := HA.out he
        obtain ⟨f1, f2⟩ := HV.out e1
        rw [List.length_append, List.length_singleton, ← e2]
        rw [← e2] at f1 f2
        exact fw_set f1 h1 f2 h2 h3)
      have HRS := Lib.hid (fun (h : formAt m rs k = true) => formAt_row h)
      have HSM := Lib.hid (fun (h : formAt m rs k = true) => row_same h)
      have hd1 : (0 : Int) ≤ (k : Int) := by omega
      have hd2 : (k : Int) < (N : Int) := by omega
      obtain ⟨y, hy⟩ : ∃ y, y = elt quinF rs k := ⟨_, rfl⟩
      obtain ⟨z, hz⟩ : ∃ z, z = rowN m k := ⟨_, rfl⟩
      rw [← hy] at p0 p1 p2 p3 p4 HB0 HKE HSE HRS HSM
      rw [← hz] at bB HB0 HKE HSE HRS HSM
      rw [← hz]
      obtain ⟨fb, hfb⟩ : ∃ fb, fb = formAt m rs k := ⟨_, rfl⟩
      rw [← hfb] at HB0 HBD HKE HSE HRS HSM
      clear hy hz hfb HV HA hkx hx1
      have c0 := kept_all p0
      have c1 := kept_all p1
      have c2 := kept_all p2
      have c3 := kept_all p3
      have c4 := kept_all p4
      have d0 := kept_all (bB.at_ 0 rfl)
      have d1 := kept_all (bB.at_ 1 rfl)
      have d2 := kept_all (bB.at_ 2 rfl)
      have d3 := kept_all (bB.at_ 3 rfl)
      have d4 := kept_all (bB.at_ 4 rfl)
      have k0 := kept_all (S.b0.at_ 0 rfl)
      have k1 := kept_all (S.b1.at_ 0 rfl)
      have k4 := kept_all (S.b4.at_ 0 rfl)
      gi_wp2
      refine wpIn_region_marked (fun w' => Below X.heap.size X w') 6 hmo (by kernel_rfl) (fun _ _ h => h) ?_
      have hS : Below X.heap.size X X.drew := (Below.refl _ _).drew
      refine wpAnyM_takeC (i := 0) (v := ?_) 4 rfl (by kernel_rfl) (by kernel_rfl) (by kernel_rfl) (by kernel_rfl) (by kernel_rfl) (by kernel_rfl) (fun _ _ _ h => h) hS (.inl ⟨by rfl, ?_⟩) ?_
      rotate_left 1
      · intro w' hS'; go_simp; try with_reducible rfl
      simp only [Act.put, List.setIfInBounds_toArray, List.set_cons_succ, List.set_cons_zero, List.getElem_toArray, List.getElem_cons_zero]
      refine wpAnyM_takeC (i := 1) (v := ?_) 4 rfl (by kernel_rfl) (by kernel_rfl) (by kernel_rfl) (by kernel_rfl) (by kernel_rfl) (by kernel_rfl) (fun _ _ _ h => h) hS (.inl ⟨by rfl, ?_⟩) ?_
      rotate_left 1
      · intro w' hS'; go_simp; try with_reducible rfl
      simp only [Act.put, List.setIfInBounds_toArray, List.set_cons_succ, List.set_cons_zero, List.getElem_toArray, List.getElem_cons_succ, List.getElem_cons_zero]
      refine wpAnyM_takeC (i := 2) (v := ?_) 4 rfl (by kernel_rfl) (by kernel_rfl) (by kernel_rfl) (by kernel_rfl) (by kernel_rfl) (by kernel_rfl) (fun _ _ _ h => h) hS (.inl ⟨by rfl, ?_⟩) ?_
      rotate_left 1
      · intro w' hS'; go_simp; try with_reducible rfl
      simp only [Act.put, List.setIfInBounds_toArray, List.set_cons_succ, List.set_cons_zero, List.getElem_toArray, List.getElem_cons_succ, List.getElem_cons_zero]
      refine wpAnyM_take (i := 3) (v := ?_) rfl (by kernel_rfl) (by kernel_rfl) (by kernel_rfl) (by kernel_rfl) (by kernel_rfl) (fun _ _ _ h => h) hS (.inl ⟨by rfl, ?_⟩) ?_
      rotate_left 1
      · intro w' hS'; go_simp; try with_reducible rfl
      simp only [Act.put, List.setIfInBounds_toArray, List.set_cons_succ, List.set_cons_zero, List.getElem_toArray, List.getElem_cons_succ, List.getElem_cons_zero]
      refine wpAnyM_take (i := 4) (v := ?_) rfl (by kernel_rfl) (by kernel_rfl) (by kernel_rfl) (by kernel_rfl) (by kernel_rfl) (fun _ _ _ h => h) hS (.inl ⟨by rfl, ?_⟩) ?_
      rotate_left 1
      · intro w' hS'; go_simp; try with_reducible rfl
      simp only [Act.put, List.setIfInBounds_toArray, List.set_cons_succ, List.set_cons_zero, List.getElem_toArray, List.getElem_cons_succ, List.getElem_cons_zero]
      refine wpAnyM_take (i := 5) (v := ?_) rfl (by kernel_rfl) (by kernel_rfl) (by kernel_rfl) (by kernel_rfl) (by kernel_rfl) (fun _ _ _ h => h) hS (.inl ⟨by rfl, ?_⟩) ?_
      rotate_left 1
      · intro w' hS'; go_simp; try with_reducible rfl
      simp only [Act.put, List.setIfInBounds_toArray, List.set_cons_succ, List.set_cons_zero, List.getElem_toArray, List.getElem_cons_succ, List.getElem_cons_zero]
      refine wpAnyM_one (i := 6) (by kernel_rfl) rfl (by rfl) (fun K hK => ?_)
      go_simp
      refine (belongs_any m y z X.drew hm hm2).mono ?_
      rintro e w2 ⟨rfl, hb2⟩
      replace hS : Below X.heap.size X w2 := hS.trans (hb2.mono (by simp))
      rw [HB0.out]
      refine hK _ _ (.inl rfl) ?_
      clear hK K
      try simp only [Act.put, List.setIfInBounds_toArray, List.set_cons_succ, List.set_cons_zero, List.getElem_toArray, List.getElem_cons_succ, List.getElem_cons_zero]
      refine wpAnyM_one (i := 7) (by kernel_rfl) rfl (by rfl) (fun K hK => ?_)
      go_simp
      refine hK _ _ (.inl rfl) ?_
      clear hK K
      refine wpAnyM_done (by kernel_rfl) ?_ _
      try simp only [Act.put, List.setIfInBounds_toArray, List.set_cons_succ, List.set_cons_zero, List.getElem_toArray, List.getElem_cons_succ, List.getElem_cons_zero]
      have hz2 := hS.size
      cases fb with
      | false =>
        have HF := Lib.hid (HBD.out rfl)
        have g2 := hS.cell (p := ⟨g + 1 + 1, 0, none⟩) (by simp; omega) |>.trans (S.b2.at_ 0 rfl)
        have g3 := hS.cell (p := ⟨g + 1 + 1 + 1, 0, none⟩) (by simp; omega) |>.trans (S.b3.at_ 0 rfl)
        have f2 := hS.frozen (p := ⟨g + 1 + 1, 0, none⟩) (by simp; omega) |>.trans (S.b2.thaw 0)
        have f3 := hS.frozen (p := ⟨g + 1 + 1 + 1, 0, none⟩) (by simp; omega) |>.trans (S.b3.thaw 0)
        gi_wp2
        refine ⟨⟨by simp; omega, fun k' o hk' hko hno => ?_⟩, ⟨rfl, HF.out, ?_, ?_⟩, ?_⟩
        · rw [Below.heap_setCell _ _ _ _ (by simp; omega), Below.heap_setCell _ _ _ _ (by simp; omega), hS.block k' (Array.getElem?_eq_some_iff.1 hko).1]; exact hko
        · simpa using ((S.b2.below hS).set_ 0 (.int .i64 0)).far (by simp) _
        · simpa using ((S.b3.below hS).far (by simp) _).set_ 0 (.bool false)
        · exact ((hB.trans (hS.mono (by omega))).setCell (by simp; omega) _).setCell (by simp; omega) _
      | true =>
        by_cases hv : v < 0
        · have hdv : decide (v < 0) = true := decide_eq_true hv
          obtain ⟨a1, a2, a3, _⟩ := HRS.out rfl
          have t1 : (y.1 == z.1) = true := by simp [a1]
          have t2 : (y.2.1 == z.2.1) = true := by simp [a2]
          have t3 : (y.2.2.1 == z.2.2.1) = true := by simp [a3]
          by_cases h4 : y.2.2.2.1 = z.2.2.2.1
          · have t4 : (y.2.2.2.1 == z.2.2.2.1) = true := by simp [h4]
            by_cases h5 : y.2.2.2.2 = z.2.2.2.2
            · have t5 : (y.2.2.2.2 == z.2.2.2.2) = true := by simp [h5]
              have HN2 := Lib.hid (HKE.out rfl (.inr (HSM.out rfl h4 h5)))
              clear a1 a2 a3 h4 h5 HKE HSE HSM HRS HBD HB0
              gi_wp2
              refine wpIn_region_marked (fun w' => Below X.heap.size X w') 9 hmo (by kernel_rfl) (fun _ _ h => h) ?_
              have hS9 : Below X.heap.size X w2.drew := hS.drew
              refine wpAnyM_takeC (i := 0) (v := ?_) 4 rfl (by kernel_rfl) (by kernel_rfl) (by kernel_rfl) (by kernel_rfl) (by kernel_rfl) (by kernel_rfl) (fun _ _ _ h => h) hS9 (.inl ⟨by rfl, ?_⟩) ?_
              rotate_left 1
              · intro w' hS'; go_simp; try with_reducible rfl
              simp only [Act.put, List.setIfInBounds_toArray, List.set_cons_succ, List.set_cons_zero, List.getElem_toArray, List.getElem_cons_zero]
              refine wpAnyM_takeC (i := 1) (v := ?_) 4 rfl (by kernel_rfl) (by kernel_rfl) (by kernel_rfl) (by kernel_rfl) (by kernel_rfl) (by kernel_rfl) (fun _ _ _ h => h) hS9 (.inl ⟨by rfl, ?_⟩) ?_
              rotate_left 1
              · intro w' hS'; go_simp; try with_reducible rfl
              simp only [Act.put, List.setIfInBounds_toArray, List.set_cons_succ, List.set_cons_zero, List.getElem_toArray, List.getElem_cons_succ, List.getElem_cons_zero]
              refine wpAnyM_takeC (i := 2) (v := ?_) 4 rfl (by kernel_rfl) (by kernel_rfl) (by kernel_rfl) (by kernel_rfl) (by kernel_rfl) (by kernel_rfl) (fun _ _ _ h => h) hS9 (.inl ⟨by rfl, ?_⟩) ?_
              rotate_left 1
              · intro w' hS'; go_simp; try with_reducible rfl
              simp only [Act.put, List.setIfInBounds_toArray, List.set_cons_succ, List.set_cons_zero, List.getElem_toArray, List.getElem_cons_succ, List.getElem_cons_zero]
              refine wpAnyM_takeC (i := 3) (v := ?_) 4 rfl (by kernel_rfl) (by kernel_rfl) (by kernel_rfl) (by kernel_rfl) (by kernel_rfl) (by kernel_rfl) (fun _ _ _ h => h) hS9 (.inl ⟨by rfl, ?_⟩) ?_
              rotate_left 1
              · intro w' hS'; go_simp; try with_reducible rfl
              simp only [Act.put, List.setIfInBounds_toArray, List.set_cons_succ, List.set_cons_zero, List.getElem_toArray, List.getElem_cons_succ, List.getElem_cons_zero]
              refine wpAnyM_takeC (i := 4) (v := ?_) 4 rfl (by kernel_rfl) (by kernel_rfl) (by kernel_rfl) (by kernel_rfl) (by kernel_rfl) (by kernel_rfl) (fun _ _ _ h => h) hS9 (.inl ⟨by rfl, ?_⟩) ?_
              rotate_left 1
              · intro w' hS'; go_simp; try with_reducible rfl
              simp only [Act.put, List.setIfInBounds_toArray, List.set_cons_succ, List.set_cons_zero, List.getElem_toArray, List.getElem_cons_succ, List.getElem_cons_zero]
              refine wpAnyM_takeC (i := 5) (v := ?_) 4 rfl (by kernel_rfl) (by kernel_rfl) (by kernel_rfl) (by kernel_rfl) (by kernel_rfl) (by kernel_rfl) (fun _ _ _ h => h) hS9 (.inl ⟨by rfl, ?_⟩) ?_
              rotate_left 1
              · intro w' hS'; go_simp; try with_reducible rfl
              simp only [Act.put, List.setIfInBounds_toArray, List.set_cons_succ, List.set_cons_zero, List.getElem_toArray, List.getElem_cons_succ, List.getElem_cons_zero]
              refine wpAnyM_takeC (i := 6) (v := ?_) 4 rfl (by kernel_rfl) (by kernel_rfl) (by kernel_rfl) (by kernel_rfl) (by kernel_rfl) (by kernel_rfl) (fun _ _ _ h => h) hS9 (.inl ⟨by rfl, ?_⟩) ?_
              rotate_left 1
              · intro w' hS'; go_simp; try with_reducible rfl
              simp only [Act.put, List.setIfInBounds_toArray, List.set_cons_succ, List.set_cons_zero, List.getElem_toArray, List.getElem_cons_succ, List.getElem_cons_zero]
              refine wpAnyM_takeC (i := 7) (v := ?_) 4 rfl (by kernel_rfl) (by kernel_rfl) (by kernel_rfl) (by kernel_rfl) (by kernel_rfl) (by kernel_rfl) (fun _ _ _ h => h) hS9 (.inl ⟨by rfl, ?_⟩) ?_
              rotate_left 1
              · intro w' hS'; go_simp; try with_reducible rfl
              simp only [Act.put, List.setIfInBounds_toArray, List.set_cons_succ, List.set_cons_zero, List.getElem_toArray, List.getElem_cons_succ, List.getElem_cons_zero]
              refine wpAnyM_takeC (i := 8) (v := ?_) 4 rfl (by kernel_rfl) (by kernel_rfl) (by kernel_rfl) (by kernel_rfl) (by kernel_rfl) (by kernel_rfl) (fun _ _ _ h => h) hS9 (.inl ⟨by rfl, ?_⟩) ?_
              rotate_left 1
              · intro w' hS'; go_simp; try with_reducible rfl
              simp only [Act.put, List.setIfInBounds_toArray, List.set_cons_succ, List.set_cons_zero, List.getElem_toArray, List.getElem_cons_succ, List.getElem_cons_zero]
              refine wpAnyM_one (i := 9) (by kernel_rfl) rfl (by rfl) (fun K hK => ?_)
              go_simp
              refine hK _ _ (.inl rfl) ?_
              clear hK K
              refine wpAnyM_done (by kernel_rfl) ?_ _
              try simp only [Act.put, List.setIfInBounds_toArray, List.set_cons_succ, List.set_cons_zero, List.getElem_toArray, List.getElem_cons_succ, List.getElem_cons_zero]
              gi_wp2
              refine ⟨⟨by have := hS.size; simp; omega, fun k' o hk' hko hno => ?_⟩, ⟨?_, ?_⟩, ⟨v, HN2, ?_⟩, ?_⟩
              · exact (hS9.block k' (Array.getElem?_eq_some_iff.1 hko).1).trans hko
              · exact (hS9.mono (by omega))
              · exact hS9.block _ (by omega)
              · exact S.same (fun k' o ho _ => hS9.block k' (Array.getElem?_eq_some_iff.1 ho).1) hS9.size
              · exact hB.trans (hS9.mono (by omega))
            · have t5 : (y.2.2.2.2 == z.2.2.2.2) = false := by simp [h5]
              have HN2 := Lib.hid (HSE.out rfl hv (fun e => h5 (by rw [e])))
              clear a1 a2 a3 h4 h5 HKE HSE HSM HRS HBD HB0
              gi_wp2
              refine wpIn_region_marked (fun w' => Below X.heap.size X w') 9 hmo (by kernel_rfl) (fun _ _ h => h) ?_
              have hS9 : Below X.heap.size X w2.drew := hS.drew
              refine wpAnyM_takeC (i := 0) (v := ?_) 4 rfl (by kernel_rfl) (by kernel_rfl) (by kernel_rfl) (by kernel_rfl) (by kernel_rfl) (by kernel_rfl) (fun _ _ _ h => h) hS9 (.inl ⟨by rfl, ?_⟩) ?_
              rotate_left 1
              · intro w' hS'; go_simp; try with_reducible rfl
              simp only [Act.put, List.setIfInBounds_toArray, List.set_cons_succ, List.set_cons_zero, List.getElem_toArray, List.getElem_cons_zero]
              refine wpAnyM_takeC (i := 1) (v := ?_) 4 rfl (by kernel_rfl) (by kernel_rfl) (by kernel_rfl) (by kernel_rfl) (by kernel_rfl) (by kernel_rfl) (fun _ _ _ h => h) hS9 (.inl ⟨by rfl, ?_⟩) ?_
              rotate_left 1
              · intro w' hS'; go_simp; try with_reducible rfl
              simp only [Act.put, List.setIfInBounds_toArray, List.set_cons_succ, List.set_cons_zero, List.getElem_toArray, List.getElem_cons_succ, List.getElem_cons_zero]
              refine wpAnyM_takeC (i := 2) (v := ?_) 4 rfl (by kernel_rfl) (by kernel_rfl) (by kernel_rfl) (by kernel_rfl) (by kernel_rfl) (by kernel_rfl) (fun _ _ _ h => h) hS9 (.inl ⟨by rfl, ?_⟩) ?_
              rotate_left 1
              · intro w' hS'; go_simp; try with_reducible rfl
              simp only [Act.put, List.setIfInBounds_toArray, List.set_cons_succ, List.set_cons_zero, List.getElem_toArray, List.getElem_cons_succ, List.getElem_cons_zero]
              refine wpAnyM_takeC (i := 3) (v := ?_) 4 rfl (by kernel_rfl) (by kernel_rfl) (by kernel_rfl) (by kernel_rfl) (by kernel_rfl) (by kernel_rfl) (fun _ _ _ h => h) hS9 (.inl ⟨by rfl, ?_⟩) ?_
              rotate_left 1
              · intro w' hS'; go_simp; try with_reducible rfl
              simp only [Act.put, List.setIfInBounds_toArray, List.set_cons_succ, List.set_cons_zero, List.getElem_toArray, List.getElem_cons_succ, List.getElem_cons_zero]
              refine wpAnyM_takeC (i := 4) (v := ?_) 4 rfl (by kernel_rfl) (by kernel_rfl) (by kernel_rfl) (by kernel_rfl) (by kernel_rfl) (by kernel_rfl) (fun _ _ _ h => h) hS9 (.inl ⟨by rfl, ?_⟩) ?_
              rotate_left 1
              · intro w' hS'; go_simp; try with_reducible rfl
              simp only [Act.put, List.setIfInBounds_toArray, List.set_cons_succ, List.set_cons_zero, List.getElem_toArray, List.getElem_cons_succ, List.getElem_cons_zero]
              refine wpAnyM_takeC (i := 5) (v := ?_) 4 rfl (by kernel_rfl) (by kernel_rfl) (by kernel_rfl) (by kernel_rfl) (by kernel_rfl) (by kernel_rfl) (fun _ _ _ h => h) hS9 (.inl ⟨by rfl, ?_⟩) ?_
              rotate_left 1
              · intro w' hS'; go_simp; try with_reducible rfl
              simp only [Act.put, List.setIfInBounds_toArray, List.set_cons_succ, List.set_cons_zero, List.getElem_toArray, List.getElem_cons_succ, List.getElem_cons_zero]
              refine wpAnyM_takeC (i := 6) (v := ?_) 4 rfl (by kernel_rfl) (by kernel_rfl) (by kernel_rfl) (by kernel_rfl) (by kernel_rfl) (by kernel_rfl) (fun _ _ _ h => h) hS9 (.inl ⟨by rfl, ?_⟩) ?_
              rotate_left 1
              · intro w' hS'; go_simp; try with_reducible rfl
              simp only [Act.put, List.setIfInBounds_toArray, List.set_cons_succ, List.set_cons_zero, List.getElem_toArray, List.getElem_cons_succ, List.getElem_cons_zero]
              refine wpAnyM_takeC (i := 7) (v := ?_) 4 rfl (by kernel_rfl) (by kernel_rfl) (by kernel_rfl) (by kernel_rfl) (by kernel_rfl) (by kernel_rfl) (fun _ _ _ h => h) hS9 (.inl ⟨by rfl, ?_⟩) ?_
              rotate_left 1
              · intro w' hS'; go_simp; try with_reducible rfl
              simp only [Act.put, List.setIfInBounds_toArray, List.set_cons_succ, List.set_cons_zero, List.getElem_toArray, List.getElem_cons_succ, List.getElem_cons_zero]
              refine wpAnyM_takeC (i := 8) (v := ?_) 4 rfl (by kernel_rfl) (by kernel_rfl) (by kernel_rfl) (by kernel_rfl) (by kernel_rfl) (by kernel_rfl) (fun _ _ _ h => h) hS9 (.inl ⟨by rfl, ?_⟩) ?_
              rotate_left 1
              · intro w' hS'; go_simp; try with_reducible rfl
              simp only [Act.put, List.setIfInBounds_toArray, List.set_cons_succ, List.set_cons_zero, List.getElem_toArray, List.getElem_cons_succ, List.getElem_cons_zero]
              refine wpAnyM_one (i := 9) (by kernel_rfl) rfl (by rfl) (fun K hK => ?_)
              go_simp
              refine hK _ _ (.inl rfl) ?_
              clear hK K
              refine wpAnyM_done (by kernel_rfl) ?_ _
              try simp only [Act.put, List.setIfInBounds_toArray, List.set_cons_succ, List.set_cons_zero, List.getElem_toArray, List.getElem_cons_succ, List.getElem_cons_zero]
              have g4 := hS9.cell (p := ⟨g + 1 + 1 + 1 + 1, 0, none⟩) (by simp; omega) |>.trans (S.b4.at_ 0 rfl)
              have f4 := hS9.frozen (p := ⟨g + 1 + 1 + 1 + 1, 0, none⟩) (by simp; omega) |>.trans (S.b4.thaw 0)
              gi_wp2
              have hP : ∀ j, j ≠ g + 1 + 1 + 1 + 1 → (w2.setCell ⟨g + 1 + 1 + 1 + 1, 0, none⟩ (.int .i64 (k : Int))).drew.heap[j]? = w2.heap[j]? := fun j hj => Below.heap_setCell _ _ _ _ hj
              refine ⟨⟨by have := hS.size; simp; omega, fun k' o hk' hko hno => ?_⟩, ⟨?_, ?_⟩, ⟨(k : Int), HN2, ?_⟩, ?_⟩
              · exact (hP k' (by omega)).trans ((hS.block k' (Array.getElem?_eq_some_iff.1 hko).1).trans hko)
              · exact ((hS.mono (by omega)).setCell (by simp; omega) _).drew
              · exact (hP _ (by omega)).trans (hS.block _ (by omega))
              · exact ((S.same (fun k' o ho _ => hS.block k' (Array.getElem?_eq_some_iff.1 ho).1) hS.size).put _).same (fun _ _ _ _ => rfl) (Nat.le_refl _)
              · exact ((hB.trans (hS.mono (by omega))).setCell (by simp; omega) _).drew
          · have t4 : (y.2.2.2.1 == z.2.2.2.1) = false := by simp [h4]
            have HN2 := Lib.hid (HSE.out rfl hv (fun e => h4 (by rw [e])))
            clear a1 a2 a3 h4 HKE HSE HSM HRS HBD HB0
            gi_wp2
            refine wpIn_region_marked (fun w' => Below X.heap.size X w') 9 hmo (by kernel_rfl) (fun _ _ h => h) ?_
            have hS9 : Below X.heap.size X w2.drew := hS.drew
            refine wpAnyM_takeC (i := 0) (v := ?_) 4 rfl (by kernel_rfl) (by kernel_rfl) (by kernel_rfl) (by kernel_rfl) (by kernel_rfl) (by kernel_rfl) (fun _ _ _ h => h) hS9 (.inl ⟨by rfl, ?_⟩) ?_
            rotate_left 1
            · intro w' hS'; go_simp; try with_reducible rfl
            simp only [Act.put, List.setIfInBounds_toArray, List.set_cons_succ, List.set_cons_zero, List.getElem_toArray, List.getElem_cons_zero]
            refine wpAnyM_takeC (i := 1) (v := ?_) 4 rfl (by kernel_rfl) (by kernel_rfl) (by kernel_rfl) (by kernel_rfl) (by kernel_rfl) (by kernel_rfl) (fun _ _ _ h => h) hS9 (.inl ⟨by rfl, ?_⟩) ?_
            rotate_left 1
            · intro w' hS'; go_simp; try with_reducible rfl
            simp only [Act.put, List.setIfInBounds_toArray, List.set_cons_succ, List.set_cons_zero, List.getElem_toArray, List.getElem_cons_succ, List.getElem_cons_zero]
            refine wpAnyM_takeC (i := 2) (v := ?_) 4 rfl (by kernel_rfl) (by kernel_rfl) (by kernel_rfl) (by kernel_rfl) (by kernel_rfl) (by kernel_rfl) (fun _ _ _ h => h) hS9 (.inl ⟨by rfl, ?_⟩) ?_
            rotate_left 1
            · intro w' hS'; go_simp; try with_reducible rfl
            simp only [Act.put, List.setIfInBounds_toArray, List.set_cons_succ, List.set_cons_zero, List.getElem_toArray, List.getElem_cons_succ, List.getElem_cons_zero]
            refine wpAnyM_takeC (i := 3) (v := ?_) 4 rfl (by kernel_rfl) (by kernel_rfl) (by kernel_rfl) (by kernel_rfl) (by kernel_rfl) (by kernel_rfl) (fun _ _ _ h => h) hS9 (.inl ⟨by rfl, ?_⟩) ?_
            rotate_left 1
            · intro w' hS'; go_simp; try with_reducible rfl
            simp only [Act.put, List.setIfInBounds_toArray, List.set_cons_succ, List.set_cons_zero, List.getElem_toArray, List.getElem_cons_succ, List.getElem_cons_zero]
            refine wpAnyM_takeC (i := 4) (v := ?_) 4 rfl (by kernel_rfl) (by kernel_rfl) (by kernel_rfl) (by kernel_rfl) (by kernel_rfl) (by kernel_rfl) (fun _ _ _ h => h) hS9 (.inl ⟨by rfl, ?_⟩) ?_
            rotate_left 1
            · intro w' hS'; go_simp; try with_reducible rfl
            simp only [Act.put, List.setIfInBounds_toArray, List.set_cons_succ, List.set_cons_zero, List.getElem_toArray, List.getElem_cons_succ, List.getElem_cons_zero]
            refine wpAnyM_takeC (i := 5) (v := ?_) 4 rfl (by kernel_rfl) (by kernel_rfl) (by kernel_rfl) (by kernel_rfl) (by kernel_rfl) (by kernel_rfl) (fun _ _ _ h => h) hS9 (.inl ⟨by rfl, ?_⟩) ?_
            rotate_left 1
            · intro w' hS'; go_simp; try with_reducible rfl
            simp only [Act.put, List.setIfInBounds_toArray, List.set_cons_succ, List.set_cons_zero, List.getElem_toArray, List.getElem_cons_succ, List.getElem_cons_zero]
            refine wpAnyM_takeC (i := 6) (v := ?_) 4 rfl (by kernel_rfl) (by kernel_rfl) (by kernel_rfl) (by kernel_rfl) (by kernel_rfl) (by kernel_rfl) (fun _ _ _ h => h) hS9 (.inl ⟨by rfl, ?_⟩) ?_
            rotate_left 1
            · intro w' hS'; go_simp; try with_reducible rfl
            simp only [Act.put, List.setIfInBounds_toArray, List.set_cons_succ, List.set_cons_zero, List.getElem_toArray, List.getElem_cons_succ, List.getElem_cons_zero]
            refine wpAnyM_takeC (i := 7) (v := ?_) 4 rfl (by kernel_rfl) (by kernel_rfl) (by kernel_rfl) (by kernel_rfl) (by kernel_rfl) (by kernel_rfl) (fun _ _ _ h => h) hS9 (.inl ⟨by rfl, ?_⟩) ?_
            rotate_left 1
            · intro w' hS'; go_simp; try with_reducible rfl
            simp only [Act.put, List.setIfInBounds_toArray, List.set_cons_succ, List.set_cons_zero, List.getElem_toArray, List.getElem_cons_succ, List.getElem_cons_zero]
            refine wpAnyM_takeC (i := 8) (v := ?_) 4 rfl (by kernel_rfl) (by kernel_rfl) (by kernel_rfl) (by kernel_rfl) (by kernel_rfl) (by kernel_rfl) (fun _ _ _ h => h) hS9 (.inl ⟨by rfl, ?_⟩) ?_
            rotate_left 1
            · intro w' hS'; go_simp; try with_reducible rfl
            simp only [Act.put, List.setIfInBounds_toArray, List.set_cons_succ, List.set_cons_zero, List.getElem_toArray, List.getElem_cons_succ, List.getElem_cons_zero]
            refine wpAnyM_one (i := 9) (by kernel_rfl) rfl (by rfl) (fun K hK => ?_)
            go_simp
            refine hK _ _ (.inl rfl) ?_
            clear hK K
            refine wpAnyM_done (by kernel_rfl) ?_ _
            try simp only [Act.put, List.setIfInBounds_toArray, List.set_cons_succ, List.set_cons_zero, List.getElem_toArray, List.getElem_cons_succ, List.getElem_cons_zero]
            have g4 := hS9.cell (p := ⟨g + 1 + 1 + 1 + 1, 0, none⟩) (by simp; omega) |>.trans (S.b4.at_ 0 rfl)
            have f4 := hS9.frozen (p := ⟨g + 1 + 1 + 1 + 1, 0, none⟩) (by simp; omega) |>.trans (S.b4.thaw 0)
            gi_wp2
            have hP : ∀ j, j ≠ g + 1 + 1 + 1 + 1 → (w2.setCell ⟨g + 1 + 1 + 1 + 1, 0, none⟩ (.int .i64 (k : Int))).drew.heap[j]? = w2.heap[j]? := fun j hj => Below.heap_setCell _ _ _ _ hj
            refine ⟨⟨by have := hS.size; simp; omega, fun k' o hk' hko hno => ?_⟩, ⟨?_, ?_⟩, ⟨(k : Int), HN2, ?_⟩, ?_⟩
            · exact (hP k' (by omega)).trans ((hS.block k' (Array.getElem?_eq_some_iff.1 hko).1).trans hko)
            · exact ((hS.mono (by omega)).setCell (by simp; omega) _).drew
            · exact (hP _ (by omega)).trans (hS.block _ (by omega))
            · exact ((S.same (fun k' o ho _ => hS.block k' (Array.getElem?_eq_some_iff.1 ho).1) hS.size).put _).same (fun _ _ _ _ => rfl) (Nat.le_refl _)
            · exact ((hB.trans (hS.mono (by omega))).setCell (by simp; omega) _).drew
        · have hdv : decide (v < 0) = false := decide_eq_false hv
          have HN2 := Lib.hid (HKE.out rfl (.inl (by omega)))
          clear HKE HSE HSM HRS HBD HB0
          gi_wp2
          refine wpIn_region_marked (fun w' => Below X.heap.size X w') 9 hmo (by kernel_rfl) (fun _ _ h => h) ?_
          have hS9 : Below X.heap.size X w2.drew := hS.drew
          refine wpAnyM_takeC (i := 0) (v := ?_) 4 rfl (by kernel_rfl) (by kernel_rfl) (by kernel_rfl) (by kernel_rfl) (by kernel_rfl) (by kernel_rfl) (fun _ _ _ h => h) hS9 (.inl ⟨by rfl, ?_⟩) ?_
          rotate_left 1
          · intro w' hS'; go_simp; try with_reducible rfl
          simp only [Act.put, List.setIfInBounds_toArray, List.set_cons_succ, List.set_cons_zero, List.getElem_toArray, List.getElem_cons_zero]
          refine wpAnyM_takeC (i := 1) (v := ?_) 4 rfl (by kernel_rfl) (by kernel_rfl) (by kernel_rfl) (by kernel_rfl) (by kernel_rfl) (by kernel_rfl) (fun _ _ _ h => h) hS9 (.inl ⟨by rfl, ?_⟩) ?_
          rotate_left 1
          · intro w' hS'; go_simp; try with_reducible rfl
          simp only [Act.put, List.setIfInBounds_toArray, List.set_cons_succ, List.set_cons_zero, List.getElem_toArray, List.getElem_cons_succ, List.getElem_cons_zero]
          refine wpAnyM_takeC (i := 2) (v := ?_) 4 rfl (by kernel_rfl) (by kernel_rfl) (by kernel_rfl) (by kernel_rfl) (by kernel_rfl) (by kernel_rfl) (fun _ _ _ h => h) hS9 (.inl ⟨by rfl, ?_⟩) ?_
          rotate_left 1
          · intro w' hS'; go_simp; try with_reducible rfl
          simp only [Act.put, List.setIfInBounds_toArray, List.set_cons_succ, List.set_cons_zero, List.getElem_toArray, List.getElem_cons_succ, List.getElem_cons_zero]
          refine wpAnyM_takeC (i := 3) (v := undef) 4 rfl (by kernel_rfl) (by kernel_rfl) (by kernel_rfl) (by kernel_rfl) (by kernel_rfl) (by kernel_rfl) (fun _ _ _ h => h) hS9 (.inr ⟨by rfl, rfl⟩) ?_
          simp only [Act.put, List.setIfInBounds_toArray, List.set_cons_succ, List.set_cons_zero, List.getElem_toArray, List.getElem_cons_succ, List.getElem_cons_zero]
          refine wpAnyM_takeC (i := 4) (v := undef) 4 rfl (by kernel_rfl) (by kernel_rfl) (by kernel_rfl) (by kernel_rfl) (by kernel_rfl) (by kernel_rfl) (fun _ _ _ h => h) hS9 (.inr ⟨by rfl, rfl⟩) ?_
          simp only [Act.put, List.setIfInBounds_toArray, List.set_cons_succ, List.set_cons_zero, List.getElem_toArray, List.getElem_cons_succ, List.getElem_cons_zero]
          refine wpAnyM_takeC (i := 5) (v := undef) 4 rfl (by kernel_rfl) (by kernel_rfl) (by kernel_rfl) (by kernel_rfl) (by kernel_rfl) (by kernel_rfl) (fun _ _ _ h => h) hS9 (.inr ⟨by rfl, rfl⟩) ?_
          simp only [Act.put, List.setIfInBounds_toArray, List.set_cons_succ, List.set_cons_zero, List.getElem_toArray, List.getElem_cons_succ, List.getElem_cons_zero]
          refine wpAnyM_takeC (i := 6) (v := undef) 4 rfl (by kernel_rfl) (by kernel_rfl) (by kernel_rfl) (by kernel_rfl) (by kernel_rfl) (by kernel_rfl) (fun _ _ _ h => h) hS9 (.inr ⟨by rfl, rfl⟩) ?_
          simp only [Act.put, List.setIfInBounds_toArray, List.set_cons_succ, List.set_cons_zero, List.getElem_toArray, List.getElem_cons_succ, List.getElem_cons_zero]
          refine wpAnyM_takeC (i := 7) (v := undef) 4 rfl (by kernel_rfl) (by kernel_rfl) (by kernel_rfl) (by kernel_rfl) (by kernel_rfl) (by kernel_rfl) (fun _ _ _ h => h) hS9 (.inr ⟨by rfl, rfl⟩) ?_
          simp only [Act.put, List.setIfInBounds_toArray, List.set_cons_succ, List.set_cons_zero, List.getElem_toArray, List.getElem_cons_succ, List.getElem_cons_zero]
          refine wpAnyM_takeC (i := 8) (v := undef) 4 rfl (by kernel_rfl) (by kernel_rfl) (by kernel_rfl) (by kernel_rfl) (by kernel_rfl) (by kernel_rfl) (fun _ _ _ h => h) hS9 (.inr ⟨by rfl, rfl⟩) ?_
          simp only [Act.put, List.setIfInBounds_toArray, List.set_cons_succ, List.set_cons_zero, List.getElem_toArray, List.getElem_cons_succ, List.getElem_cons_zero]
          refine wpAnyM_one (i := 9) (by kernel_rfl) rfl (by rfl) (fun K hK => ?_)
          go_simp
          refine hK _ _ (.inl rfl) ?_
          clear hK K
          refine wpAnyM_done (by kernel_rfl) ?_ _
          try simp only [Act.put, List.setIfInBounds_toArray, List.set_cons_succ, List.set_cons_zero, List.getElem_toArray, List.getElem_cons_succ, List.getElem_cons_zero]
          gi_wp2
          refine ⟨⟨by have := hS.size; simp; omega, fun k' o hk' hko hno => ?_⟩, ⟨?_, ?_⟩, ⟨v, HN2, ?_⟩, ?_⟩
          · exact (hS9.block k' (Array.getElem?_eq_some_iff.1 hko).1).trans hko
          · exact (hS9.mono (by omega))
          · exact hS9.block _ (by omega)
          · exact S.same (fun k' o ho _ => hS9.block k' (Array.getElem?_eq_some_iff.1 ho).1) hS9.size
          · exact hB.trans (hS9.mono (by omega))
    case done =>
      rintro D ys X hD rfl ⟨⟨v, HV, S⟩, hB⟩ hK
      have hl2 : (rwk (2 * m * m) (2 * m * m)).length = 2 * m * m := rwk_len (Nat.le_refl _)
      obtain ⟨f1, f2⟩ := HV.out (by rw [hl2])
      rw [hl2, ← HN.out, ← hlen] at f1 f2
      have HR := Lib.hid (fwR_ok (formB_all (by rw [hlen]; exact HN.out) f1))
      rw [← f2] at HR
      clear f1 f2 HV
      have hXs := S.sz
      have k4 := S.b4.at_ 0 rfl
      have k2 := S.b2.at_ 0 rfl
      have k3 := S.b3.at_ 0 rfl
      have f2 := S.b2.thaw 0
      have f3 := S.b3.thaw 0
      gi_wp2
      obtain ⟨Y, hY⟩ : ∃ Y, Y = (X.setCell ⟨g + 1 + 1, 0, none⟩ (.int .i64 v)).setCell ⟨g + 1 + 1 + 1, 0, none⟩ (.bool true) := ⟨_, rfl⟩
      rw [← hY]
      have hfar : ∀ k, k ≠ g + 1 + 1 → k ≠ g + 1 + 1 + 1 → Y.heap[k]? = X.heap[k]? := by
        intro k h1 h2
        rw [hY]
        rw [Below.heap_setCell _ _ _ _ h2, Below.heap_setCell _ _ _ _ h1]
      have hB2 : Bx Y (g + 1 + 1) 2 #[.int .i64 v] := by
        rw [hY]
        exact (S.b2.set_ 0 (.int .i64 v)).far (by simp) _
      have hB3 : Bx Y (g + 1 + 1 + 1) 4 #[.bool true] := by
        rw [hY]
        exact (S.b3.far (by simp) _).set_ 0 (.bool true)
      have hYs : Y.heap.size = X.heap.size := by rw [hY]; simp
      have hBY : Below g w Y := by rw [hY]; exact (hB.setCell (by simp; omega) _).setCell (by simp; omega) _
      have hKY : Y.heap[D]? = some (.deferred (some [])) := (hfar D (by omega) (by omega)).trans hK
      clear hY hfar S k2 k3 k4 f2 f3 hB
      refine ⟨by simp, .inl ⟨_, _, rfl, run_takeDeferred hKY, ?_⟩⟩
      have kp : ∀ {p : Addr} {u : Value}, Y.cell? p = some u → (Y.putObj D (.deferred none)).cell? p = some u := fun h => cell_kept h (grownBy_putObj' _ D (.deferred none)) (fun r e => by cases e; exact ⟨_, hKY, rfl⟩)
      have r2 := kp (hB2.at_ 0 rfl)
      have r3 := kp (hB3.at_ 0 rfl)
      refine ⟨.tuple #[.int .i64 v, .bool true], ?_, ?_, (hBY.mono hg1).trans (belowK_b (w := w) (Nat.le_refl _) Y D _ (.deferred none) (by omega) hKY rfl rfl)⟩
      · simp [results, Try.f62, go_sem, r2, r3]
      · rw [HR.out]
    case stop =>
      rintro D ct pre X hD _ ⟨⟨rfl, hno, b2, b3⟩, hB⟩ hK
      have HR := Lib.hid (fwR_bad hno)
      clear hno
      gi_wp2
      refine ⟨by simp, .inl ⟨_, _, rfl, run_takeDeferred hK, ?_⟩⟩
      have kp : ∀ {p : Addr} {u : Value}, X.cell? p = some u → (X.putObj D (.deferred none)).cell? p = some u := fun h => cell_kept h (grownBy_putObj' _ D (.deferred none)) (fun r e => by cases e; exact ⟨_, hK, rfl⟩)
      have r2 := kp (b2.at_ 0 rfl)
      have r3 := kp (b3.at_ 0 rfl)
      refine ⟨.tuple #[.int .i64 0, .bool false], ?_, ?_, (hB.mono hg1).trans (belowK_b (w := w) (Nat.le_refl _) X D _ (.deferred none) (by omega) hK rfl rfl)⟩
      · simp [results, Try.f62, go_sem, r2, r3]
      · rw [HR.out]
  · have HF := Lib.hid (fwR_bad (formB_len (m := m) (rs := rs) (by rw [← HN.out]; exact hlen)))
    gi_wp2
    refine ⟨.tuple #[.int .i64 0, .bool false], by simp [results, Try.f62, go_sem], ?_, (by repeat (first | exact Below.refl _ _ | refine Below.setCell ?_ (by first | omega | (simp <;> omega)) _ | refine Below.alloc ?_ (by first | omega | (simp <;> omega)) _ | refine Below.drew ?_))⟩
    rw [HF.out]
end Go.Proofs.Ytmdngcoccekdgaa
