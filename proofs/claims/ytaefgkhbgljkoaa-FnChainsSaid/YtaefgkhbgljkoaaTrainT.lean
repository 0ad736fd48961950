/-
  spec.JoinTrains, BackTrain.
-/
import Derived.Test.YtaefgkhbgljkoaaTrainS
import Derived.Test.YtaefgkhbgljkoaaFindI
import Derived.Test.YtaefgkhbgljkoaaOrd
import Derived.Test.YtaefgkhbgljkoaaAppR
import Derived.Deep.Cut
namespace Go.Proofs.Ytaefgkhbgljkoaa
open Go.RowKit

theorem fits_int (n : Int) (h1 : -1000000000000 ≤ n) (h2 : n ≤ 1000000000000) : IntKind.i64.wrap n = n := IntWalk.i64_in _ (by omega)
theorem ownF_of_row {t : TypeId} {w : World} {lo hi n : Nat} {v : Value} {xs : List (Int × Int)} (h : Row t 2 w lo hi v n (flat pairF xs)) (hn : n = xs.length) (hl : xs.length ≤ 1000000000) : OwnF pairF t w lo hi v xs := by
  subst hn; exact ⟨h, hl⟩

set_option maxHeartbeats 4000000 in
theorem specJoinTrains (a : Option Addr) (c : Nat) (xs : List (Int × Int)) (b : Option Addr) (d : Nat) (ys : List (Int × Int)) (w : World) (ha : RdF pairF w a xs) (_ : All2 xs) (hb : RdF pairF w b ys) (_ : All2 ys) :
    Calls Try.prog 45 #[.slice a xs.length c, .slice b ys.length d] w (PaC (joinR xs ys) w) := by
  have hx := ha.len
  have hy := hb.len
  cases h1 : trainB xs with
  | false =>
    have HR := Lib.hid (joinR_bad (xs := xs) (ys := ys) (.inl h1))
    have HV := Lib.hid (l04Ok_at a c xs w h1 ha)
    clear h1
    go_enter Try.func45, Try.ntmps45
    go_wp2_with (go_at_call 61; refine HV.out.mono ?_; rintro e w1 ⟨rfl, hb1⟩)
    exact bodyPost_ret (v := .tuple #[.slice none 0 0, .int .i64 1]) (by simp [results, Try.results45, go_sem]) rfl (paC_err HR.out rfl hb1)
  | true =>
    have HV := Lib.hid (l04Ok_at a c xs w h1 ha)
    cases h2 : trainB ys with
    | false =>
      have HR := Lib.hid (joinR_bad (xs := xs) (ys := ys) (.inr h2))
      have HU := Lib.hid (fun v hv => l04Ok_at b d ys v h2 (hb.below hv))
      clear h1 h2
      go_enter Try.func45, Try.ntmps45
      go_wp2_with (go_at_call 61; first | (with_reducible refine HV.out.mono ?_; rintro e w1 ⟨rfl, hb1⟩) | (with_reducible refine (HU.out _ hb1).mono ?_; rintro e w2 ⟨rfl, hb2⟩))
      exact bodyPost_ret (v := .tuple #[.slice none 0 0, .int .i64 1]) (by simp [results, Try.results45, go_sem]) rfl (paC_err HR.out rfl (hb1.trans (hb2.mono hb1.size)))
    | true =>
      have HU := Lib.hid (fun v hv => l04Ok_at b d ys v h2 (hb.below hv))
      have hv1 : IntKind.i64.wrap ((xs.length : Int) + (ys.length : Int)) = (xs.length : Int) + (ys.length : Int) := fits_int _ (by omega) (by omega)
      by_cases hl : xs.length + ys.length ≤ 6
      · have HR := Lib.hid (joinR_ok h1 h2 hl)
        have n0 := (train_of h1).n0
        have m0 := (train_of h2).n0
        have hl' : ¬ ((6 : Int) < (xs.length : Int) + (ys.length : Int)) := by omega
        have hd : decide ((xs.length : Int) + (ys.length : Int) > 6) = false := decide_eq_false (by omega)
        obtain ⟨b1, o1, rfl, _⟩ := ha.cells (by rintro rfl; simp at n0)
        obtain ⟨b2, o2, rfl, _⟩ := hb.cells (by rintro rfl; simp at m0)
        clear h1 h2
        go_enter Try.func45, Try.ntmps45
        go_wp2_with (first | (go_at_call 61; first | (with_reducible refine HV.out.mono ?_; rintro e w1 ⟨rfl, hb1⟩) | (with_reducible refine (HU.out _ hb1).mono ?_; rintro e w2 ⟨rfl, hb2⟩; have hb3 := hb1.trans (hb2.mono hb1.size); have hs3 := hb3.size; have row0 := row_new 76 2 w2 #[] 0 (by simp) (by omega); have new1 := ((ha.below hb3).below (show Below w2.heap.size w2 (w2.alloc (.cells #[] 76)) from (Below.refl _ _).alloc (Nat.le_refl _) _)).news)) | (at_builtin; refine wpList_appR rfl (.tmp 21) (.tmp 22) 24 76 rfl (.agg #[.int .i64 0, .int .i64 0]) 2 16 Try.underlying24 info_GearPair rfl (by omega) (by omega) rfl row0 ⟨b1, o1, none⟩ xs.length c (flat pairF xs) rfl (flat_len xs) new1 flat_mem (by omega) (by simp) ?_; intro A' C' w4 row1 ht4; have hs4 := ht4.size; have hb4 : Below w2.heap.size w2 w4 := ((Below.refl w2.heap.size w2).alloc (Nat.le_refl _) _).trans (ht4.below (Nat.le_refl _) (by simp)); have hb5 := hb3.trans (hb4.mono hs3); have row2 : Row 76 2 w4 w2.heap.size w4.heap.size (.slice A' xs.length C') xs.length (flat pairF xs) := (by simpa using row1); have new2 := (hb.below hb5).news) | (at_builtin; refine wpList_appR rfl (.tmp 24) (.tmp 25) 24 76 rfl (.agg #[.int .i64 0, .int .i64 0]) 2 16 Try.underlying24 info_GearPair rfl (by omega) (by omega) rfl row2 ⟨b2, o2, none⟩ ys.length d (flat pairF ys) rfl (flat_len ys) new2 flat_mem (by omega) (by simp at hs4; omega) ?_; intro A2 C2 w5 row3 ht5))
        have hb6 : Below w.heap.size w w5 := hb5.trans (ht5.below (by omega) hb5.size)
        have hs6 := ht5.size
        have ow : OwnF pairF 76 w5 w2.heap.size w5.heap.size (.slice A2 (xs.length + ys.length) C2) (xs ++ ys) := ownF_of_row (by rw [flat_append]; exact row3) (by simp) (by simp; omega)
        exact bodyPost_ret (v := .tuple #[.slice A2 (xs.length + ys.length) C2, .int .i64 0]) (by simp [results, Try.results45, go_sem]) rfl (paC_ok HR.out (by simp) rfl ow hs3 (by omega) hb6)
      · have HR := Lib.hid (joinR_full h1 h2 hl)
        have hl' : (6 : Int) < (xs.length : Int) + (ys.length : Int) := by omega
        have hd : decide ((xs.length : Int) + (ys.length : Int) > 6) = true := decide_eq_true (by omega)
        clear h1 h2
        go_enter Try.func45, Try.ntmps45
        go_wp2_with (go_at_call 61; first | (with_reducible refine HV.out.mono ?_; rintro e w1 ⟨rfl, hb1⟩) | (with_reducible refine (HU.out _ hb1).mono ?_; rintro e w2 ⟨rfl, hb2⟩))
        exact bodyPost_ret (v := .tuple #[.slice none 0 0, .int .i64 5]) (by simp [results, Try.results45, go_sem]) rfl (paC_err HR.out rfl (hb1.trans (hb2.mono hb1.size)))

set_option maxHeartbeats 4000000 in
theorem specBackTrain (a : Option Addr) (c : Nat) (xs : List (Int × Int)) (w : World) (ha : RdF pairF w a xs) (_ : All2 xs) :
    Calls Try.prog 42 #[.slice a xs.length c] w (PaC (backR' xs) w) := by
  have hx := ha.len
  cases h1 : trainB xs with
  | false =>
    have HR := Lib.hid (backR'_bad h1)
    have HV := Lib.hid (l04Ok_at a c xs w h1 ha)
    clear h1
    go_enter Try.func42, Try.ntmps42
    go_wp2_with (go_at_call 61; refine HV.out.mono ?_; rintro e w1 ⟨rfl, hb1⟩)
    exact bodyPost_ret (v := .tuple #[.slice none 0 0, .int .i64 1]) (by simp [results, Try.results42, go_sem]) rfl (paC_err HR.out rfl hb1)
  | true =>
    have HR := Lib.hid (backR'_ok h1)
    have HV := Lib.hid (l04Ok_at a c xs w h1 ha)
    have hv0 : IntKind.i64.wrap ((xs.length : Int) - 1) = (xs.length : Int) - 1 := fits_int _ (by omega) (by omega)
    clear h1
    go_enter Try.func42, Try.ntmps42
    go_wp2_with (go_at_call 61; refine HV.out.mono ?_; rintro e w1 ⟨rfl, hb1⟩)
    have hs1 := hb1.size
    go_loopw [4, 5] (fun o i wr => ∃ (j : Nat) (A : Option Addr) (C : Nat), j ≤ xs.length ∧ i = .int .i64 ((j : Int) - 1) ∧ o = .slice A (backTo xs j).length C ∧ OwnF pairF 76 wr w1.heap.size wr.heap.size (.slice A (backTo xs j).length C) (backTo xs j) ∧ Below w1.heap.size w1 wr) (fun _ i _ => (intOf i + 1).toNat)
    case atStart =>
      refine ⟨xs.length, some ⟨w1.heap.size, 0, none⟩, 0, Nat.le_refl _, rfl, by rw [backTo_len]; rfl, ?_, (by repeat (first | exact Below.refl _ _ | refine Below.setCell ?_ (by first | omega | (simp <;> omega)) _ | refine Below.alloc ?_ (by first | omega | (simp <;> omega)) _ | refine Below.drew ?_))⟩
      rw [backTo_len]
      exact ownF_of_row (n := 0) (by simpa [flat] using row_new 76 2 w1 #[] 0 (by simp) (by omega)) rfl (by simp)
    case round =>
      obtain ⟨j, A, C, hj, hi, ho, own, hb⟩ := hrel
      have hsz := hb.size
      subst hi ho
      cases j with
      | zero =>
        rw [backTo_all] at own ⊢
        go_wp2
        exact bodyPost_ret (v := .tuple #[.slice A (backL xs).length C, .int .i64 0]) (by simp [results, Try.results42, go_sem]) rfl (paC_ok HR.out rfl rfl own (by omega) (Nat.le_refl _) (hb1.trans (hb.mono hs1)))
      | succ j =>
        rw [show ((j + 1 : Nat) : Int) - 1 = (j : Int) from by omega]
        have hlt : j < xs.length := by omega
        have hbw := hb1.trans (hb.mono hs1)
        obtain ⟨b1, o1, rfl, p0, p1⟩ := ha.at2 hlt
        have hv1 : IntKind.i64.wrap ((j : Int) - 1) = (j : Int) - 1 := fits_int _ (by omega) (by omega)
        have HB := Lib.hid (backTo_step hlt)
        have HL := Lib.hid (backTo_length xs (j + 1))
        obtain ⟨ms, hms⟩ : ∃ ms, ms = backTo xs (j + 1) := ⟨_, rfl⟩
        rw [← hms] at own HB HL ⊢
        have k0 := arg_lo p0 hbw hs1
        have k1 := arg_lo p1 hbw hs1
        clear hms
        go_upto_region 7 with fail
        refine wp_region_marked (fun w' => Below w1.heap.size wr w') 14 (by kernel_rfl) ?_
        have hS : Below w1.heap.size wr wr.drew := (Below.refl _ _).drew
        refine wpAnyM_take (i := 0) (v := ?_) rfl (by kernel_rfl) (by kernel_rfl) (by kernel_rfl) (by kernel_rfl) (by kernel_rfl) (fun _ _ _ h => h) hS (.inl ⟨by rfl, ?_⟩) ?_
        rotate_left 1
        · intro w' hS'; go_simp; try with_reducible rfl
        simp only [Act.put, List.setIfInBounds_toArray]
        refine wpAnyM_take (i := 1) (v := ?_) rfl (by kernel_rfl) (by kernel_rfl) (by kernel_rfl) (by kernel_rfl) (by kernel_rfl) (fun _ _ _ h => h) hS (.inl ⟨by rfl, ?_⟩) ?_
        rotate_left 1
        · intro w' hS'; go_simp; try with_reducible rfl
        simp only [Act.put]
        refine wpAnyM_take (i := 2) (v := ?_) rfl (by kernel_rfl) (by kernel_rfl) (by kernel_rfl) (by kernel_rfl) (by kernel_rfl) (fun _ _ _ h => h) hS (.inl ⟨by rfl, ?_⟩) ?_
        rotate_left 1
        · intro w' hS'; go_simp; try with_reducible rfl
        simp only [Act.put]
        refine wpAnyM_take (i := 3) (v := ?_) rfl (by kernel_rfl) (by kernel_rfl) (by kernel_rfl) (by kernel_rfl) (by kernel_rfl) (fun _ _ _ h => h) hS (.inl ⟨by rfl, ?_⟩) ?_
        rotate_left 1
        · intro w' hS'; go_simp; try with_reducible rfl
        simp only [Act.put]
        refine wpAnyM_take (i := 4) (v := ?_) rfl (by kernel_rfl) (by kernel_rfl) (by kernel_rfl) (by kernel_rfl) (by kernel_rfl) (fun _ _ _ h => h) hS (.inl ⟨by rfl, ?_⟩) ?_
        rotate_left 1
        · intro w' hS'; go_simp; try with_reducible rfl
        simp only [Act.put]
        refine wpAnyM_take (i := 5) (v := ?_) rfl (by kernel_rfl) (by kernel_rfl) (by kernel_rfl) (by kernel_rfl) (by kernel_rfl) (fun _ _ _ h => h) hS (.inl ⟨by rfl, ?_⟩) ?_
        rotate_left 1
        · intro w' hS'; go_simp; try with_reducible rfl
        simp only [Act.put]
        refine wpAnyM_take (i := 6) (v := ?_) rfl (by kernel_rfl) (by kernel_rfl) (by kernel_rfl) (by kernel_rfl) (by kernel_rfl) (fun _ _ _ h => h) hS (.inl ⟨by rfl, ?_⟩) ?_
        rotate_left 1
        · intro w' hS'; go_simp; try with_reducible rfl
        simp only [Act.put]
        refine wpAnyM_take (i := 7) (v := ?_) rfl (by kernel_rfl) (by kernel_rfl) (by kernel_rfl) (by kernel_rfl) (by kernel_rfl) (fun _ _ _ h => h) hS (.inl ⟨by rfl, ?_⟩) ?_
        rotate_left 1
        · intro w' hS'; go_simp; try with_reducible rfl
        simp only [Act.put]
        refine wpAnyM_take (i := 8) (v := ?_) rfl (by kernel_rfl) (by kernel_rfl) (by kernel_rfl) (by kernel_rfl) (by kernel_rfl) (fun _ _ _ h => h) hS (.inl ⟨by rfl, ?_⟩) ?_
        rotate_left 1
        · intro w' hS'; go_simp; try with_reducible rfl
        simp only [Act.put]
        refine wpAnyM_take (i := 9) (v := ?_) rfl (by kernel_rfl) (by kernel_rfl) (by kernel_rfl) (by kernel_rfl) (by kernel_rfl) (fun _ _ _ h => h) hS (.inl ⟨by rfl, ?_⟩) ?_
        rotate_left 1
        · intro w' hS'; go_simp; try with_reducible rfl
        simp only [Act.put]
        refine wpAnyM_take (i := 10) (v := ?_) rfl (by kernel_rfl) (by kernel_rfl) (by kernel_rfl) (by kernel_rfl) (by kernel_rfl) (fun _ _ _ h => h) hS (.inl ⟨by rfl, ?_⟩) ?_
        rotate_left 1
        · intro w' hS'; go_simp; try with_reducible rfl
        simp only [Act.put]
        refine wpAnyM_take (i := 11) (v := ?_) rfl (by kernel_rfl) (by kernel_rfl) (by kernel_rfl) (by kernel_rfl) (by kernel_rfl) (fun _ _ _ h => h) hS (.inl ⟨by rfl, ?_⟩) ?_
        rotate_left 1
        · intro w' hS'; go_simp; try with_reducible rfl
        simp only [Act.put]
        clear k0 k1
        refine wpAnyM_one (i := 12) (by kernel_rfl) rfl (by rfl) (fun K hK => ?_)
        go_simp
        replace hS := hS.alloc (by simp <;> omega) (.cells #[.int .i64 (elt pairF xs j).2, .int .i64 (elt pairF xs j).1] 76)
        refine hK _ _ (.inr hS) ?_
        clear hK K
        try simp only [Act.put, List.setIfInBounds_toArray]
        refine wpAnyM_one (i := 13) (by kernel_rfl) rfl (by rfl) (fun K hK => ?_)
        refine wp_appR (.tmp 17) (.tmp 29) 24 76 rfl (.agg #[.int .i64 0, .int .i64 0]) 2 16 Try.underlying24 info_GearPair rfl (by omega) (by omega) rfl ((own.row.drew).alloc _) ⟨wr.heap.size, 0, none⟩ 1 1 (flat pairF [swapP (elt pairF xs j)]) rfl rfl ?_ flat_mem (by have := HL.out; omega) (by simp <;> omega) ?_
        · intro i u hu
          have hbx := Bx.new wr.drew #[.int .i64 (elt pairF xs j).2, .int .i64 (elt pairF xs j).1] 76
          match i, hu with
          | 0, hu => simp [flat, pairF, swapP] at hu; subst hu; exact hbx.at_ 0 rfl
          | 1, hu => simp [flat, pairF, swapP] at hu; subst hu; exact hbx.at_ 1 rfl
        intro A' C' w5 row5 ht5
        replace hS : Below w1.heap.size wr w5 := hS.trans (ht5.below (Nat.le_refl _) (by simp <;> omega))
        refine hK _ _ (.inr hS) ?_
        try simp only [Act.put, List.setIfInBounds_toArray]
        clear hK K
        refine wpAnyM_one (i := 14) (by kernel_rfl) rfl (by rfl) (fun K hK => ?_)
        go_simp
        refine hK _ _ (.inl rfl) ?_
        clear hK K
        refine wpAnyM_done (by kernel_rfl) ?_ _
        have ow5 : OwnF pairF 76 w5 w1.heap.size w5.heap.size (.slice A' (ms.length + 1) C') (ms ++ [swapP (elt pairF xs j)]) := ⟨by rw [flat_append, List.length_append]; exact row5, by have := HL.out; simp; omega⟩
        have hb5 : Below w1.heap.size w1 w5 := hb.trans hS
        have HB2 := Lib.hid (show (backTo xs j).length = ms.length + 1 by rw [HB.out]; simp)
        go_wp2
        go_roundw
        case rel => exact ⟨j, A', C', by omega, by go_num, by rw [HB2.out], by rw [HB2.out, HB.out]; exact ow5, hb5⟩
        case measure => (simp [intOf]) <;> omega
end Go.Proofs.Ytaefgkhbgljkoaa
