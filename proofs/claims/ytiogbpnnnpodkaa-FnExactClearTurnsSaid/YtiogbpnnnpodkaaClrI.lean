/-
  ClearTurns: the program's and the model's.
-/
import Derived.Test.YtiogbpnnnpodkaaCirI
import Derived.Test.YtiogbpnnnpodkaaOkI
import Derived.Test.YtiogbpnnnpodkaaApp
import Derived.Test.YtiogbpnnnpodkaaToI
import Derived.Test.YtiogbpnnnpodkaaTwoS
import Derived.Test.YtiogbpnnnpodkaaOrd
import Derived.Test.YtiogbpnnnpodkaaDrumS
namespace Go.Proofs.Ytiogbpnnnpodkaa
open Go.RowKit

/-- A list of numbers of its own and a code. -/
def LisC (R : List Int × Int) (w : World) (e : Ending) (w' : World) : Prop := ∃ A C,
  e = .returned (.tuple #[.slice A R.1.length C, .int .i64 R.2]) ∧ Own 2 w' w.heap.size w'.heap.size (.slice A R.1.length C) R.1 ∧ Below w.heap.size w w'
theorem lisC_err {R : List Int × Int} {c : Int} {w w' : World} {e : Ending} (h : R = ([], c)) (he : e = .returned (.tuple #[.slice none 0 0, .int .i64 c])) (hb : Below w.heap.size w w') : LisC R w e w' := by
  subst h
  exact ⟨none, 0, he, own_nil _ _ _ _, hb⟩
theorem lisC_ok {R : List Int × Int} {zs : List Int} {n : Nat} {w w' : World} {A : Option Addr} {C lo hi : Nat} {e : Ending} (h : R = (zs, 0)) (hn : zs.length = n) (he : e = .returned (.tuple #[.slice A n C, .int .i64 0]))
    (ho : Own 2 w' lo hi (.slice A n C) zs) (hl : w.heap.size ≤ lo) (hh : hi ≤ w'.heap.size) (hb : Below w.heap.size w w') : LisC R w e w' := by
  subst h hn
  exact ⟨A, C, he, ho.wide hl hh, hb⟩

set_option maxHeartbeats 2000000 in
theorem implClearTurns (xB : Int) (xA : Option Addr) (xC : Nat) (xZ : List Int) (w : World) (ha : Rd w xA xZ) (z : All64 xZ) (b : I64 xB) :
    Calls Try.prog 12 #[.agg #[.int .i64 xB, .slice xA xZ.length xC]] w (LisC (clrR xB xZ) w) := by
  obtain ⟨u, hu⟩ : ∃ u, u = w.alloc (.cells #[.int .i64 xB, .slice xA xZ.length xC] 31) := ⟨_, rfl⟩
  have bx : Bx u w.heap.size 31 #[.int .i64 xB, .slice xA xZ.length xC] := by rw [hu]; exact Bx.new _ _ _
  have hbel : Below w.heap.size w u := by rw [hu]; exact (by repeat (first | exact Below.refl _ _ | refine Below.setCell ?_ (by first | omega | (simp <;> omega)) _ | refine Below.alloc ?_ (by first | omega | (simp <;> omega)) _ | refine Below.drew ?_))
  have HU := Lib.hid hu
  clear hu
  replace ha := ha.below hbel
  have hlen := ha.len
  have HV := Lib.hid (implValidRegister xB xA xC xZ u ha z b)
  have c0 := bx.at_ 0 rfl
  have c1 := bx.at_ 1 rfl
  cases h : okB xB xZ with
  | false =>
    have HR := Lib.hid (show clrR xB xZ = ([], 1) by simp [clrR, h])
    rw [h] at HV
    clear h
    go_enter Try.func12, Try.ntmps12
    go_wp2_with fail
    rw [← HU.out]
    refine HV.out.mono ?_
    rintro e v ⟨rfl, hb1⟩
    go_wp2
    exact bodyPost_ret (v := .tuple #[.slice none 0 0, .int .i64 1]) (by simp [results, Try.results12, go_sem]) rfl
      (lisC_err HR.out rfl (hbel.trans (hb1.mono hbel.size)))
  | true =>
    have HR := Lib.hid (show clrR xB xZ = (tab (clrD xB xZ) xZ.length, 0) by simp [clrR, h])
    have HO := Lib.hid (okB_spec h)
    have HD := Lib.hid (digit_of_ok h)
    rw [h] at HV
    clear h c0 c1
    go_enter Try.func12, Try.ntmps12
    go_wp2_with fail
    rw [← HU.out]
    refine HV.out.mono ?_
    rintro e v ⟨rfl, hb1⟩
    replace bx := bx.below hb1
    replace ha := ha.below hb1
    replace hbel := hbel.trans (hb1.mono hbel.size)
    clear HU HV hb1 u
    have c0 := bx.at_ 0 rfl
    have c1 := bx.at_ 1 rfl
    have hvs := bx.lt
    go_wp2_with fail
    go_loopw [4, 6, 13] (fun l _ i wr => ∃ (k : Nat) (A : Option Addr) (C : Nat), k ≤ xZ.length ∧ i = .int .i64 k ∧ l = .slice A k C ∧ Own 2 wr v.heap.size wr.heap.size (.slice A k C) (tab (clrD xB xZ) k) ∧ Below v.heap.size v wr) (fun _ _ i _ => xZ.length - (intOf i).toNat)
    case atStart => exact ⟨0, none, 0, Nat.zero_le _, rfl, rfl, own_nil _ _ _ _, Below.refl _ _⟩
    case round =>
      obtain ⟨k, A, C, hk, rfl, rfl, own, hb2⟩ := hrel
      by_cases hlt : k < xZ.length
      · obtain ⟨p, off, rfl, hc⟩ := ha.at_ hlt
        have hc' := kept hb2 hc
        have e0 := kept hb2 c0
        have e1 := kept hb2 c1
        have hd := HD.out k hlt
        have hB := HO.out.1
        have hB2 := HO.out.2.1
        have hw1 : IntKind.i64.wrap (-nth xZ k) = -nth xZ k := IntWalk.i64_in _ (by omega)
        have HM := Lib.hid (fun w => modulo_any (-nth xZ k) xB w (by omega) (by omega))
        clear hc c0 c1
        go_wp2_with (first | (go_at_call 41; refine (HM.out _).mono ?_; rintro e w1 ⟨rfl, rfl⟩) | (at_builtin; go_must (refine wpList_appI rfl (.tmp 17) (.tmp 23) 25 2 rfl Try.underlying25 info_int64 rfl (own.alloc _) (tab_len _ _) ⟨_, 0, none⟩ 1 ((-nth xZ k) % xB) rfl (cell_new1 _ _ _) (by omega) (by simp; exact Nat.le_succ_of_le hb2.size) ?_); intro A' C' w5 own5 ht5))
        have HT : tab (clrD xB xZ) k ++ [(-nth xZ k) % xB] = tab (clrD xB xZ) (k + 1) := by rw [tab_succ]; rfl
        rw [HT] at own5
        go_roundw
        case rel => exact ⟨k + 1, A', C', by omega, by go_num, rfl, own5, (hb2.alloc hb2.size _).trans (ht5.below (Nat.le_refl _) (by simp; have := hb2.size; omega))⟩
        case measure => (simp [intOf]) <;> omega
      · obtain rfl : k = xZ.length := by omega
        have hbs := hbel.size
        go_wp2
        exact bodyPost_ret (v := .tuple #[.slice A xZ.length C, .int .i64 0]) (by simp [results, Try.results12, go_sem]) rfl
          (lisC_ok HR.out (tab_len _ _) rfl own (by omega) (Nat.le_refl _) (hbel.trans (hb2.mono hbel.size)))

set_option maxRecDepth 100000 in
set_option maxHeartbeats 4000000 in
theorem specClearTurns (xB : Int) (xA : Option Addr) (xC : Nat) (xZ : List Int) (w : World) (ha : Rd w xA xZ) (_ : All64 xZ) (_ : I64 xB) :
    Calls Try.prog 10 #[.agg #[.int .i64 xB, .slice xA xZ.length xC]] w (LisC (clrR xB xZ) w) := by
  obtain ⟨u, hu⟩ : ∃ u, u = w.alloc (.cells #[.int .i64 xB, .slice xA xZ.length xC] 31) := ⟨_, rfl⟩
  have bx : Bx u w.heap.size 31 #[.int .i64 xB, .slice xA xZ.length xC] := by rw [hu]; exact Bx.new _ _ _
  have hbel : Below w.heap.size w u := by rw [hu]; exact (by repeat (first | exact Below.refl _ _ | refine Below.setCell ?_ (by first | omega | (simp <;> omega)) _ | refine Below.alloc ?_ (by first | omega | (simp <;> omega)) _ | refine Below.drew ?_))
  have HU := Lib.hid hu
  clear hu
  replace ha := ha.below hbel
  have hlen := ha.len
  have c0 := bx.at_ 0 rfl
  have c1 := bx.at_ 1 rfl
  cases h : okB xB xZ with
  | false =>
    have HR := Lib.hid (show clrR xB xZ = ([], 1) by simp [clrR, h])
    have HV := Lib.hid (l02Ok_at0 w.heap.size xB xA xC xZ u h ha c0 c1)
    clear h
    go_enter Try.func10, Try.ntmps10
    go_wp2_with fail
    rw [← HU.out]
    refine HV.out.mono ?_
    rintro e w1 ⟨rfl, n, rfl⟩
    go_wp2
    exact bodyPost_ret (v := .tuple #[.slice none 0 0, .int .i64 1]) (by simp [results, Try.results10, go_sem]) rfl
      (lisC_err HR.out rfl (bel_drewN hbel n))
  | true =>
    have HR := Lib.hid (show clrR xB xZ = (tab (clrD xB xZ) xZ.length, 0) by simp [clrR, h])
    have HO := Lib.hid (okB_spec h)
    have HD := Lib.hid (digit_of_ok h)
    have HV := Lib.hid (l02Ok_at0 w.heap.size xB xA xC xZ u h ha c0 c1)
    clear h c0 c1
    go_enter Try.func10, Try.ntmps10
    go_wp2_with fail
    rw [← HU.out]
    refine HV.out.mono ?_
    rintro e w1 ⟨rfl, n, rfl⟩
    obtain ⟨v, hv⟩ : ∃ v, v = u.drewN n := ⟨_, rfl⟩
    rw [← hv]
    have hb1 : Below u.heap.size u v := by rw [hv]; exact bel_drewN (Below.refl _ _) n
    replace bx := bx.below hb1
    replace ha := ha.below hb1
    replace hbel := hbel.trans (hb1.mono hbel.size)
    clear HU HV hb1 hv u
    have c0 := bx.at_ 0 rfl
    have c1 := bx.at_ 1 rfl
    have hvs := bx.lt
    go_wp2_with fail
    go_loopw [4, 5] (fun l i wr => ∃ (k : Nat) (A : Option Addr) (C : Nat), k ≤ xZ.length ∧ i = .int .i64 k ∧ l = .slice A k C ∧ Own 2 wr v.heap.size wr.heap.size (.slice A k C) (tab (clrD xB xZ) k) ∧ Below v.heap.size v wr) (fun _ i _ => xZ.length - (intOf i).toNat)
    case atStart => exact ⟨0, _, _, Nat.zero_le _, rfl, rfl, by simpa [tab] using own_lit0 2 v, (Below.refl _ _).alloc (Nat.le_refl _) _⟩
    case round =>
      obtain ⟨k, A, C, hk, rfl, rfl, own, hb2⟩ := hrel
      have e0 := kept hb2 c0
      have e1 := kept hb2 c1
      by_cases hlt : k < xZ.length
      · obtain ⟨p, off, rfl, hc⟩ := ha.at_ hlt
        have hc' := kept hb2 hc
        have hpl : p < v.heap.size := World.block_lt_of_cell? _ _ hc
        have hd := HD.out k hlt
        have hB := HO.out.1
        have hB2 := HO.out.2.1
        have hB0 : ¬ xB = 0 := by omega
        have hm : (xB - nth xZ k).tmod xB = (-nth xZ k) % xB := by
          rw [Int.tmod_eq_emod_of_nonneg (by omega), Int.sub_eq_add_neg, Int.add_comm, Int.add_emod_right]
        have hw1 : IntKind.i64.wrap (xB - nth xZ k) = xB - nth xZ k := IntWalk.i64_in _ (by omega)
        clear hc c0 c1
        go_wp2
        refine wp_region_marked (fun w' => Below v.heap.size wr w') 14 (by kernel_rfl) ?_
        have hS : Below v.heap.size wr wr.drew := (Below.refl _ _).drew
        have k0 := kept_lo e0 hvs
        have k1 := kept_lo e1 hvs
        have k2 := kept_lo hc' hpl
        refine wpAnyM_take (i := 0) (v := ?_) rfl (by kernel_rfl) (by kernel_rfl) (by kernel_rfl) (by kernel_rfl) (by kernel_rfl) (fun _ _ _ h => h) hS (.inl ⟨by rfl, ?_⟩) ?_
        rotate_left 1
        · intro w' hS'; go_simp; try with_reducible rfl
        simp only [Act.put, List.setIfInBounds_toArray]
        refine wpAnyM_take (i := 1) (v := ?_) rfl (by kernel_rfl) (by kernel_rfl) (by kernel_rfl) (by kernel_rfl) (by kernel_rfl) (fun _ _ _ h => h) hS (.inl ⟨by rfl, ?_⟩) ?_
        rotate_left 1
        · intro w' hS'; go_simp; try with_reducible rfl
        simp only [Act.put]
        refine wpAnyM_take (i := 2) (v := ?_) rfl (by kernel_rfl) (by kernel_rfl) (by kernel_rfl) (by kernel_rfl) (by kernel_rfl) (fun _ _ _ h => h) hS (.inl ⟨by rfl, ?_⟩) ?_
        rotate_left 1
        · intro w' hS'; go_simp; try with_reducible rfl
        simp only [Act.put]
        refine wpAnyM_take (i := 3) (v := ?_) rfl (by kernel_rfl) (by kernel_rfl) (by kernel_rfl) (by kernel_rfl) (by kernel_rfl) (fun _ _ _ h => h) hS (.inl ⟨by rfl, ?_⟩) ?_
        rotate_left 1
        · intro w' hS'; go_simp; try with_reducible rfl
        simp only [Act.put]
        refine wpAnyM_take (i := 4) (v := ?_) rfl (by kernel_rfl) (by kernel_rfl) (by kernel_rfl) (by kernel_rfl) (by kernel_rfl) (fun _ _ _ h => h) hS (.inl ⟨by rfl, ?_⟩) ?_
        rotate_left 1
        · intro w' hS'; go_simp; try with_reducible rfl
        simp only [Act.put]
        refine wpAnyM_take (i := 5) (v := ?_) rfl (by kernel_rfl) (by kernel_rfl) (by kernel_rfl) (by kernel_rfl) (by kernel_rfl) (fun _ _ _ h => h) hS (.inl ⟨by rfl, ?_⟩) ?_
        rotate_left 1
        · intro w' hS'; go_simp; try with_reducible rfl
        simp only [Act.put]
        refine wpAnyM_take (i := 6) (v := ?_) rfl (by kernel_rfl) (by kernel_rfl) (by kernel_rfl) (by kernel_rfl) (by kernel_rfl) (fun _ _ _ h => h) hS (.inl ⟨by rfl, ?_⟩) ?_
        rotate_left 1
        · intro w' hS'; go_simp; try with_reducible rfl
        simp only [Act.put]
        refine wpAnyM_take (i := 7) (v := ?_) rfl (by kernel_rfl) (by kernel_rfl) (by kernel_rfl) (by kernel_rfl) (by kernel_rfl) (fun _ _ _ h => h) hS (.inl ⟨by rfl, ?_⟩) ?_
        rotate_left 1
        · intro w' hS'; go_simp; try with_reducible rfl
        simp only [Act.put]
        refine wpAnyM_take (i := 8) (v := ?_) rfl (by kernel_rfl) (by kernel_rfl) (by kernel_rfl) (by kernel_rfl) (by kernel_rfl) (fun _ _ _ h => h) hS (.inl ⟨by rfl, ?_⟩) ?_
        rotate_left 1
        · intro w' hS'; go_simp; try with_reducible rfl
        simp only [Act.put]
        refine wpAnyM_take (i := 9) (v := ?_) rfl (by kernel_rfl) (by kernel_rfl) (by kernel_rfl) (by kernel_rfl) (by kernel_rfl) (fun _ _ _ h => h) hS (.inl ⟨by rfl, ?_⟩) ?_
        rotate_left 1
        · intro w' hS'; go_simp; try with_reducible rfl
        simp only [Act.put]
        refine wpAnyM_take (i := 10) (v := ?_) rfl (by kernel_rfl) (by kernel_rfl) (by kernel_rfl) (by kernel_rfl) (by kernel_rfl) (fun _ _ _ h => h) hS (.inl ⟨by rfl, ?_⟩) ?_
        rotate_left 1
        · intro w' hS'; go_simp; try with_reducible rfl
        simp only [Act.put]
        refine wpAnyM_take (i := 11) (v := ?_) rfl (by kernel_rfl) (by kernel_rfl) (by kernel_rfl) (by kernel_rfl) (by kernel_rfl) (fun _ _ _ h => h) hS (.inl ⟨by rfl, ?_⟩) ?_
        rotate_left 1
        · intro w' hS'; go_simp; try with_reducible rfl
        simp only [Act.put]
        refine wpAnyM_one (i := 12) (by kernel_rfl) rfl (by rfl) (fun K hK => ?_)
        go_simp
        replace hS := hS.alloc (by simpa using hb2.size) (.cells #[.int .i64 ((-nth xZ k) % xB)] 2)
        refine hK _ _ (.inr hS) ?_
        clear hK K
        refine wpAnyM_one (i := 13) (by kernel_rfl) rfl (by rfl) (fun K hK => ?_)
        refine wp_appI (.tmp 16) (.tmp 28) 25 2 rfl Try.underlying25 info_int64 rfl ((own.drew).alloc _) (tab_len _ _) ⟨wr.heap.size, 0, none⟩ 1 ((-nth xZ k) % xB) rfl (by go_simp) (by omega) (by simp; exact Nat.le_succ_of_le hb2.size) ?_
        intro A' C' w5 own5 ht5
        have HT : tab (clrD xB xZ) k ++ [(-nth xZ k) % xB] = tab (clrD xB xZ) (k + 1) := by rw [tab_succ]; rfl
        rw [HT] at own5
        refine hK _ _ (.inr (hS.trans (ht5.below (Nat.le_refl _) (by simp; have := hb2.size; omega)))) ?_
        clear hK K
        refine wpAnyM_one (i := 14) (by kernel_rfl) rfl (by rfl) (fun K hK => ?_)
        go_simp
        refine hK _ _ (.inl rfl) ?_
        clear hK K
        refine wpAnyM_done (by kernel_rfl) ?_ _
        go_wp2
        go_roundw
        case rel => exact ⟨k + 1, A', C', by omega, by go_num, rfl, own5, (hb2.drew.alloc (by simpa using hb2.size) _).trans (ht5.below (Nat.le_refl _) (by simp; have := hb2.size; omega))⟩
        case measure => (simp [intOf]) <;> omega
      · obtain rfl : k = xZ.length := by omega
        have hbs := hbel.size
        go_wp2
        exact bodyPost_ret (v := .tuple #[.slice A xZ.length C, .int .i64 0]) (by simp [results, Try.results10, go_sem]) rfl
          (lisC_ok HR.out (tab_len _ _) rfl own (by omega) (Nat.le_refl _) (hbel.trans (hb2.mono hbel.size)))
end Go.Proofs.Ytiogbpnnnpodkaa
