/-
  spec.ComplementOf.
-/
import Derived.Test.YtfhiialalglefaaRegC
namespace Go.Proofs.Ytfhiialalglefaa
open Go.RowKit

set_option maxRecDepth 100000 in
set_option maxHeartbeats 2000000 in
theorem specComplementOf (xB : Int) (xA : Option Addr) (xC : Nat) (xZ : List Int) (w : World) (ha : Rd w xA xZ) (_ : All64 xZ) (_ : I64 xB) :
    Calls Try.prog 45 #[.agg #[.int .i64 xB, .slice xA xZ.length xC]] w (RegC (cplR xB xZ) w) := by
  go_enter Try.func45, Try.ntmps45
  go_wp2_with fail
  obtain ⟨u, hu⟩ : ∃ u, u = (w.alloc (.cells #[.int .i64 xB, .slice xA xZ.length xC] 26)).alloc (.cells #[.int .i64 0, .slice none 0 0] 26) := ⟨_, rfl⟩
  rw [← hu]
  have hbel : Below w.heap.size w u := by rw [hu]; exact (by repeat (first | exact Below.refl _ _ | refine Below.setCell ?_ (by simp <;> omega) _ | refine Below.alloc ?_ (by simp <;> omega) _ | refine Below.drew ?_))
  have ax : Bx u w.heap.size 26 #[.int .i64 xB, .slice xA xZ.length xC] := by rw [hu]; exact (Bx.new _ _ _).alloc _
  have bx : Bx u (w.heap.size + 1) 26 #[.int .i64 0, .slice none 0 0] := by rw [hu]; simpa using Bx.new (w.alloc (.cells #[.int .i64 xB, .slice xA xZ.length xC] 26)) #[.int .i64 0, .slice none 0 0] 26
  clear hu
  replace ha := ha.below hbel
  have hus := bx.lt
  have hlen := ha.len
  have c0 := ax.at_ 0 rfl
  have c1 := ax.at_ 1 rfl
  have r0 := bx.at_ 0 rfl
  have r1 := bx.at_ 1 rfl
  have f0 := bx.thaw 0
  have f1 := bx.thaw 1
  cases h : okB xB xZ with
  | false =>
    have HR := Lib.hid (show cplR xB xZ = (0, [], 1) by simp [cplR, h])
    refine (l02Ok_at0 w.heap.size xB xA xC xZ u h ha c0 c1).mono ?_
    rintro e w1 ⟨rfl, n, rfl⟩
    clear h
    go_wp2
    exact bodyPost_ret (v := .tuple #[.agg #[.int .i64 0, .slice none 0 0], .int .i64 1]) (by simp [results, Try.results45, go_sem, r0, r1]) rfl
      (regC_err HR.out rfl (by repeat (first | exact bel_drewN hbel n | refine Below.setCell ?_ (by simp <;> omega) _ | refine Below.alloc ?_ (by simp <;> omega) _ | refine Below.drew ?_)))
  | true =>
    have HO := Lib.hid (okB_spec h)
    have HD := Lib.hid (digit_of_ok h)
    have HR := Lib.hid (show cplR xB xZ = finR xB (tab (cplD xB xZ) xZ.length) by simp [cplR, h])
    refine (l02Ok_at0 w.heap.size xB xA xC xZ u h ha c0 c1).mono ?_
    rintro e w1 ⟨rfl, n, rfl⟩
    obtain ⟨v, hv⟩ : ∃ v, v = u.drewN n := ⟨_, rfl⟩
    rw [← hv]
    have hb1 : Below u.heap.size u v := by rw [hv]; exact bel_drewN (Below.refl _ _) n
    replace ax := ax.below hb1
    replace bx := bx.below hb1
    replace ha := ha.below hb1
    replace hbel := hbel.trans (hb1.mono hbel.size)
    clear h hv hb1 c0 c1 r0 r1 f0 f1 hus u
    have hvs := bx.lt
    have c0 := ax.at_ 0 rfl
    have c1 := ax.at_ 1 rfl
    go_wp2
    go_loopw [5] (fun i wr => ∃ (k : Nat) (A : Option Addr) (C : Nat), k ≤ xZ.length ∧ i = .int .i64 k ∧ Bx wr v.heap.size 26 #[.int .i64 xB, .slice A k C] ∧
      Own 2 wr (v.heap.size + 1) wr.heap.size (.slice A k C) (tab (cplD xB xZ) k) ∧ Below v.heap.size v wr) (fun i _ => xZ.length - (intOf i).toNat)
    case atStart => exact ⟨0, none, 0, Nat.zero_le _, rfl, Bx.new _ _ _, own_nil _ _ _ _, (Below.refl _ _).alloc (Nat.le_refl _) _⟩
    case round =>
      obtain ⟨k, A, C, hk, rfl, dx, hown, hb2⟩ := hrel
      have e0 := kept hb2 c0
      have e1 := kept hb2 c1
      have hsz := dx.lt
      by_cases hlt : k < xZ.length
      · obtain ⟨p1, o1, rfl, hc1⟩ := ha.at_ hlt
        have hx := HD.out k hlt
        have hB := HO.out
        have g0 := arg_lo c0 hb2 (Nat.le_succ _)
        have g1 := arg_lo c1 hb2 (Nat.le_succ _)
        have g2 := arg_lo hc1 hb2 (Nat.le_succ _)
        have g3 := kept_lo (L := v.heap.size + 1) (dx.at_ 1 rfl) (by omega)
        have hw1 : IntKind.i64.wrap (xB - 1) = xB - 1 := IntWalk.i64_in _ (by omega)
        have hw2 : IntKind.i64.wrap (xB - 1 - nth xZ k) = xB - 1 - nth xZ k := IntWalk.i64_in _ (by omega)
        clear hB
        go_wp2
        refine wp_region_marked (fun w' => Below (v.heap.size + 1) wr w') 14 (by kernel_rfl) ?_
        have hS : Below (v.heap.size + 1) wr wr.drew := (Below.refl _ _).drew
        refine wpAnyM_take (i := 0) (v := ?_) rfl (by kernel_rfl) (by kernel_rfl) (by kernel_rfl) (by kernel_rfl) (by kernel_rfl) (fun _ _ _ h => h) hS (.inl ⟨by rfl, ?_⟩) ?_
        rotate_left 1
        · intro w' hS'; go_simp; try with_reducible rfl
        simp only [Act.put, List.setIfInBounds_toArray]
        refine wpAnyM_take (i := 1) (v := ?_) rfl (by kernel_rfl) (by kernel_rfl) (by kernel_rfl) (by kernel_rfl) (by kernel_rfl) (fun _ _ _ h => h) hS (.inl ⟨by rfl, ?_⟩) ?_
        rotate_left 1
        · intro w' hS'; go_simp; try with_reducible rfl
        simp only [Act.put]
        refine wpAnyM_take (i := 2) (v := ?_) rfl (by kernel_rfl) (by kernel_rfl) (by kernel_rfl) (by kernel_rfl) (by kernel_rfl) (fun _ _ _ h => h) hS (.inl ⟨by rfl, ?_⟩) ?_
        rotate_left 1
        · intro w' hS'; go_simp; try with_reducible rfl
        simp only [Act.put]
        refine wpAnyM_take (i := 3) (v := ?_) rfl (by kernel_rfl) (by kernel_rfl) (by kernel_rfl) (by kernel_rfl) (by kernel_rfl) (fun _ _ _ h => h) hS (.inl ⟨by rfl, ?_⟩) ?_
        rotate_left 1
        · intro w' hS'; go_simp; try with_reducible rfl
        simp only [Act.put]
        refine wpAnyM_take (i := 4) (v := ?_) rfl (by kernel_rfl) (by kernel_rfl) (by kernel_rfl) (by kernel_rfl) (by kernel_rfl) (fun _ _ _ h => h) hS (.inl ⟨by rfl, ?_⟩) ?_
        rotate_left 1
        · intro w' hS'; go_simp; try with_reducible rfl
        simp only [Act.put]
        refine wpAnyM_take (i := 5) (v := ?_) rfl (by kernel_rfl) (by kernel_rfl) (by kernel_rfl) (by kernel_rfl) (by kernel_rfl) (fun _ _ _ h => h) hS (.inl ⟨by rfl, ?_⟩) ?_
        rotate_left 1
        · intro w' hS'; go_simp; try with_reducible rfl
        simp only [Act.put]
        refine wpAnyM_take (i := 6) (v := ?_) rfl (by kernel_rfl) (by kernel_rfl) (by kernel_rfl) (by kernel_rfl) (by kernel_rfl) (fun _ _ _ h => h) hS (.inl ⟨by rfl, ?_⟩) ?_
        rotate_left 1
        · intro w' hS'; go_simp; try with_reducible rfl
        simp only [Act.put]
        refine wpAnyM_take (i := 7) (v := ?_) rfl (by kernel_rfl) (by kernel_rfl) (by kernel_rfl) (by kernel_rfl) (by kernel_rfl) (fun _ _ _ h => h) hS (.inl ⟨by rfl, ?_⟩) ?_
        rotate_left 1
        · intro w' hS'; go_simp; try with_reducible rfl
        simp only [Act.put]
        refine wpAnyM_take (i := 8) (v := ?_) rfl (by kernel_rfl) (by kernel_rfl) (by kernel_rfl) (by kernel_rfl) (by kernel_rfl) (fun _ _ _ h => h) hS (.inl ⟨by rfl, ?_⟩) ?_
        rotate_left 1
        · intro w' hS'; go_simp; try with_reducible rfl
        simp only [Act.put]
        refine wpAnyM_take (i := 9) (v := ?_) rfl (by kernel_rfl) (by kernel_rfl) (by kernel_rfl) (by kernel_rfl) (by kernel_rfl) (fun _ _ _ h => h) hS (.inl ⟨by rfl, ?_⟩) ?_
        rotate_left 1
        · intro w' hS'; go_simp; try with_reducible rfl
        simp only [Act.put]
        refine wpAnyM_take (i := 10) (v := ?_) rfl (by kernel_rfl) (by kernel_rfl) (by kernel_rfl) (by kernel_rfl) (by kernel_rfl) (fun _ _ _ h => h) hS (.inl ⟨by rfl, ?_⟩) ?_
        rotate_left 1
        · intro w' hS'; go_simp; try with_reducible rfl
        simp only [Act.put]
        refine wpAnyM_one (i := 11) (by kernel_rfl) rfl (by rfl) (fun K hK => ?_)
        go_simp
        replace hS := hS.alloc (by simp <;> omega) (.cells #[.int .i64 (xB - 1 - nth xZ k)] 2)
        refine hK _ _ (.inr hS) ?_
        clear hK K
        try simp only [Act.put, List.setIfInBounds_toArray]
        refine wpAnyM_one (i := 12) (by kernel_rfl) rfl (by rfl) (fun K hK => ?_)
        refine wp_appI (.tmp 20) (.tmp 30) 24 2 rfl Try.underlying24 info_int64 rfl ((hown.drew).alloc _) (tab_len _ _) ⟨wr.heap.size, 0, none⟩ 1 (xB - 1 - nth xZ k) rfl (by go_simp) (by omega) (by simp <;> omega) ?_
        intro A' C' w1 hown1 ht1
        replace hS : Below (v.heap.size + 1) wr w1 := hS.trans (ht1.below (Nat.le_refl _) (by simp <;> omega))
        have dx1 := dx.lo hS (by omega)
        have dc1 := dx1.at_ 1 rfl
        have df1 := dx1.thaw 1
        refine hK _ _ (.inr hS) ?_
        try simp only [Act.put, List.setIfInBounds_toArray]
        clear hK K
        refine wpAnyM_take (i := 13) (v := ?_) rfl (by kernel_rfl) (by kernel_rfl) (by kernel_rfl) (by kernel_rfl) (by kernel_rfl) (fun _ _ _ h => h) hS (.inl ⟨by rfl, ?_⟩) ?_
        rotate_left 1
        · intro w' hS'; go_simp; try with_reducible rfl
        simp only [Act.put]
        refine wpAnyM_one (i := 14) (by kernel_rfl) rfl (by rfl) (fun K hK => ?_)
        go_simp
        refine hK _ _ (.inl rfl) ?_
        clear hK K
        refine wpAnyM_done (by kernel_rfl) ?_ _
        rw [← show cplD xB xZ k = xB - 1 - nth xZ k from rfl, ← tab_succ] at hown1
        go_wp2
        go_roundw
        case rel => exact ⟨k + 1, A', C', by omega, by go_num, by simpa using dx1.set_ 1 (.slice A' (k + 1) C'), (hown1.setCell (p := ⟨v.heap.size, 1, none⟩) (.inl (by simp)) _).wide (Nat.le_refl _) (by simp), (hb2.trans (hS.mono (Nat.le_succ _))).setCell (p := ⟨v.heap.size, 1, none⟩) (by simp) _⟩
        case measure => (simp [intOf]) <;> omega
      · obtain rfl : k = xZ.length := by omega
        replace bx := bx.below hb2
        have r0 := bx.at_ 0 rfl
        have r1 := bx.at_ 1 rfl
        have f0 := bx.thaw 0
        have f1 := bx.thaw 1
        have o0 := dx.at_ 0 rfl
        have o1 := dx.at_ 1 rfl
        replace hbel := hbel.trans (hb2.mono hbel.size)
        replace hown : Own 2 wr (v.heap.size + 1) wr.heap.size (.slice A (tab (cplD xB xZ) xZ.length).length C) (tab (cplD xB xZ) xZ.length) := by rw [tab_len]; exact hown
        rw [show (#[Value.int .i64 xB, .slice A xZ.length C] : Array Value)[1] = .slice A (tab (cplD xB xZ) xZ.length).length C by rw [tab_len]; rfl] at o1
        have hne : ¬ v.heap.size < w.heap.size := by have := hbel.size; omega
        cases hk : okB xB (tab (cplD xB xZ) xZ.length) with
        | true =>
          have HF := Lib.hid (HR.out.trans (show finR xB (tab (cplD xB xZ) xZ.length) = (xB, tab (cplD xB xZ) xZ.length, 0) by simp [finR, hk]))
          go_wp2_with fail
          refine (l02Ok_at0 v.heap.size xB A C (tab (cplD xB xZ) xZ.length) wr hk hown.rd o0 o1).mono ?_
          rintro e w2 ⟨rfl, n', rfl⟩
          clear hk
          go_wp2
          exact bodyPost_ret (v := .tuple #[.agg #[.int .i64 xB, .slice A (tab (cplD xB xZ) xZ.length).length C], .int .i64 0]) (by simp [results, Try.results45, go_sem, r0, r1]) rfl
            (regC_ok HF.out rfl (lo := v.heap.size + 1) (hi := wr.heap.size) (((hown.drewN n').setCell (p := ⟨w.heap.size + 1, 0, none⟩) (.inl (by simp; omega)) _).setCell (p := ⟨w.heap.size + 1, 1, none⟩) (.inl (by simp; omega)) _) (by omega) (by simp) (by repeat (first | exact bel_drewN hbel n' | refine Below.setCell ?_ (by simp <;> omega) _ | refine Below.alloc ?_ (by simp <;> omega) _ | refine Below.drew ?_)))
        | false =>
          have HF := Lib.hid (HR.out.trans (show finR xB (tab (cplD xB xZ) xZ.length) = (0, [], 5) by simp [finR, hk]))
          go_wp2_with fail
          refine (l02Ok_at0 v.heap.size xB A C (tab (cplD xB xZ) xZ.length) wr hk hown.rd o0 o1).mono ?_
          rintro e w2 ⟨rfl, n', rfl⟩
          clear hk
          go_wp2
          exact bodyPost_ret (v := .tuple #[.agg #[.int .i64 0, .slice none 0 0], .int .i64 5]) (by simp [results, Try.results45, go_sem, r0, r1]) rfl
            (regC_err HF.out rfl (by repeat (first | exact bel_drewN hbel n' | refine Below.setCell ?_ (by simp <;> omega) _ | refine Below.alloc ?_ (by simp <;> omega) _ | refine Below.drew ?_)))
end Go.Proofs.Ytfhiialalglefaa
