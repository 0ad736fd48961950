/-
  NewRegister, by the program and by the model.
-/
import Derived.Test.YtlahobdopmdfmaaDoorToI
import Derived.Test.YtlahobdopmdfmaaDoorApp
import Derived.Test.YtlahobdopmdfmaaDoorDigs
import Derived.Test.YtlahobdopmdfmaaDoorOrd
namespace Go.Proofs.YtlahobdopmdfmaaDoor
open Go.RowKit

set_option maxHeartbeats 1000000 in
set_option maxRecDepth 100000 in
theorem specl02New_any (b v : Int) (n : Nat) (w : World) (hb1 : 2 ≤ b) (hb2 : b ≤ 16) (hn : n ≤ 16) (hv1 : 0 ≤ v) (hv2 : v ≤ 1000000000000) :
    Calls Tryd.prog 129 #[.int .i64 b, .int .i64 n, .int .i64 v] w fun e w' => ∃ A C,
      e = .returned (.tuple #[.agg #[.int .i64 b, .slice A n C], .int .i64 (leftR b n v)]) ∧ Own 2 w' w.heap.size w'.heap.size (.slice A n C) (digsR b n v) ∧ Below w.heap.size w w' := by
  go_enter Tryd.func129, Tryd.ntmps129
  go_wp2
  go_loopw [2, 9] (fun q i wr => ∃ (k : Nat) (A : Option Addr) (C : Nat), k ≤ n ∧ q = .int .i64 (leftR b k v) ∧ i = .int .i64 k ∧ Bx wr w.heap.size 26 #[.int .i64 0, .slice none 0 0] ∧ Bx wr (w.heap.size + 1) 26 #[.int .i64 b, .slice A k C] ∧
      Own 2 wr (w.heap.size + 2) wr.heap.size (.slice A k C) (digsR b k v) ∧ Below w.heap.size w wr) (fun _ i _ => n - (intOf i).toNat)
  case atStart =>
    refine ⟨0, none, 0, Nat.zero_le _, rfl, rfl, (Bx.new _ _ _).alloc _, by simpa using Bx.new (w.alloc (.cells #[.int .i64 0, .slice none 0 0] 26)) #[.int .i64 b, .slice none 0 0] 26, own_nil _ _ _ _, ((Below.refl _ _).alloc (Nat.le_refl _) _).alloc (by simp) _⟩
  case round =>
    obtain ⟨k, A, C, hk, rfl, rfl, bx0, bx1, hown, hbel⟩ := hrel
    have hlb := leftR_bd (by omega : 1 ≤ b) k v hv1 hv2
    have hsz := bx1.lt
    by_cases hlt : k < n
    · have hb0 : ¬ b = 0 := by omega
      have hr : (leftR b k v).tmod b = leftR b k v % b := Int.tmod_eq_emod_of_nonneg hlb.1
      have c1 := bx1.cell 1
      simp only [List.getElem?_toArray, List.getElem?_cons_succ, List.getElem?_cons_zero] at c1
      go_wp2
      refine wp_region_marked (fun w' => w'.cell? ⟨w.heap.size + 1, 1, none⟩ = some (.slice A k C)) 8 (by kernel_rfl) ?_
      have hS : wr.drew.cell? ⟨w.heap.size + 1, 1, none⟩ = some (.slice A k C) := c1
      refine wpAnyM_take (i := 0) (v := ?_) rfl (by kernel_rfl) (by kernel_rfl) (by kernel_rfl) (by kernel_rfl) (by kernel_rfl) (fun _ _ _ h => h) hS (.inl ⟨by rfl, ?_⟩) ?_
      rotate_left 1
      · intro w' hS'; go_simp; try with_reducible rfl
      simp only [Act.put, List.setIfInBounds_toArray]
      refine wpAnyM_take (i := 1) (v := ?_) rfl (by kernel_rfl) (by kernel_rfl) (by kernel_rfl) (by kernel_rfl) (by kernel_rfl) (fun _ _ _ h => h) hS (.inl ⟨by rfl, ?_⟩) ?_
      rotate_left 1
      · intro w' hS'; go_simp; try with_reducible rfl
      simp only [Act.put]
      refine wpAnyM_take (i := 2) (v := ?_) rfl (by kernel_rfl) (by kernel_rfl) (by kernel_rfl) (by kernel_rfl) (by kernel_rfl) (fun _ _ _ h => h) hS (.inl ⟨by rfl, ?_⟩) ?_
      rotate_left 1
      · intro w' hS'; go_simp; try with_reducible rfl
      simp only [Act.put]
      refine wpAnyM_take (i := 3) (v := ?_) rfl (by kernel_rfl) (by kernel_rfl) (by kernel_rfl) (by kernel_rfl) (by kernel_rfl) (fun _ _ _ h => h) hS (.inl ⟨by rfl, ?_⟩) ?_
      rotate_left 1
      · intro w' hS'; go_simp; try with_reducible rfl
      simp only [Act.put]
      refine wpAnyM_take (i := 4) (v := ?_) rfl (by kernel_rfl) (by kernel_rfl) (by kernel_rfl) (by kernel_rfl) (by kernel_rfl) (fun _ _ _ h => h) hS (.inl ⟨by rfl, ?_⟩) ?_
      rotate_left 1
      · intro w' hS'; go_simp; try with_reducible rfl
      simp only [Act.put]
      refine wpAnyM_one (i := 5) (by kernel_rfl) rfl (by rfl) (fun K hK => ?_)
      go_simp
      replace hS := kept_alloc hS (.cells #[.int .i64 (leftR b k v % b)] 2)
      refine hK _ _ (.inr hS) ?_
      clear hK K
      refine wpAnyM_one (i := 6) (by kernel_rfl) rfl (by rfl) (fun K hK => ?_)
      refine wp_appI (.tmp 18) (.tmp 22) 24 2 rfl Tryd.underlying24 info_int64 rfl ((hown.drew).alloc _) (digsR_len _ _ _) ⟨wr.heap.size, 0, none⟩ 1 (leftR b k v % b) rfl (by go_simp) (by omega) (by simp; omega) ?_
      intro A' C' w1 hown1 ht1
      rw [← digsR_succ] at hown1
      have dx1 := ((bx1.drew).alloc (.cells #[.int .i64 (leftR b k v % b)] 2)).touch ht1 (by omega)
      have dx0 := ((bx0.drew).alloc (.cells #[.int .i64 (leftR b k v % b)] 2)).touch ht1 (by omega)
      have d1 : w1.cell? ⟨w.heap.size + 1, 1, none⟩ = some (.slice A k C) := dx1.cell 1
      have df1 := dx1.thaw 1
      refine hK _ _ (.inr d1) ?_
      clear hS
      have hS := d1
      simp only [Act.put, List.setIfInBounds_toArray]
      clear hK K c1
      refine wpAnyM_take (i := 7) (v := ?_) rfl (by kernel_rfl) (by kernel_rfl) (by kernel_rfl) (by kernel_rfl) (by kernel_rfl) (fun _ _ _ h => h) hS (.inl ⟨by rfl, ?_⟩) ?_
      rotate_left 1
      · intro w' hS'; go_simp; try with_reducible rfl
      simp only [Act.put]
      refine wpAnyM_one (i := 8) (by kernel_rfl) rfl (by rfl) (fun K hK => ?_)
      go_simp
      refine hK _ _ (.inl rfl) ?_
      clear hK K
      refine wpAnyM_done (by kernel_rfl) ?_ _
      go_wp2
      go_roundw
      case rel => exact ⟨k + 1, A', C', by omega, by rw [leftR_succ], by go_num, dx0.far (by simp) _, by simpa using dx1.set_ 1 (.slice A' (k + 1) C'), (hown1.setCell (p := ⟨w.heap.size + 1, 1, none⟩) (.inl (by simp)) _).wide (Nat.le_refl _) (by simp),
        ((hbel.drew.alloc hbel.size _).trans (ht1.below (by omega) (by simp; omega))).setCell (p := ⟨w.heap.size + 1, 1, none⟩) (by simp) _⟩
      case measure => simp [intOf]; omega
    · obtain rfl : k = n := by omega
      have c0 : wr.cell? ⟨w.heap.size + 1, 0, none⟩ = some (.int .i64 b) := bx1.cell 0
      have c1 : wr.cell? ⟨w.heap.size + 1, 1, none⟩ = some (.slice A k C) := bx1.cell 1
      have r0 : wr.cell? ⟨w.heap.size, 0, none⟩ = some (.int .i64 0) := bx0.cell 0
      have r1 : wr.cell? ⟨w.heap.size, 1, none⟩ = some (.slice none 0 0) := bx0.cell 1
      have f0 := bx0.thaw 0
      have f1 := bx0.thaw 1
      go_wp2
      refine bodyPost_ret (v := .tuple #[.agg #[.int .i64 b, .slice A k C], .int .i64 (leftR b k v)]) (by simp [results, Tryd.results129, go_sem, r0, r1]) rfl
        ⟨A, C, rfl, ((hown.setCell (p := ⟨w.heap.size, 0, none⟩) (.inl (by simp)) _).setCell (p := ⟨w.heap.size, 1, none⟩) (.inl (by simp)) _).wide (by simp) (by simp), (hbel.setCell (p := ⟨w.heap.size, 0, none⟩) (by simp) _).setCell (p := ⟨w.heap.size, 1, none⟩) (by simp) _⟩

/-- What a call of NewRegister leaves. -/
def NewRegPost (b n v : Int) (w : World) (e : Ending) (w' : World) : Prop := ∃ A C,
  e = .returned (.tuple #[.agg #[.int .i64 (nrR b n v).1, .slice A (nrR b n v).2.1.length C], .int .i64 (nrR b n v).2.2]) ∧ Own 2 w' w.heap.size w'.heap.size (.slice A (nrR b n v).2.1.length C) (nrR b n v).2.1 ∧ Below w.heap.size w w'

theorem newRegPost_err {b n v c : Int} {w w' : World} {e : Ending} (h : nrR b n v = (0, [], c)) (he : e = .returned (.tuple #[.agg #[.int .i64 0, .slice none 0 0], .int .i64 c])) (hb : Below w.heap.size w w') : NewRegPost b n v w e w' := by
  refine ⟨none, 0, ?_, ?_, hb⟩
  · rw [h]; exact he
  · rw [h]; exact own_nil _ _ _ _
theorem newRegPost_ok {b n v : Int} {zs : List Int} {m : Nat} {w w' : World} {A : Option Addr} {C lo hi : Nat} {e : Ending} (h : nrR b n v = (b, zs, 0)) (hm : zs.length = m) (he : e = .returned (.tuple #[.agg #[.int .i64 b, .slice A m C], .int .i64 0]))
    (ho : Own 2 w' lo hi (.slice A m C) zs) (hl : w.heap.size ≤ lo) (hh : hi ≤ w'.heap.size) (hb : Below w.heap.size w w') : NewRegPost b n v w e w' := by
  subst hm
  refine ⟨A, C, ?_, ?_, hb⟩
  · rw [h]; exact he
  · rw [h]; exact ho.wide hl hh

set_option maxRecDepth 100000 in
theorem implNewRegister (b n v : Int) (w : World) (_ : I64 b) (_ : I64 n) (_ : I64 v) : Calls Tryd.prog 136 #[.int .i64 b, .int .i64 n, .int .i64 v] w (NewRegPost b n v w) := by
  by_cases h : 2 ≤ b ∧ b ≤ 16 ∧ 1 ≤ n ∧ n ≤ 16 ∧ 0 ≤ v ∧ v ≤ 1000000000000
  · obtain ⟨h1, h2, h3, h4, h5, h6⟩ := h
    obtain ⟨n, rfl⟩ := Int.eq_ofNat_of_zero_le (show 0 ≤ n by omega)
    go_enter Tryd.func136, Tryd.ntmps136
    go_wp2_with (first | (at_make; refine wpList_makeI rfl _ _ _ 2 rfl Tryd.underlying161 info_int64 n rfl rfl (by omega) ?_; intro w1 hown hb; have bx := (Bx.new w #[.int .i64 0, .slice none 0 0] 26).below hb) | go_in)
    go_loopw [2, 9, 31] (fun q _ i wr => ∃ k : Nat, k ≤ n ∧ q = .int .i64 (leftR b k v) ∧ i = .int .i64 k ∧ Bx wr w.heap.size 26 #[.int .i64 0, .slice none 0 0] ∧
        Own 2 wr (w.heap.size + 1) wr.heap.size (.slice (some ⟨w.heap.size + 1, 0, none⟩) n n) (pad n (digsR b k v)) ∧ Below w.heap.size w wr) (fun _ _ i _ => n - (intOf i).toNat)
    case atStart => exact ⟨0, Nat.zero_le _, rfl, rfl, bx, by simpa [digsR] using hown, (by repeat (first | exact ((Below.refl _ _).alloc (Nat.le_refl _) _).trans (hb.mono (by simp)) | refine Below.setCell ?_ (by first | omega | (simp <;> omega)) _ | refine Below.alloc ?_ (by first | omega | (simp <;> omega)) _ | refine Below.drew ?_))⟩
    case round =>
      obtain ⟨k, hk, rfl, rfl, bx, hown, hbel⟩ := hrel
      have hlb := leftR_bd (by omega : 1 ≤ b) k v h5 h6
      have hlen := digsR_len b k v
      have HL := Lib.hid hlen
      clear hlen
      by_cases hlt : k < n
      · have hget := hown.get (j := k) (by rw [pad_len (by rw [HL.out]; omega)]; exact hlt)
        have hthaw := hown.thaw k
        have hput := hown.put k (leftR b k v % b)
        have e : (pad n (digsR b k v)).set k (leftR b k v % b) = pad n (digsR b (k + 1) v) := by
          have := pad_set (n := n) (zs := digsR b k v) (by rw [HL.out]; exact hlt) (leftR b k v % b)
          rw [HL.out] at this
          rw [this, digsR_succ]
        rw [e] at hput
        have HP := Lib.hid hput
        clear hput e
        go_wp2
        go_roundw
        case rel => exact ⟨k + 1, by omega, by rw [leftR_succ], by go_num, bx.far (by simp) _, HP.out.wide (Nat.le_refl _) (by simp), hbel.setCell (by simp) _⟩
        case measure => simp [intOf]; omega
      · obtain rfl : k = n := by omega
        rw [pad_all HL.out] at hown
        have c0 := bx.at_ 0 rfl
        have c1 := bx.at_ 1 rfl
        have f0 := bx.thaw 0
        have f1 := bx.thaw 1
        by_cases hl : 0 < leftR b k v
        · have HN := Lib.hid (nrR_full (by omega) hl)
          go_wp2
          exact bodyPost_ret (v := .tuple #[.agg #[.int .i64 0, .slice none 0 0], .int .i64 5]) (by simp [results, Tryd.results136, go_sem, c0, c1]) rfl
            (newRegPost_err HN.out rfl (by repeat (first | exact hbel | refine Below.setCell ?_ (by first | omega | (simp <;> omega)) _ | refine Below.alloc ?_ (by first | omega | (simp <;> omega)) _ | refine Below.drew ?_)))
        · have HN := Lib.hid (nrR_ok (by omega) hl)
          go_wp2
          exact bodyPost_ret (v := .tuple #[.agg #[.int .i64 b, .slice (some ⟨w.heap.size + 1, 0, none⟩) k k], .int .i64 0]) (by simp [results, Tryd.results136, go_sem, c0, c1]) rfl
            (newRegPost_ok HN.out HL.out rfl (lo := w.heap.size + 1) (hi := wr.heap.size) (by repeat (first | exact hown | refine Own.alloc ?_ _ | refine Own.setCell ?_ (.inl (by simp <;> omega)) _ | refine Own.drew ?_)) (by simp) (by simp) (by repeat (first | exact hbel | refine Below.setCell ?_ (by first | omega | (simp <;> omega)) _ | refine Below.alloc ?_ (by first | omega | (simp <;> omega)) _ | refine Below.drew ?_)))
  · have HN := Lib.hid (nrR_bad h)
    have hc : b < 2 ∨ (2 ≤ b ∧ 16 < b) ∨ (2 ≤ b ∧ b ≤ 16 ∧ n < 1) ∨ (2 ≤ b ∧ b ≤ 16 ∧ 1 ≤ n ∧ 16 < n) ∨ (2 ≤ b ∧ b ≤ 16 ∧ 1 ≤ n ∧ n ≤ 16 ∧ v < 0) ∨ (2 ≤ b ∧ b ≤ 16 ∧ 1 ≤ n ∧ n ≤ 16 ∧ 0 ≤ v ∧ 1000000000000 < v) := by omega
    clear h
    rcases hc with h1 | ⟨h1, h2⟩ | ⟨h1, h2, h3⟩ | ⟨h1, h2, h3, h4⟩ | ⟨h1, h2, h3, h4, h5⟩ | ⟨h1, h2, h3, h4, h5, h6⟩
    all_goals
      go_enter Tryd.func136, Tryd.ntmps136
      go_wp2
      exact bodyPost_ret (v := .tuple #[.agg #[.int .i64 0, .slice none 0 0], .int .i64 2]) (by simp [results, Tryd.results136, go_sem]) rfl
        (newRegPost_err HN.out rfl ((Below.refl _ _).alloc (Nat.le_refl _) _))
end Go.Proofs.YtlahobdopmdfmaaDoor
