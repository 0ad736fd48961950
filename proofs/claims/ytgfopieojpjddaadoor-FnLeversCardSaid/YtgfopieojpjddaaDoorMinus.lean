/-
  impl.digitRow.minus, complement, shifted.
-/
import Derived.Test.YtgfopieojpjddaaDoorPlus
namespace Go.Proofs.YtgfopieojpjddaaDoor
open Go.RowKit

set_option maxRecDepth 100000 in
set_option maxHeartbeats 2000000 in
theorem minus_any (B : Int) (a b : Option Addr) (c d : Nat) (xs ys : List Int) (w : World) (ha : Rd w a xs) (hb : Rd w b ys) (hB1 : 2 ≤ B) (hB2 : B ≤ 16) (hlen : xs.length ≤ 16) (hl : xs.length = ys.length)
    (hx : ∀ k, k < xs.length → 0 ≤ nth xs k ∧ nth xs k < B) (hy : ∀ k, k < xs.length → 0 ≤ nth ys k ∧ nth ys k < B) :
    Calls Tryd.prog 101 #[.slice a xs.length c, .slice b ys.length d, .int .i64 B] w fun e w' => ∃ A1 C1, e = .returned (.tuple #[.slice A1 xs.length C1, .int .i64 (bK B xs ys xs.length)]) ∧
      Own 2 w' w.heap.size w'.heap.size (.slice A1 xs.length C1) (tab (subD B xs ys) xs.length) ∧ Below w.heap.size w w' := by
  have HL := Lib.hid hl
  have HX := Lib.hid hx
  have HY := Lib.hid hy
  clear hl hx hy
  go_enter Tryd.func101, Tryd.ntmps101
  go_wp2_with (at_make; refine wpList_makeI rfl (.tmp 13) (.tmp 13) 112 2 rfl Tryd.underlying112 info_int64 xs.length rfl rfl (by omega) ?_; intro w1 hown1 hb1)
  go_wp2
  go_loopw [9, 10, 17] (fun br _ i wr => ∃ k : Nat, k ≤ xs.length ∧ br = .int .i64 (bK B xs ys k) ∧ i = .int .i64 k ∧ Own 2 wr w.heap.size wr.heap.size (.slice (some ⟨w.heap.size, 0, none⟩) xs.length xs.length) (pad xs.length (tab (subD B xs ys) k)) ∧
      Below w.heap.size w wr) (fun _ _ i _ => xs.length - (intOf i).toNat)
  case atStart => exact ⟨0, Nat.zero_le _, rfl, rfl, hown1, hb1⟩
  case round =>
    obtain ⟨k, hk, rfl, rfl, own1, hbel⟩ := hrel
    by_cases hlt : k < xs.length
    · obtain ⟨p1, o1, rfl, hc1⟩ := ha.at_ hlt
      have hlt2 : k < ys.length := by rw [← HL.out]; exact hlt
      obtain ⟨p2, o2, rfl, hc2⟩ := hb.at_ hlt2
      have f1 := kept hbel hc1
      have f2 := kept hbel hc2
      have hx := HX.out k hlt
      have hy := HY.out k hlt
      have hbb := bK_bd B xs ys k
      have hw1 : IntKind.i64.wrap (nth xs k - nth ys k) = nth xs k - nth ys k := IntWalk.i64_in _ (by omega)
      have hw2 : IntKind.i64.wrap (nth xs k - nth ys k - bK B xs ys k) = nth xs k - nth ys k - bK B xs ys k := IntWalk.i64_in _ (by omega)
      have g1 := own1.get (j := k) (by rw [pad_tab_len (by omega)]; omega)
      have t1 := own1.thaw k
      by_cases hneg : nth xs k - nth ys k - bK B xs ys k < 0
      · have HB := Lib.hid (show bK B xs ys (k + 1) = 1 from if_pos hneg)
        have HD := Lib.hid (show subD B xs ys k = nth xs k - nth ys k - bK B xs ys k + B from if_pos hneg)
        go_wp2
        go_quiet (fail)
        go_wp2
        have q1 := (own1.drewN nq).put k (nth xs k - nth ys k - bK B xs ys k + B)
        rw [pad_tab_set hlt (nth xs k - nth ys k - bK B xs ys k + B) HD.out] at q1
        go_roundw
        case rel => exact ⟨k + 1, by omega, by rw [HB.out], by go_num, q1.wide (Nat.le_refl _) (by simp), (bel_drewN hbel nq).setCell (p := ⟨w.heap.size, k, none⟩) (by simp) _⟩
        case measure => (simp [intOf]) <;> omega
      · have HB := Lib.hid (show bK B xs ys (k + 1) = 0 from if_neg hneg)
        have HD := Lib.hid (show subD B xs ys k = nth xs k - nth ys k - bK B xs ys k from if_neg hneg)
        go_wp2
        go_quiet (fail)
        go_wp2
        have q1 := (own1.drewN nq).put k (nth xs k - nth ys k - bK B xs ys k)
        rw [pad_tab_set hlt (nth xs k - nth ys k - bK B xs ys k) HD.out] at q1
        go_roundw
        case rel => exact ⟨k + 1, by omega, by rw [HB.out], by go_num, q1.wide (Nat.le_refl _) (by simp), (bel_drewN hbel nq).setCell (p := ⟨w.heap.size, k, none⟩) (by simp) _⟩
        case measure => (simp [intOf]) <;> omega
    · obtain rfl : k = xs.length := by omega
      rw [pad_tab_all] at own1
      go_wp2
      refine bodyPost_ret (v := .tuple #[.slice (some ⟨w.heap.size, 0, none⟩) xs.length xs.length, .int .i64 (bK B xs ys xs.length)]) (by simp [results, Tryd.results101, go_sem]) rfl ?_
      exact ⟨_, _, rfl, own1, hbel⟩

set_option maxRecDepth 100000 in
set_option maxHeartbeats 2000000 in
theorem complement_any (B : Int) (a : Option Addr) (c : Nat) (xs : List Int) (w : World) (ha : Rd w a xs) (hB1 : 2 ≤ B) (hB2 : B ≤ 16) (hlen : xs.length ≤ 16)
    (hx : ∀ k, k < xs.length → 0 ≤ nth xs k ∧ nth xs k < B) :
    Calls Tryd.prog 104 #[.slice a xs.length c, .int .i64 B] w fun e w' => ∃ A1 C1, e = .returned (.slice A1 xs.length C1) ∧
      Own 2 w' w.heap.size w'.heap.size (.slice A1 xs.length C1) (tab (cplD B xs) xs.length) ∧ Below w.heap.size w w' := by
  have HX := Lib.hid hx
  clear hx
  go_enter Tryd.func104, Tryd.ntmps104
  go_wp2_with (at_make; refine wpList_makeI rfl (.tmp 9) (.tmp 9) 112 2 rfl Tryd.underlying112 info_int64 xs.length rfl rfl (by omega) ?_; intro w1 hown1 hb1)
  go_wp2
  go_loopw [6, 13] (fun _ i wr => ∃ k : Nat, k ≤ xs.length ∧ i = .int .i64 k ∧ Own 2 wr w.heap.size wr.heap.size (.slice (some ⟨w.heap.size, 0, none⟩) xs.length xs.length) (pad xs.length (tab (cplD B xs) k)) ∧
      Below w.heap.size w wr) (fun _ i _ => xs.length - (intOf i).toNat)
  case atStart => exact ⟨0, Nat.zero_le _, rfl, hown1, hb1⟩
  case round =>
    obtain ⟨k, hk, rfl, own1, hbel⟩ := hrel
    by_cases hlt : k < xs.length
    · obtain ⟨p1, o1, rfl, hc1⟩ := ha.at_ hlt
      have f1 := kept hbel hc1
      have hx := HX.out k hlt
      have hw1 : IntKind.i64.wrap (B - 1) = B - 1 := IntWalk.i64_in _ (by omega)
      have hw2 : IntKind.i64.wrap (B - 1 - nth xs k) = B - 1 - nth xs k := IntWalk.i64_in _ (by omega)
      have g1 := own1.get (j := k) (by rw [pad_tab_len (by omega)]; omega)
      have t1 := own1.thaw k
      go_wp2
      have q1 := own1.put k (B - 1 - nth xs k)
      rw [pad_tab_set hlt (B - 1 - nth xs k) rfl] at q1
      go_roundw
      case rel => exact ⟨k + 1, by omega, by go_num, q1.wide (Nat.le_refl _) (by simp), hbel.setCell (p := ⟨w.heap.size, k, none⟩) (by simp) _⟩
      case measure => (simp [intOf]) <;> omega
    · obtain rfl : k = xs.length := by omega
      rw [pad_tab_all] at own1
      go_wp2
      go_ret
      exact ⟨_, _, rfl, own1, hbel⟩

/-- What has been moved when the first n digits have been. -/
def mvD (xs : List Int) (m : Int) (n : Nat) (k : Nat) : Int := if 0 ≤ (k : Int) - m ∧ (k : Int) - m < (n : Int) then nth xs ((k : Int) - m).toNat else 0
theorem mvD_all (xs : List Int) (m : Int) : mvD xs m xs.length = shD xs m := by
  funext k
  unfold mvD shD
  by_cases h : 0 ≤ (k : Int) - m ∧ (k : Int) - m < (xs.length : Int)
  · rw [if_pos h, if_pos (by omega)]
  · rw [if_neg h, if_neg (by omega)]
theorem mvD_in {xs : List Int} {m : Int} {n j : Nat} (h : (n : Int) + m = j) (k : Nat) : mvD xs m (n + 1) k = if k = j then nth xs n else mvD xs m n k := by
  unfold mvD
  by_cases hk : k = j
  · subst hk
    rw [if_pos rfl, if_pos (by omega), show (k : Int) - m = n by omega]; rfl
  · rw [if_neg hk]
    by_cases h2 : 0 ≤ (k : Int) - m ∧ (k : Int) - m < (n : Int)
    · rw [if_pos h2, if_pos (by omega)]
    · rw [if_neg h2, if_neg (by omega)]
theorem mvD_out {xs : List Int} {m : Int} {n k : Nat} (h : (n : Int) + m ≠ k) : mvD xs m (n + 1) k = mvD xs m n k := by
  unfold mvD
  by_cases h2 : 0 ≤ (k : Int) - m ∧ (k : Int) - m < (n : Int)
  · rw [if_pos h2, if_pos (by omega)]
  · rw [if_neg h2, if_neg (by omega)]
theorem tab_ext {f g : Nat → Int} {n : Nat} (h : ∀ k, k < n → f k = g k) : tab f n = tab g n := by
  apply List.ext_getElem (by rw [tab_len, tab_len])
  intro k h1 h2
  rw [tab_len] at h1
  have e1 := tab_nth (f := f) (n := n) (i := k) h1
  have e2 := tab_nth (f := g) (n := n) (i := k) h1
  rw [nth_get (by rw [tab_len]; exact h1)] at e1 e2
  rw [e1, e2, h k h1]
theorem tab_set {f g : Nat → Int} {n j : Nat} {z : Int} (h : ∀ k, k < n → g k = if k = j then z else f k) : (tab f n).set j z = tab g n := by
  apply List.ext_getElem (by rw [List.length_set, tab_len, tab_len])
  intro k h1 h2
  rw [tab_len] at h2
  have e1 := tab_nth (f := f) (n := n) (i := k) h2
  have e2 := tab_nth (f := g) (n := n) (i := k) h2
  rw [nth_get (by rw [tab_len]; exact h2)] at e1 e2
  rw [e2, h k h2, List.getElem_set]
  by_cases hk : k = j
  · rw [if_pos hk, if_pos hk.symm]
  · rw [if_neg hk, if_neg (Ne.symm hk), e1]
theorem mvD_none (xs : List Int) (m : Int) (n : Nat) : tab (mvD xs m 0) n = List.replicate n 0 := by
  rw [← show tab (fun _ => (0 : Int)) n = List.replicate n 0 by
    apply List.ext_getElem (by simp [tab_len])
    intro k h1 h2
    rw [tab_len] at h1
    have e1 := tab_nth (f := fun _ => (0 : Int)) (n := n) (i := k) h1
    rw [nth_get (by rw [tab_len]; exact h1)] at e1
    rw [e1]; simp]
  apply tab_ext
  intro k _
  unfold mvD
  rw [if_neg (by omega)]

end Go.Proofs.YtgfopieojpjddaaDoor
