/-
  laws: []string: sizes, copies.
-/
import Derived.Test.YtgfopieojpjddaaDoorStrS
namespace Go.Proofs.YtgfopieojpjddaaDoor
open Go.RowKit Go.BigFrame

/-- What is left of a bound behind the bytes of these texts; less than 0 (-1) if it is passed. -/
def leftT : List ByteArray → Int → Int
  | [], l => l
  | s :: r, l => if l - (s.size : Int) < 0 then -1 else leftT r (l - (s.size : Int))
theorem leftT_le : ∀ (xs : List ByteArray) (l : Int), 0 ≤ l → leftT xs l ≤ l
  | [], l, _ => Int.le_refl _
  | s :: r, l, h => by
    rw [leftT]
    split
    · omega
    · have := leftT_le r (l - (s.size : Int)) (by omega); omega
theorem leftT_bd : ∀ {xs : List ByteArray} {l : Int}, 0 ≤ leftT xs l → ∀ s ∈ xs, (s.size : Int) ≤ l
  | [], l, _, s, hs => by cases hs
  | x :: r, l, h, s, hs => by
    rw [leftT] at h
    split at h
    · omega
    · rcases List.mem_cons.1 hs with rfl | hs
      · omega
      · have := leftT_bd h s hs; omega
def leftS (xs : List ByteArray) (left : Int) : Int := if leftOf xs.length left < 0 then -1 else leftT xs (left - (xs.length : Int))
theorem leftS_le (xs : List ByteArray) (left : Int) (h : 0 ≤ left) : leftS xs left ≤ left := by
  unfold leftS
  split
  · omega
  · rename_i h1
    have h2 := leftOf_len (n := xs.length) (left := left) (by omega)
    have := leftT_le xs (left - (xs.length : Int)) (by omega)
    omega
theorem leftS_len {xs : List ByteArray} {left : Int} (h : 0 ≤ leftS xs left) : (xs.length : Int) ≤ left := by
  unfold leftS at h
  split at h
  · omega
  · exact leftOf_len (by omega)
theorem leftS_bd {xs : List ByteArray} {left : Int} (h : 0 ≤ leftS xs left) (hl : left ≤ 1048576) : ∀ s ∈ xs, s.size ≤ 1048576 := by
  have hn := leftS_len h
  unfold leftS at h
  split at h
  · omega
  · intro s hs
    have := leftT_bd h s hs
    omega
theorem leftT_drop {xs : List ByteArray} {j : Nat} (hj : j < xs.length) (l : Int) : leftT (xs.drop j) l = if l - ((elt textF xs j).size : Int) < 0 then -1 else leftT (xs.drop (j + 1)) (l - ((elt textF xs j).size : Int)) := by
  rw [dropE (F := textF) hj, leftT]

set_option maxHeartbeats 1000000 in
theorem szStringS_any (a : Option Addr) (c : Nat) (xs : List ByteArray) (left : Int) (w : World) (h : RawF textF (fun s => s.size ≤ 9223372036854775807) w a xs) (hl : 0 ≤ left) (hl' : left ≤ 1048576) :
    Calls Tryd.prog 12 #[.slice a xs.length c, .int .i64 left] w fun e w' => e = .returned (.int .i64 (leftS xs left)) ∧ w = w' := by
  have hn := h.len
  by_cases h0 : left - (xs.length : Int) < 0
  · go_enter Tryd.func12, Tryd.ntmps12
    go_wp2
    go_ret
    exact ⟨ret_int (by rw [leftS, leftOf, if_pos h0, if_pos (by omega)]), rfl⟩
  · have hr : RdF textF w a xs := h.rd (by omega)
    have HS := Lib.hid (show leftS xs left = leftT xs (left - (xs.length : Int)) by rw [leftS, leftOf, if_neg h0, if_neg (by omega)])
    have hwf := h.wf
    have HB := Lib.hid (show xs.length ≤ 1048576 by omega)
    clear h
    go_enter Tryd.func12, Tryd.ntmps12
    go_wp2
    go_loopw [1, 5] (fun q i wr => ∃ (j : Nat) (l : Int), j ≤ xs.length ∧ i = .int .i64 j ∧ q = .int .i64 l ∧ 0 ≤ l ∧ l ≤ 1048576 ∧ Hid (wr = w) ∧ Hid (leftS xs left = leftT (xs.drop j) l)) (fun _ i _ => xs.length - (intOf i).toNat)
    case atStart => exact ⟨0, _, Nat.zero_le _, rfl, by go_num, by omega, by omega, Lib.hid rfl, Lib.hid (by rw [HS.out]; rfl)⟩
    case round =>
      obtain ⟨j, l, hj, rfl, rfl, l0, l1, HW, HT⟩ := hrel
      have hw := HW.out
      clear HW
      subst wr
      have hn2 := HB.out
      by_cases hlt : j < xs.length
      · obtain ⟨b, off, rfl, p0⟩ := hr.atT hlt
        have hz := hwf _ (elt_mem (F := textF) hlt)
        have HD := Lib.hid (HT.out.trans (leftT_drop hlt l))
        generalize elt textF xs j = s at *
        by_cases hs : l - (s.size : Int) < 0
        · have HE := Lib.hid (HD.out.trans (if_pos hs))
          go_wp2
          go_ret
          exact ⟨ret_int HE.out.symm, rfl⟩
        · have HE := Lib.hid (HD.out.trans (if_neg hs))
          go_wp2
          go_roundw
          case rel => exact ⟨j + 1, _, by omega, by go_num, by go_num, by omega, by omega, Lib.hid (by trivial), HE⟩
          case measure => (simp [intOf]) <;> omega
      · obtain rfl : j = xs.length := by omega
        have HE := Lib.hid (HT.out.trans (by rw [List.drop_length, leftT]))
        go_wp2
        go_ret
        exact ⟨ret_int HE.out.symm, rfl⟩

set_option maxHeartbeats 1000000 in
theorem toStringS_any (a : Option Addr) (c : Nat) (xs : List ByteArray) (w : World) (ha : RdF textF w a xs) :
    Calls Tryd.prog 14 #[.slice a xs.length c] w fun e w' => ∃ A C, e = .returned (.slice A xs.length C) ∧ OwnF textF 9 w' w.heap.size w'.heap.size (.slice A xs.length C) xs ∧ Below w.heap.size w w' := by
  have hx1 := ha.len
  go_enter Tryd.func14, Tryd.ntmps14
  go_wp2_with (at_make; refine wpList_makeF textF rfl _ _ _ 9 rfl Tryd.underlying22 _ 16 info_string rfl (by omega) xs.length rfl rfl (by omega) ?_; intro w1 hown1 hb1)
  go_loopw [4] (fun i wr => ∃ k : Nat, k ≤ xs.length ∧ i = .int .i64 k ∧ OwnF textF 9 wr w.heap.size (w.heap.size + 1) (.slice (some ⟨w.heap.size, 0, none⟩) xs.length xs.length) (padF textF xs.length (xs.take k)) ∧ Below w.heap.size w wr) (fun i _ => xs.length - (intOf i).toNat)
  case atStart => exact ⟨0, Nat.zero_le _, rfl, by simpa using ownF_first hown1, hb1⟩
  case round =>
    obtain ⟨k, hk, rfl, hown, hbel⟩ := hrel
    by_cases hlt : k < xs.length
    · obtain ⟨b, off, rfl, hc0⟩ := (ha.below hbel).atT hlt
      have g0 := hown.getT (k := k) (by rw [padF_take_len hk]; exact hlt)
      have hz := hown.blk
      have f0 := hown.thaw k
      have HP := Lib.hid (hown.putT (k := k) (by rw [padF_take_len hk]; exact hlt) (elt textF xs k))
      go_wp2
      go_roundw
      case rel => exact ⟨k + 1, by omega, by go_num, by have := HP.out; rwa [padF_copy hlt] at this, (by repeat (first | exact hbel | refine Below.setCell ?_ (by first | omega | (simp <;> omega)) _ | refine Below.alloc ?_ (by first | omega | (simp <;> omega)) _ | refine Below.drew ?_))⟩
      case measure => (simp [intOf]) <;> omega
    · obtain rfl : k = xs.length := by omega
      rw [padF_copied] at hown
      go_wp2
      go_ret
      exact ⟨_, _, rfl, hown.wide (Nat.le_refl _) hown.blk.2.2, hbel⟩
end Go.Proofs.YtgfopieojpjddaaDoor
