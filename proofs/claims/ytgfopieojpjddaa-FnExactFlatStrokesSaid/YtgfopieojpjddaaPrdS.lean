/-
  DepthOfProgram, MatchOf, in the model.
-/
import Derived.Test.YtgfopieojpjddaaPrgS
namespace Go.Proofs.Ytgfopieojpjddaa
open Go.RowKit

set_option maxRecDepth 100000 in
set_option maxHeartbeats 4000000 in
theorem specDepthOfProgram (a : Option Addr) (c : Nat) (xs : List (Int × Int)) (w : World) (ha : RdF pairF w a xs) (_ : All2 xs) :
    Calls Try.prog 17 #[.slice a xs.length c] w fun e w' => e = .returned (.tuple #[.int .i64 (dpR xs).1, .int .i64 (dpR xs).2]) ∧ Below w.heap.size w w' := by
  have hx := ha.len
  cases hp : prgB xs with
  | false =>
    have HR := Lib.hid (dpR_bad hp)
    have HP := Lib.hid hp
    clear hp
    go_enter Try.func17, Try.ntmps17
    go_wp2_with (go_at_call 25; refine (l11Ok_at a c xs _ HP.out ha).mono ?_; rintro e w1 ⟨rfl, hb⟩)
    exact bodyPost_ret (v := .tuple #[.int .i64 0, .int .i64 1]) (by simp [results, Try.results17, go_sem]) rfl ⟨by rw [HR.out], hb⟩
  | true =>
    have HR := Lib.hid (dpR_ok hp)
    have HP := Lib.hid hp
    have hn := prgB_len hp
    clear hp
    go_enter Try.func17, Try.ntmps17
    go_wp2_with (go_at_call 25; refine (l11Ok_at a c xs _ HP.out ha).mono ?_; rintro e w1 ⟨rfl, hb⟩)
    go_loopw [4, 5, 6] (fun q r i wr => ∃ j d m : Nat, j ≤ xs.length ∧ i = .int .i64 j ∧ q = .int .i64 d ∧ r = .int .i64 m ∧ d ≤ m ∧ m ≤ 4 ∧ Below w.heap.size w wr ∧ Hid (okF d (xs.drop j) = true ∧ dpF 0 0 xs = dpF d m (xs.drop j))) (fun _ _ i _ => xs.length - (intOf i).toNat)
    case atStart => exact ⟨0, 0, 0, Nat.zero_le _, rfl, rfl, rfl, by omega, by omega, hb, Lib.hid ⟨prgB_ok HP.out, rfl⟩⟩
    case round =>
      clear hb
      obtain ⟨j, d, m, hj, rfl, rfl, rfl, hdm, hm4, hb, HI⟩ := hrel
      by_cases hlt : j < xs.length
      · obtain ⟨b, off, rfl, p0, p1⟩ := (ha.below hb).at2 hlt
        have hk := HI.out.1
        rw [okF_drop hlt] at hk
        obtain ⟨_, hok, h4, h0⟩ := okF_step hk
        have HD := Lib.hid (show dpF 0 0 xs = dpF (stepD d (elt pairF xs j)) (max m (stepD d (elt pairF xs j))) (xs.drop (j + 1)) by rw [HI.out.2, dropE (F := pairF) hlt, dpF])
        have HK := Lib.hid hok
        have HO := Lib.hid (fun (W : World) => opens_any (elt pairF xs j).1 W)
        clear hk hok HI
        obtain ⟨x, hx'⟩ : ∃ x, x = elt pairF xs j := ⟨_, rfl⟩
        rw [← hx'] at p0 p1 HD HK HO h4 h0
        clear hx'
        cases h3 : opnB x.1 with
        | true =>
          have hne : ¬ x.1 = 10 := by have := opnB_t h3; omega
          have hd4 := h4 h3
          have HD2 := Lib.hid (show dpF 0 0 xs = dpF (d + 1) (max m (d + 1)) (xs.drop (j + 1)) by rw [HD.out, stepD_open h3])
          have HK2 := Lib.hid (show okF (d + 1) (xs.drop (j + 1)) = true by have := HK.out; rwa [stepD_open h3] at this)
          rw [h3] at HO
          clear h3 h4 h0 HD HK
          go_wp2_with (first | (go_at_call 31; refine (HO.out _).mono ?_; rintro e w1 ⟨rfl, hq⟩; subst w1) | (go_at_call 35; refine (l00Max_any _ _ _).mono ?_; rintro e w1 ⟨rfl, hq⟩; subst w1))
          go_roundw
          case rel => exact ⟨j + 1, d + 1, max m (d + 1), by omega, by go_num, by go_num, by congr 1; omega, by omega, by omega, hb, Lib.hid ⟨HK2.out, HD2.out⟩⟩
          case measure => (simp [intOf]) <;> omega
        | false =>
          rw [h3] at HO
          by_cases h5 : x.1 = 10
          · obtain ⟨op, n⟩ := x
            simp only at *
            subst h5
            have hd0 := h0 rfl
            have HD2 := Lib.hid (show dpF 0 0 xs = dpF (d - 1) m (xs.drop (j + 1)) by rw [HD.out, stepD_end rfl, show max m (d - 1) = m by omega])
            have HK2 := Lib.hid (show okF (d - 1) (xs.drop (j + 1)) = true by have := HK.out; rwa [stepD_end rfl] at this)
            clear h3 h4 h0 HD HK
            go_wp2_with (first | (go_at_call 31; refine (HO.out _).mono ?_; rintro e w1 ⟨rfl, hq⟩; subst w1) | (go_at_call 35; refine (l00Max_any _ _ _).mono ?_; rintro e w1 ⟨rfl, hq⟩; subst w1))
            go_roundw
            case rel => exact ⟨j + 1, d - 1, m, by omega, by go_num, by first | go_num | (congr 1; omega), by congr 1; omega, by omega, by omega, hb, Lib.hid ⟨HK2.out, HD2.out⟩⟩
            case measure => (simp [intOf]) <;> omega
          · have HD2 := Lib.hid (show dpF 0 0 xs = dpF d m (xs.drop (j + 1)) by rw [HD.out, stepD_plain h3 h5, show max m d = m by omega])
            have HK2 := Lib.hid (show okF d (xs.drop (j + 1)) = true by have := HK.out; rwa [stepD_plain h3 h5] at this)
            clear h3 h4 h0 HD HK
            go_wp2_with (first | (go_at_call 31; refine (HO.out _).mono ?_; rintro e w1 ⟨rfl, hq⟩; subst w1) | (go_at_call 35; refine (l00Max_any _ _ _).mono ?_; rintro e w1 ⟨rfl, hq⟩; subst w1))
            go_roundw
            case rel => exact ⟨j + 1, d, m, by omega, by go_num, rfl, by congr 1; omega, hdm, hm4, hb, Lib.hid ⟨HK2.out, HD2.out⟩⟩
            case measure => (simp [intOf]) <;> omega
      · obtain rfl : j = xs.length := by omega
        have HE := Lib.hid (show dpF 0 0 xs = m by rw [HI.out.2, List.drop_length, dpF])
        go_wp2
        exact bodyPost_ret (v := .tuple #[.int .i64 (m : Nat), .int .i64 0]) (by simp [results, Try.results17, go_sem]) rfl ⟨by rw [HR.out, HE.out], hb⟩

theorem mtS_drop {xs : List (Int × Int)} {j d : Nat} (hj : j < xs.length) : mtF d j (xs.drop j) = if stepD d (elt pairF xs j) = 0 then j else mtF (stepD d (elt pairF xs j)) (j + 1) (xs.drop (j + 1)) := by
  rw [dropE (F := pairF) hj, mtF]

set_option maxRecDepth 100000 in
set_option maxHeartbeats 4000000 in
theorem l11Match_any (a : Option Addr) (c : Nat) (xs : List (Int × Int)) (k : Nat) (w : World) (ha : RdF pairF w a xs) (hk : k ≤ xs.length) (ho : opnB (elt pairF xs k).1 = true) (_ : k < xs.length) :
    Calls Try.prog 32 #[.slice a xs.length c, .int .i64 (k : Int)] w fun e w' => e = .returned (.int .i64 (mtN xs k : Nat)) ∧ w' = w := by
  have hx := ha.len
  have HOk := Lib.hid ho
  clear ho
  go_enter Try.func32, Try.ntmps32
  go_wp2
  go_loopw [5, 6] (fun q i wr => ∃ j d : Nat, k ≤ j ∧ j ≤ xs.length ∧ i = .int .i64 j ∧ q = .int .i64 d ∧ d ≤ j ∧ Hid ((k < j → 0 < d) ∧ wr = w) ∧ Hid (mtN xs k = mtF d j (xs.drop j))) (fun _ i _ => xs.length - (intOf i).toNat)
  case atStart => exact ⟨k, 0, Nat.le_refl _, hk, rfl, rfl, by omega, Lib.hid ⟨fun h => by omega, rfl⟩, Lib.hid rfl⟩
  case round =>
    obtain ⟨j, d, hkj, hj, rfl, rfl, hdj, HW, HI⟩ := hrel
    have hw := HW.out.2
    have hd0 := HW.out.1
    clear HW
    subst wr
    by_cases hlt : j < xs.length
    · obtain ⟨b, off, rfl, p0, p1⟩ := ha.at2 hlt
      have HD := Lib.hid (HI.out.trans (mtS_drop hlt))
      have HO := Lib.hid (fun (W : World) => opens_any (elt pairF xs j).1 W)
      have HJ := Lib.hid (show j = k → opnB (elt pairF xs j).1 = true from fun e => by rw [e]; exact HOk.out)
      clear HI
      obtain ⟨x, hx'⟩ : ∃ x, x = elt pairF xs j := ⟨_, rfl⟩
      rw [← hx'] at p0 p1 HD HO HJ
      clear hx'
      cases h3 : opnB x.1 with
      | true =>
        have hne : ¬ x.1 = 10 := by have := opnB_t h3; omega
        have HD2 := Lib.hid (show mtN xs k = mtF (d + 1) (j + 1) (xs.drop (j + 1)) by rw [HD.out, stepD_open h3, if_neg (by omega)])
        have hnz : ¬ ((d : Int) + 1 = 0) := by omega
        rw [h3] at HO
        clear h3 HD HJ
        go_wp2_with (go_at_call 31; refine (HO.out _).mono ?_; rintro e w1 ⟨rfl, hq⟩; subst w1)
        go_roundw
        case rel => exact ⟨j + 1, d + 1, by omega, by omega, by go_num, by go_num, by omega, Lib.hid ⟨fun _ => by omega, by trivial⟩, HD2⟩
        case measure => (simp [intOf]) <;> omega
      | false =>
        have hjk : k < j := by
          rcases Nat.lt_or_ge k j with h | h
          · exact h
          · have e : j = k := by omega
            have := HJ.out e
            rw [h3] at this; cases this
        have hdp := hd0 hjk
        rw [h3] at HO
        by_cases h5 : x.1 = 10
        · obtain ⟨op, n⟩ := x
          simp only at *
          subst h5
          by_cases h1 : d = 1
          · subst h1
            have HD2 := Lib.hid (show mtN xs k = j by rw [HD.out, stepD_end rfl, if_pos rfl])
            clear h3 HD HJ
            go_wp2_with (go_at_call 31; refine (HO.out _).mono ?_; rintro e w1 ⟨rfl, hq⟩; subst w1)
            go_ret
            exact ⟨ret_int (by rw [HD2.out]), rfl⟩
          · have HD2 := Lib.hid (show mtN xs k = mtF (d - 1) (j + 1) (xs.drop (j + 1)) by rw [HD.out, stepD_end rfl, if_neg (by omega)])
            have hnz : ¬ ((d : Int) - 1 = 0) := by omega
            clear h3 HD HJ
            go_wp2_with (go_at_call 31; refine (HO.out _).mono ?_; rintro e w1 ⟨rfl, hq⟩; subst w1)
            go_roundw
            case rel => exact ⟨j + 1, d - 1, by omega, by omega, by go_num, by first | go_num | (congr 1; omega), by omega, Lib.hid ⟨fun _ => by omega, by trivial⟩, HD2⟩
            case measure => (simp [intOf]) <;> omega
        · have HD2 := Lib.hid (show mtN xs k = mtF d (j + 1) (xs.drop (j + 1)) by rw [HD.out, stepD_plain h3 h5, if_neg (by omega)])
          have hnz : ¬ ((d : Int) = 0) := by omega
          clear h3 HD HJ
          go_wp2_with (go_at_call 31; refine (HO.out _).mono ?_; rintro e w1 ⟨rfl, hq⟩; subst w1)
          go_roundw
          case rel => exact ⟨j + 1, d, by omega, by omega, by go_num, rfl, by omega, Lib.hid ⟨fun _ => hdp, by trivial⟩, HD2⟩
          case measure => (simp [intOf]) <;> omega
    · obtain rfl : j = xs.length := by omega
      have HE := Lib.hid (show mtN xs k = xs.length by rw [HI.out, List.drop_length, mtF])
      go_wp2
      go_ret
      exact ⟨ret_int (by rw [HE.out]), rfl⟩

theorem mtS_bad {xs : List (Int × Int)} {at_ : Int} (h : prgB xs = false) : mtR xs at_ = (0, 1) := by rw [mtR, if_pos h]
theorem mtS_out {xs : List (Int × Int)} {at_ : Int} (h : prgB xs = true) (h2 : inB at_ 0 ((xs.length : Int) - 1) = false) : mtR xs at_ = (0, 2) := by rw [mtR, if_neg (by rw [h]; simp), if_pos h2]
theorem mtS_no {xs : List (Int × Int)} {k : Nat} (h : prgB xs = true) (h2 : k < xs.length) (h3 : opnB (elt pairF xs k).1 = false) : mtR xs (k : Int) = (0, 6) := by
  rw [mtR, if_neg (by rw [h]; simp), if_neg (by rw [inB_yes (by omega) (by omega)]; simp), Int.toNat_natCast, if_pos h3]
theorem mtS_ok {xs : List (Int × Int)} {k : Nat} (h : prgB xs = true) (h2 : k < xs.length) (h3 : opnB (elt pairF xs k).1 = true) : mtR xs (k : Int) = (((mtN xs k : Nat) : Int), 0) := by
  rw [mtR, if_neg (by rw [h]; simp), if_neg (by rw [inB_yes (by omega) (by omega)]; simp), Int.toNat_natCast, if_neg (by rw [h3]; simp)]

set_option maxRecDepth 100000 in
set_option maxHeartbeats 4000000 in
theorem specMatchOf (a : Option Addr) (c : Nat) (xs : List (Int × Int)) (at_ : Int) (w : World) (ha : RdF pairF w a xs) (_ : All2 xs) (_ : I64 at_) :
    Calls Try.prog 15 #[.slice a xs.length c, .int .i64 at_] w fun e w' => e = .returned (.tuple #[.int .i64 (mtR xs at_).1, .int .i64 (mtR xs at_).2]) ∧ Below w.heap.size w w' := by
  have hx := ha.len
  cases hp : prgB xs with
  | false =>
    have HR := Lib.hid (mtS_bad (at_ := at_) hp)
    have HP := Lib.hid hp
    clear hp
    go_enter Try.func15, Try.ntmps15
    go_wp2_with (go_at_call 25; refine (l11Ok_at a c xs _ HP.out ha).mono ?_; rintro e w1 ⟨rfl, hb⟩)
    exact bodyPost_ret (v := .tuple #[.int .i64 0, .int .i64 1]) (by simp [results, Try.results15, go_sem]) rfl ⟨by rw [HR.out], hb⟩
  | true =>
    have HP := Lib.hid hp
    have HI := Lib.hid (fun (W : World) => l00In_any at_ 0 ((xs.length : Int) - 1) W)
    cases hi : inB at_ 0 ((xs.length : Int) - 1) with
    | false =>
      have HR := Lib.hid (mtS_out hp hi)
      rw [hi] at HI
      clear hp hi
      go_enter Try.func15, Try.ntmps15
      go_wp2_with (first | (go_at_call 25; refine (l11Ok_at a c xs _ HP.out ha).mono ?_; rintro e w1 ⟨rfl, hb⟩) | (go_at_call 30; refine (HI.out _).mono ?_; rintro e w2 ⟨rfl, hq⟩; subst w2))
      exact bodyPost_ret (v := .tuple #[.int .i64 0, .int .i64 2]) (by simp [results, Try.results15, go_sem]) rfl ⟨by rw [HR.out], hb⟩
    | true =>
      obtain ⟨q1, q2⟩ := inB_true hi
      rw [hi] at HI
      obtain ⟨k, rfl⟩ := Int.eq_ofNat_of_zero_le q1
      have hk : k < xs.length := by omega
      have HO := Lib.hid (fun (W : World) => opens_any (elt pairF xs k).1 W)
      cases ho : opnB (elt pairF xs k).1 with
      | false =>
        have HR := Lib.hid (mtS_no hp hk ho)
        rw [ho] at HO
        clear hp hi q1 q2 ho
        go_enter Try.func15, Try.ntmps15
        go_wp2_with (first | (go_at_call 25; refine (l11Ok_at a c xs _ HP.out ha).mono ?_; rintro e w1 ⟨rfl, hb⟩; obtain ⟨b, off, rfl, p0, p1⟩ := (ha.below hb).at2 hk) | (go_at_call 30; refine (HI.out _).mono ?_; rintro e w2 ⟨rfl, hq⟩; subst w2) | (go_at_call 31; refine (HO.out _).mono ?_; rintro e w2 ⟨rfl, hq⟩; subst w2))
        exact bodyPost_ret (v := .tuple #[.int .i64 0, .int .i64 6]) (by simp [results, Try.results15, go_sem]) rfl ⟨by rw [HR.out], hb⟩
      | true =>
        have HR := Lib.hid (mtS_ok hp hk ho)
        have HM := Lib.hid (fun (a : Option Addr) (W : World) (h : RdF pairF W a xs) => l11Match_any a c xs k W h (by omega) ho hk)
        rw [ho] at HO
        clear hp hi q1 q2 ho
        go_enter Try.func15, Try.ntmps15
        go_wp2_with (first | (go_at_call 25; refine (l11Ok_at a c xs _ HP.out ha).mono ?_; rintro e w1 ⟨rfl, hb⟩; replace ha := ha.below hb; obtain ⟨b, off, rfl, p0, p1⟩ := ha.at2 hk) | (go_at_call 30; refine (HI.out _).mono ?_; rintro e w2 ⟨rfl, hq⟩; subst w2) | (go_at_call 31; refine (HO.out _).mono ?_; rintro e w2 ⟨rfl, hq⟩; subst w2) | (go_at_call 32; refine (HM.out _ _ ha).mono ?_; rintro e w2 ⟨rfl, hq⟩; subst w2))
        exact bodyPost_ret (v := .tuple #[.int .i64 (mtN xs k : Nat), .int .i64 0]) (by simp [results, Try.results15, go_sem]) rfl ⟨by rw [HR.out], hb⟩
end Go.Proofs.Ytgfopieojpjddaa
