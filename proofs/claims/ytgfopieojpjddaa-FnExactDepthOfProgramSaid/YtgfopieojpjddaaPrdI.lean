/-
  DepthOfProgram, MatchOf, in the program.
-/
import Derived.Test.YtgfopieojpjddaaPrgL
namespace Go.Proofs.Ytgfopieojpjddaa
open Go.RowKit

set_option maxRecDepth 100000 in
set_option maxHeartbeats 4000000 in
theorem implDepthOfProgram (a : Option Addr) (c : Nat) (xs : List (Int × Int)) (w : World) (ha : RdF pairF w a xs) (_ : All2 xs) :
    Calls Try.prog 18 #[.slice a xs.length c] w fun e w' => e = .returned (.tuple #[.int .i64 (dpR xs).1, .int .i64 (dpR xs).2]) ∧ Below w.heap.size w w' := by
  obtain ⟨Z, hZ⟩ : ∃ Z, Z = lpC (.slice none 0 0) (fun _ => 0) 0 := ⟨_, rfl⟩
  have hzv := lp_zero
  rw [← hZ] at hzv
  have hZs : Z.size = 122 := by rw [hZ]; exact lpC_size _ _ _
  clear hZ
  go_enter Try.func18, Try.ntmps18
  go_wp2_with fail
  refine (loopsOf_any a c xs w ha).mono ?_
  rintro e w1 ⟨cs, rfl, hs, h1, hv, hb⟩
  have hst := lp_lay w1 hZs hs h1
  have hsz := hb.size
  cases hp : prgB xs with
  | false =>
    have HR := Lib.hid (dpR_bad hp)
    go_wp2
    exact bodyPost_ret (v := .tuple #[.int .i64 0, .int .i64 1]) (by simp [results, Try.results18, go_sem]) rfl ⟨by rw [HR.out], hb.alloc hsz _⟩
  | true =>
    have HR := Lib.hid (dpR_ok hp)
    obtain ⟨_, hd⟩ := hv hp
    have bx := Bx.new w1 cs 46
    have c1 := bx.at_ 121 hd
    clear hp
    go_wp2
    exact bodyPost_ret (v := .tuple #[.int .i64 (dpF 0 0 xs : Nat), .int .i64 0]) (by simp [results, Try.results18, go_sem]) rfl ⟨by rw [HR.out], hb.alloc hsz _⟩

theorem mtR_bad {xs : List (Int × Int)} {at_ : Int} (h : prgB xs = false) : mtR xs at_ = (0, 1) := by rw [mtR, if_pos h]
theorem mtR_out {xs : List (Int × Int)} {at_ : Int} (h : prgB xs = true) (h2 : inB at_ 0 ((xs.length : Int) - 1) = false) : mtR xs at_ = (0, 2) := by rw [mtR, if_neg (by rw [h]; simp), if_pos h2]
theorem mtR_no {xs : List (Int × Int)} {k : Nat} (h : prgB xs = true) (h2 : k < xs.length) (h3 : opnB (elt pairF xs k).1 = false) : mtR xs (k : Int) = (0, 6) := by
  rw [mtR, if_neg (by rw [h]; simp), if_neg (by rw [inB_yes (by omega) (by omega)]; simp), Int.toNat_natCast, if_pos h3]
theorem mtR_ok {xs : List (Int × Int)} {k : Nat} (h : prgB xs = true) (h2 : k < xs.length) (h3 : opnB (elt pairF xs k).1 = true) : mtR xs (k : Int) = (((mtN xs k : Nat) : Int), 0) := by
  rw [mtR, if_neg (by rw [h]; simp), if_neg (by rw [inB_yes (by omega) (by omega)]; simp), Int.toNat_natCast, if_neg (by rw [h3]; simp)]

set_option maxRecDepth 100000 in
set_option maxHeartbeats 8000000 in
theorem implMatchOf (a : Option Addr) (c : Nat) (xs : List (Int × Int)) (at_ : Int) (w : World) (ha : RdF pairF w a xs) (_ : All2 xs) (_ : I64 at_) :
    Calls Try.prog 16 #[.slice a xs.length c, .int .i64 at_] w fun e w' => e = .returned (.tuple #[.int .i64 (mtR xs at_).1, .int .i64 (mtR xs at_).2]) ∧ Below w.heap.size w w' := by
  have hx := ha.len
  obtain ⟨Z, hZ⟩ : ∃ Z, Z = lpC (.slice none 0 0) (fun _ => 0) 0 := ⟨_, rfl⟩
  have hzv := lp_zero
  rw [← hZ] at hzv
  have hZs : Z.size = 122 := by rw [hZ]; exact lpC_size _ _ _
  clear hZ
  go_enter Try.func16, Try.ntmps16
  go_wp2_with fail
  refine (loopsOf_any a c xs w ha).mono ?_
  rintro e w1 ⟨cs, rfl, hs, h1, hv, hb⟩
  have hst := lp_lay w1 hZs hs h1
  have hsz := hb.size
  cases hp : prgB xs with
  | false =>
    have HR := Lib.hid (mtR_bad (at_ := at_) hp)
    go_wp2
    exact bodyPost_ret (v := .tuple #[.int .i64 0, .int .i64 1]) (by simp [results, Try.results16, go_sem]) rfl ⟨by rw [HR.out], hb.alloc hsz _⟩
  | true =>
    obtain ⟨he, _⟩ := hv hp
    have HE := Lib.hid he
    have HP := Lib.hid hp
    clear hv he hp
    go_wp2_with fail
    obtain ⟨V, hV⟩ : ∃ V, V = (w1.alloc (.cells cs 46)).alloc (.cells #[.int .i64 at_] 2) := ⟨_, rfl⟩
    have hbV : Below w.heap.size w V := by rw [hV]; exact (hb.alloc hsz _).alloc (by simp; omega) _
    have bx : Bx V w1.heap.size 46 cs := by rw [hV]; exact (Bx.new _ _ _).alloc _
    have b2 : Bx V (w1.heap.size + 1) 2 #[.int .i64 at_] := by rw [hV]; simpa using Bx.new (w1.alloc (.cells cs 46)) #[.int .i64 at_] 2
    have hsV := hbV.size
    rw [← hV]
    clear hV hst hb
    have HW := Lib.hid (within1_at 0 ((xs.length : Int) - 1) at_ V (w1.heap.size + 1) 1 (b2.at_ 0 rfl))
    cases hi : inB at_ 0 ((xs.length : Int) - 1) with
    | false =>
      have HR := Lib.hid (mtR_out HP.out hi)
      rw [hi] at HW
      refine HW.out.mono ?_
      rintro e w2 ⟨rfl, hq⟩
      subst w2
      go_wp2
      exact bodyPost_ret (v := .tuple #[.int .i64 0, .int .i64 2]) (by simp [results, Try.results16, go_sem]) rfl ⟨by rw [HR.out], hbV⟩
    | true =>
      obtain ⟨q1, q2⟩ := inB_true hi
      rw [hi] at HW
      obtain ⟨k, rfl⟩ := Int.eq_ofNat_of_zero_le q1
      have hk : k < xs.length := by omega
      refine HW.out.mono ?_
      rintro e w2 ⟨rfl, hq⟩
      subst w2
      clear HW hi q1 q2 b2
      obtain ⟨b, off, rfl, p0, p1⟩ := (ha.below hbV).at2 hk
      have hk120 : k < 120 := by have := prgB_len HP.out; omega
      have hk2 : (k : Int) < 120 := by omega
      cases ho : opnB (elt pairF xs k).1 with
      | false =>
        have HR := Lib.hid (mtR_no HP.out hk ho)
        have HB := Lib.hid (begins_any (elt pairF xs k) V)
        rw [ho] at HB
        clear ho
        go_wp2_with fail
        refine HB.out.mono ?_
        rintro e w3 ⟨rfl, hb3⟩
        go_wp2
        exact bodyPost_ret (v := .tuple #[.int .i64 0, .int .i64 6]) (by simp [results, Try.results16, go_sem]) rfl ⟨by rw [HR.out], hbV.trans (hb3.mono hsV)⟩
      | true =>
        have HR := Lib.hid (mtR_ok HP.out hk ho)
        have HB := Lib.hid (begins_any (elt pairF xs k) V)
        rw [ho] at HB
        have hc := HE.out k hk ho
        clear ho
        go_wp2_with fail
        refine HB.out.mono ?_
        rintro e w3 ⟨rfl, hb3⟩
        have c1 := (bx.below hb3).at_ (1 + k) hc
        clear p0 p1 hc
        go_wp2
        exact bodyPost_ret (v := .tuple #[.int .i64 (mtN xs k : Nat), .int .i64 0]) (by simp [results, Try.results16, go_sem]) rfl ⟨by rw [HR.out], hbV.trans (hb3.mono hsV)⟩
end Go.Proofs.Ytgfopieojpjddaa
