/-
  AccumulatorText: the program's and the model's.
-/
import Derived.Test.YtiogbpnnnpodkaaDoorNumI
import Derived.Test.YtiogbpnnnpodkaaDoorAccO
import Derived.Test.YtiogbpnnnpodkaaDoorDecI
import Derived.Lib.ItoaLen
import Derived.Laws.Concat
namespace Go.Proofs.YtiogbpnnnpodkaaDoor
open Go.RowKit

/-- AccumulatorText. -/
def atxV (B : Int) (zs : List Int) : ByteArray :=
  if accB B zs = true then (if numA B zs < 0 then ⟨(Lib.itoa (numA B zs)).toArray⟩ else ⟨#[43]⟩ ++ ⟨(Lib.itoa (numA B zs)).toArray⟩) else ByteArray.empty
theorem numA_small {B : Int} {zs : List Int} (h : accB B zs = true) : -1000000000001 ≤ numA B zs ∧ numA B zs ≤ 1000000000001 := by
  have h1 := numA_in h
  have h2 := cntA_bd (accB_full h)
  omega
theorem plus_run (S : ByteArray) (w : World) (h : S.size ≤ 30) : (Op.stringOp .add ⟨#[43]⟩ S).run Tryd.prog w = .ok (.string (⟨#[43]⟩ ++ S)) w :=
  run_string_add_sum (P := Tryd.prog) w ⟨#[43]⟩ S (by show 1 + S.size ≤ _; omega)

set_option maxRecDepth 100000 in
set_option maxHeartbeats 4000000 in
theorem implAccumulatorText (xB : Int) (xA : Option Addr) (xC : Nat) (xZ : List Int) (w : World) (ha : Rd w xA xZ) (z : All64 xZ) (b : I64 xB) (hD : PowTab w ∧ BellD w) :
    Calls Tryd.prog 38 #[.agg #[.int .i64 xB, .slice xA xZ.length xC]] w fun e w' => e = .returned (.string (atxV xB xZ)) ∧ Below w.heap.size w w' := by
  have R := Tryd.results38
  have hbel : Below w.heap.size w w := Below.refl _ _
  obtain ⟨hP, hL⟩ := hD
  cases h : accB xB xZ with
  | false =>
    have HR := Lib.hid (show atxV xB xZ = ByteArray.empty by simp [atxV, h])
    have HN := Lib.hid (show numR xB xZ = (0, 1) by simp [numR, h])
    clear h
    go_enter Tryd.func38, Tryd.ntmps38
    go_wp2_with fail
    obtain ⟨p, hp⟩ : ∃ g, g = w.heap.size := ⟨_, rfl⟩
    have hk_p : w.heap.size ≤ p := Nat.le_of_eq hp.symm
    obtain ⟨u, hu⟩ : ∃ V, V = w.alloc (.cells #[.int .i64 xB, .slice xA xZ.length xC] 24) := ⟨_, rfl⟩
    have b_p : Bx u p 24 #[.int .i64 xB, .slice xA xZ.length xC] := by rw [hu, hp]; exact Bx.new _ _ _
    have hb : Below w.heap.size w u := by rw [hu]; exact (Below.refl _ _).alloc (Nat.le_refl _) _
    rw [← hp, ← hu]
    clear hu hp
    replace ha := ha.below hb
    replace hL := hL.below hb
    replace hbel := hbel.trans (hb.mono hbel.size)
    clear hb
    refine (implNumberOf xB xA xC xZ u ha z b hL).mono ?_
    rintro e v ⟨rfl, hb⟩
    rw [HN.out]
    replace ha := ha.below hb
    replace hL := hL.below hb
    replace b_p := b_p.below hb
    replace hbel := hbel.trans (hb.mono hbel.size)
    clear hb
    go_wp2
    exact bodyPost_ret (v := .string ⟨#[]⟩) (by simp [results, go_sem]) rfl ⟨by rw [HR.out]; rfl, hbel⟩
  | true =>
    have HN := Lib.hid (show numR xB xZ = (numA xB xZ, 0) by simp [numR, h])
    have hs := numA_small h
    have HR := Lib.hid (show atxV xB xZ = if numA xB xZ < 0 then ⟨(Lib.itoa (numA xB xZ)).toArray⟩ else ⟨#[43]⟩ ++ ⟨(Lib.itoa (numA xB xZ)).toArray⟩ by simp [atxV, h])
    obtain ⟨y, hy⟩ : ∃ y, y = numA xB xZ := ⟨_, rfl⟩
    rw [← hy] at HN HR hs
    have HI := Lib.hid (fun (w : World) (hP : PowTab w) => implDecimal y w (i64_of (by omega) (by omega)) hP)
    have hl : (Lib.itoa y).length ≤ 21 := Lib.itoa_length_le y (by omega) (by omega)
    obtain ⟨S, hS⟩ : ∃ S : ByteArray, S = ⟨(Lib.itoa y).toArray⟩ := ⟨_, rfl⟩
    rw [← hS] at HI HR
    have hSs : S.size ≤ 30 := by rw [hS]; show (Lib.itoa y).toArray.size ≤ 30; simp; omega
    clear h hy hS hl
    by_cases hn : y < 0
    · rw [if_pos hn] at HR
      go_enter Tryd.func38, Tryd.ntmps38
      go_wp2_with fail
      obtain ⟨p, hp⟩ : ∃ g, g = w.heap.size := ⟨_, rfl⟩
      have hk_p : w.heap.size ≤ p := Nat.le_of_eq hp.symm
      obtain ⟨u, hu⟩ : ∃ V, V = w.alloc (.cells #[.int .i64 xB, .slice xA xZ.length xC] 24) := ⟨_, rfl⟩
      have b_p : Bx u p 24 #[.int .i64 xB, .slice xA xZ.length xC] := by rw [hu, hp]; exact Bx.new _ _ _
      have hb : Below w.heap.size w u := by rw [hu]; exact (Below.refl _ _).alloc (Nat.le_refl _) _
      rw [← hp, ← hu]
      clear hu hp
      replace ha := ha.below hb
      replace hL := hL.below hb
      replace hbel := hbel.trans (hb.mono hbel.size)
      clear hb
      refine (implNumberOf xB xA xC xZ u ha z b hL).mono ?_
      rintro e v ⟨rfl, hb⟩
      rw [HN.out]
      replace ha := ha.below hb
      replace hL := hL.below hb
      replace b_p := b_p.below hb
      replace hbel := hbel.trans (hb.mono hbel.size)
      clear hb
      go_wp2_with fail
      refine (HI.out v (powTab_below hP hbel)).mono ?_
      rintro e v2 ⟨rfl, hb⟩
      replace ha := ha.below hb
      replace hL := hL.below hb
      replace b_p := b_p.below hb
      replace hbel := hbel.trans (hb.mono hbel.size)
      clear hb
      go_wp2
      exact bodyPost_ret (v := .string S) (by simp [results, go_sem]) rfl ⟨by rw [HR.out], hbel⟩
    · rw [if_neg hn] at HR
      go_enter Tryd.func38, Tryd.ntmps38
      go_wp2_with fail
      obtain ⟨p, hp⟩ : ∃ g, g = w.heap.size := ⟨_, rfl⟩
      have hk_p : w.heap.size ≤ p := Nat.le_of_eq hp.symm
      obtain ⟨u, hu⟩ : ∃ V, V = w.alloc (.cells #[.int .i64 xB, .slice xA xZ.length xC] 24) := ⟨_, rfl⟩
      have b_p : Bx u p 24 #[.int .i64 xB, .slice xA xZ.length xC] := by rw [hu, hp]; exact Bx.new _ _ _
      have hb : Below w.heap.size w u := by rw [hu]; exact (Below.refl _ _).alloc (Nat.le_refl _) _
      rw [← hp, ← hu]
      clear hu hp
      replace ha := ha.below hb
      replace hL := hL.below hb
      replace hbel := hbel.trans (hb.mono hbel.size)
      clear hb
      refine (implNumberOf xB xA xC xZ u ha z b hL).mono ?_
      rintro e v ⟨rfl, hb⟩
      rw [HN.out]
      replace ha := ha.below hb
      replace hL := hL.below hb
      replace b_p := b_p.below hb
      replace hbel := hbel.trans (hb.mono hbel.size)
      clear hb
      go_wp2_with fail
      refine (HI.out v (powTab_below hP hbel)).mono ?_
      rintro e v2 ⟨rfl, hb⟩
      replace ha := ha.below hb
      replace hL := hL.below hb
      replace b_p := b_p.below hb
      replace hbel := hbel.trans (hb.mono hbel.size)
      clear hb
      have hadd := plus_run S v2 hSs
      obtain ⟨X, hX⟩ : ∃ X : ByteArray, X = ⟨#[43]⟩ ++ S := ⟨_, rfl⟩
      rw [← hX] at hadd HR
      clear hX
      go_wp2
      exact bodyPost_ret (v := .string X) (by simp [results, go_sem]) rfl ⟨by rw [HR.out], hbel⟩

set_option maxRecDepth 100000 in
set_option maxHeartbeats 4000000 in
theorem specAccumulatorText (xB : Int) (xA : Option Addr) (xC : Nat) (xZ : List Int) (w : World) (ha : Rd w xA xZ) (_ : All64 xZ) (_ : I64 xB) :
    Calls Tryd.prog 37 #[.agg #[.int .i64 xB, .slice xA xZ.length xC]] w fun e w' => e = .returned (.string (atxV xB xZ)) ∧ Below w.heap.size w w' := by
  have R := Tryd.results37
  have hbel : Below w.heap.size w w := Below.refl _ _
  cases h : accB xB xZ with
  | false =>
    have HR := Lib.hid (show atxV xB xZ = ByteArray.empty by simp [atxV, h])
    have H := Lib.hid h
    clear h
    go_enter Tryd.func37, Tryd.ntmps37
    go_wp2_with fail
    obtain ⟨p, hp⟩ : ∃ g, g = w.heap.size := ⟨_, rfl⟩
    have hk_p : w.heap.size ≤ p := Nat.le_of_eq hp.symm
    obtain ⟨u, hu⟩ : ∃ V, V = w.alloc (.cells #[.int .i64 xB, .slice xA xZ.length xC] 24) := ⟨_, rfl⟩
    have b_p : Bx u p 24 #[.int .i64 xB, .slice xA xZ.length xC] := by rw [hu, hp]; exact Bx.new _ _ _
    have hb : Below w.heap.size w u := by rw [hu]; exact (Below.refl _ _).alloc (Nat.le_refl _) _
    rw [← hp, ← hu]
    clear hu hp
    replace ha := ha.below hb
    replace hbel := hbel.trans (hb.mono hbel.size)
    clear hb
    refine (l09Ok_at p xB xA xC xZ u H.out ha (b_p.at_ 0 rfl) (b_p.at_ 1 rfl)).mono ?_
    rintro e v ⟨rfl, hb⟩
    replace ha := ha.below hb
    replace b_p := b_p.below hb
    replace hbel := hbel.trans (hb.mono hbel.size)
    clear hb
    go_wp2
    exact bodyPost_ret (v := .string ⟨#[]⟩) (by simp [results, go_sem]) rfl ⟨by rw [HR.out]; rfl, hbel⟩
  | true =>
    have hs := numA_small h
    have HR := Lib.hid (show atxV xB xZ = if numA xB xZ < 0 then ⟨(Lib.itoa (numA xB xZ)).toArray⟩ else ⟨#[43]⟩ ++ ⟨(Lib.itoa (numA xB xZ)).toArray⟩ by simp [atxV, h])
    have H := Lib.hid h
    obtain ⟨y, hy⟩ : ∃ y, y = numA xB xZ := ⟨_, rfl⟩
    have HY := Lib.hid hy.symm
    rw [← hy] at HR hs
    have HI := Lib.hid (fun (w : World) => l01Dec_any y w (by omega) (by omega))
    have hl : (Lib.itoa y).length ≤ 21 := Lib.itoa_length_le y (by omega) (by omega)
    obtain ⟨S, hS⟩ : ∃ S : ByteArray, S = ⟨(Lib.itoa y).toArray⟩ := ⟨_, rfl⟩
    rw [← hS] at HI HR
    have hSs : S.size ≤ 30 := by rw [hS]; show (Lib.itoa y).toArray.size ≤ 30; simp; omega
    clear h hy hS hl
    by_cases hn : y < 0
    · rw [if_pos hn] at HR
      go_enter Tryd.func37, Tryd.ntmps37
      go_wp2_with fail
      obtain ⟨p, hp⟩ : ∃ g, g = w.heap.size := ⟨_, rfl⟩
      have hk_p : w.heap.size ≤ p := Nat.le_of_eq hp.symm
      obtain ⟨u, hu⟩ : ∃ V, V = w.alloc (.cells #[.int .i64 xB, .slice xA xZ.length xC] 24) := ⟨_, rfl⟩
      have b_p : Bx u p 24 #[.int .i64 xB, .slice xA xZ.length xC] := by rw [hu, hp]; exact Bx.new _ _ _
      have hb : Below w.heap.size w u := by rw [hu]; exact (Below.refl _ _).alloc (Nat.le_refl _) _
      rw [← hp, ← hu]
      clear hu hp
      replace ha := ha.below hb
      replace hbel := hbel.trans (hb.mono hbel.size)
      clear hb
      refine (l09Ok_at p xB xA xC xZ u H.out ha (b_p.at_ 0 rfl) (b_p.at_ 1 rfl)).mono ?_
      rintro e v ⟨rfl, hb⟩
      replace ha := ha.below hb
      replace b_p := b_p.below hb
      replace hbel := hbel.trans (hb.mono hbel.size)
      clear hb
      go_wp2_with fail
      refine (l09Number_any p xB xA xC xZ v H.out ha (b_p.at_ 0 rfl) (b_p.at_ 1 rfl)).mono ?_
      rintro e v1 ⟨rfl, hb⟩
      rw [HY.out]
      replace ha := ha.below hb
      replace b_p := b_p.below hb
      replace hbel := hbel.trans (hb.mono hbel.size)
      clear hb
      go_wp2_with fail
      refine (HI.out v1).mono ?_
      rintro e v2 ⟨rfl, hb⟩
      replace ha := ha.below hb
      replace b_p := b_p.below hb
      replace hbel := hbel.trans (hb.mono hbel.size)
      clear hb
      go_wp2
      exact bodyPost_ret (v := .string S) (by simp [results, go_sem]) rfl ⟨by rw [HR.out], hbel⟩
    · rw [if_neg hn] at HR
      go_enter Tryd.func37, Tryd.ntmps37
      go_wp2_with fail
      obtain ⟨p, hp⟩ : ∃ g, g = w.heap.size := ⟨_, rfl⟩
      have hk_p : w.heap.size ≤ p := Nat.le_of_eq hp.symm
      obtain ⟨u, hu⟩ : ∃ V, V = w.alloc (.cells #[.int .i64 xB, .slice xA xZ.length xC] 24) := ⟨_, rfl⟩
      have b_p : Bx u p 24 #[.int .i64 xB, .slice xA xZ.length xC] := by rw [hu, hp]; exact Bx.new _ _ _
      have hb : Below w.heap.size w u := by rw [hu]; exact (Below.refl _ _).alloc (Nat.le_refl _) _
      rw [← hp, ← hu]
      clear hu hp
      replace ha := ha.below hb
      replace hbel := hbel.trans (hb.mono hbel.size)
      clear hb
      refine (l09Ok_at p xB xA xC xZ u H.out ha (b_p.at_ 0 rfl) (b_p.at_ 1 rfl)).mono ?_
      rintro e v ⟨rfl, hb⟩
      replace ha := ha.below hb
      replace b_p := b_p.below hb
      replace hbel := hbel.trans (hb.mono hbel.size)
      clear hb
      go_wp2_with fail
      refine (l09Number_any p xB xA xC xZ v H.out ha (b_p.at_ 0 rfl) (b_p.at_ 1 rfl)).mono ?_
      rintro e v1 ⟨rfl, hb⟩
      rw [HY.out]
      replace ha := ha.below hb
      replace b_p := b_p.below hb
      replace hbel := hbel.trans (hb.mono hbel.size)
      clear hb
      go_wp2_with fail
      refine (HI.out v1).mono ?_
      rintro e v2 ⟨rfl, hb⟩
      replace ha := ha.below hb
      replace b_p := b_p.below hb
      replace hbel := hbel.trans (hb.mono hbel.size)
      clear hb
      have hadd := plus_run S v2 hSs
      obtain ⟨X, hX⟩ : ∃ X : ByteArray, X = ⟨#[43]⟩ ++ S := ⟨_, rfl⟩
      rw [← hX] at hadd HR
      clear hX
      go_wp2
      exact bodyPost_ret (v := .string X) (by simp [results, go_sem]) rfl ⟨by rw [HR.out], hbel⟩
end Go.Proofs.YtiogbpnnnpodkaaDoor
