/-
  spec.l02Text, RegisterText.
-/
import Derived.Test.YtmnnciiiifjjcaaDoorTxtI
import Derived.Test.YtmnnciiiifjjcaaDoorOkS
import Derived.Test.YtmnnciiiifjjcaaDoorTwoS
import Derived.Test.YtmnnciiiifjjcaaDoorDec
import Derived.Test.YtmnnciiiifjjcaaDoorMarkT
import Derived.Laws.Concat
namespace Go.Proofs.YtmnnciiiifjjcaaDoor
open Go.RowKit

def signs : ByteArray := ⟨#[48, 49, 50, 51, 52, 53, 54, 55, 56, 57, 97, 98, 99, 100, 101, 102]⟩
theorem signs_at {n : Nat} (h : n ≤ 15) : signs.extract n (n + 1) = ⟨#[sgnD (n : Int)]⟩ := by
  have hall : ∀ j : Fin 16, signs.extract j.val (j.val + 1) = ⟨#[sgnD ((j.val : Nat) : Int)]⟩ := by decide +kernel
  exact hall ⟨n, by omega⟩
/-- The text down to the digit j. -/
def txJ (B : Int) (zs : List Int) (j : Nat) : ByteArray := ⟨((Lib.itoa B ++ [58]) ++ (zs.drop j).reverse.map sgnD).toArray⟩
theorem txJ_all (B : Int) (zs : List Int) : txJ B zs zs.length = ⟨(Lib.itoa B).toArray⟩ ++ ⟨#[58]⟩ := by
  unfold txJ
  rw [List.drop_of_length_le (Nat.le_refl _)]
  simp
  rfl
theorem txJ_zero (B : Int) (zs : List Int) : txJ B zs 0 = ⟨(txB B zs).toArray⟩ := rfl
theorem txJ_step {B : Int} {zs : List Int} {j : Nat} (h : j < zs.length) : txJ B zs j = txJ B zs (j + 1) ++ ⟨#[sgnD (nth zs j)]⟩ := by
  unfold txJ
  rw [drop_nth h, List.reverse_cons, List.map_append, ← List.append_assoc]
  exact bs_ext (by simp)
theorem txJ_size {B : Int} {zs : List Int} {j : Nat} (h0 : 0 ≤ B) (h1 : B ≤ 16) (hl : zs.length ≤ 16) : (txJ B zs j).size ≤ 40 := by
  have := itoa_len h0 h1
  unfold txJ
  show ((Lib.itoa B ++ [58]) ++ (zs.drop j).reverse.map sgnD).toArray.size ≤ 40
  simp
  omega

set_option maxRecDepth 100000 in
set_option maxHeartbeats 4000000 in
theorem l02Text_any (p : Nat) (B : Int) (a : Option Addr) (c : Nat) (zs : List Int) (w : World) (ha : Rd w a zs) (hp0 : w.cell? ⟨p, 0, none⟩ = some (.int .i64 B)) (hp1 : w.cell? ⟨p, 1, none⟩ = some (.slice a zs.length c))
    (o1 : 2 ≤ B) (o2 : B ≤ 16) (o4 : zs.length ≤ 16) (o5 : ∀ d ∈ zs, 0 ≤ d ∧ d < B) :
    Calls Tryd.prog 55 #[.pointer (some ⟨p, 0, none⟩)] w fun e w' => e = .returned (.string ⟨(txB B zs).toArray⟩) ∧ Below w.heap.size w w' := by
  have HO := Lib.hid o5
  clear o5
  go_enter Tryd.func55, Tryd.ntmps55
  go_wp2_with fail
  refine (l01Dec_any B w (by omega) (by omega)).mono ?_
  rintro e w1 ⟨rfl, hb1⟩
  have ha1 := ha.below hb1
  have c0 := kept hb1 hp0
  have c1 := kept hb1 hp1
  obtain ⟨S, hS⟩ : ∃ S, S = signs := ⟨_, rfl⟩
  have hSs : S.size = 16 := by rw [hS]; rfl
  have HSG := Lib.hid hS
  unfold signs at hS
  rw [← hS]
  have hil := itoa_len (n := B) (by omega) (by omega)
  have hadd0 := run_string_add_sum (P := Tryd.prog) w1 ⟨(Lib.itoa B).toArray⟩ ⟨#[58]⟩ (by show (Lib.itoa B).toArray.size + 1 ≤ _; simp; omega)
  rw [← txJ_all B zs] at hadd0
  obtain ⟨y0, hy0⟩ : ∃ y, y = txJ B zs zs.length := ⟨_, rfl⟩
  rw [← hy0] at hadd0
  have HY0 := Lib.hid hy0
  clear hS hy0 hp0 hp1 ha
  go_wp2
  clear hadd0
  go_loopw [4, 5] (fun o i wr => ∃ (j m : Nat) (acc : ByteArray), j ≤ zs.length ∧ i = .int .i64 ((j : Int) - 1) ∧ o = .string acc ∧ Hid (acc = txJ B zs j) ∧ acc.size ≤ 40 ∧ Hid (wr = w1.drewN m)) (fun _ i _ => (intOf i + 1).toNat)
  case atStart => exact ⟨zs.length, 0, y0, Nat.le_refl _, by go_num, rfl, HY0, by rw [HY0.out]; exact txJ_size (by omega) o2 o4, Lib.hid rfl⟩
  case round =>
    obtain ⟨j, m, acc, hj, rfl, rfl, HA, hsz, HW⟩ := hrel
    have hbw : Below w1.heap.size w1 wr := by rw [HW.out]; exact bel_drewN (Below.refl _ _) m
    have e0 := kept hbw c0
    have e1 := kept hbw c1
    cases j with
    | zero =>
      rw [txJ_zero] at HA
      go_wp2
      go_ret
      exact ⟨by first | rfl | (rw [HA.out]; rfl), hb1.trans (hbw.mono hb1.size)⟩
    | succ j =>
      rw [show ((j + 1 : Nat) : Int) - 1 = (j : Int) from by omega]
      have hjl : j < zs.length := by omega
      obtain ⟨b, off, rfl, hc⟩ := (ha1.below hbw).at_ hjl
      have hd := HO.out (nth zs j) (by rw [nth_get hjl]; exact List.getElem_mem _)
      obtain ⟨d, hdn⟩ : ∃ d : Nat, nth zs j = (d : Int) := ⟨(nth zs j).toNat, by omega⟩
      have HDN := Lib.hid hdn
      have hd15 : d ≤ 15 := by omega
      rw [hdn] at hc
      have hx := signs_at hd15
      rw [← HSG.out] at hx
      have hadd := fun w => run_string_add_sum (P := Tryd.prog) w acc (S.extract d (d + 1)) (by rw [hx]; show acc.size + 1 ≤ _; omega)
      obtain ⟨y, hy⟩ : ∃ y, y = acc ++ S.extract d (d + 1) := ⟨_, rfl⟩
      rw [← hy] at hadd
      have HY := Lib.hid (show y = txJ B zs j by rw [hy, hx, HA.out, txJ_step hjl, HDN.out])
      have hys : y.size ≤ 40 := by rw [HY.out]; exact txJ_size (by omega) o2 o4
      have hw1 : IntKind.i64.wrap ((d : Int) + 1) = (d : Int) + 1 := IntWalk.i64_in _ (by omega)
      clear hx hy hdn hd
      go_wp2
      go_quiet (fail)
      go_wp2
      go_roundw
      case rel => exact ⟨j, _, y, by omega, by go_num, rfl, HY, hys, Lib.hid (by rw [HW.out, drewN_drewN])⟩
      case measure => (simp [intOf]) <;> omega

set_option maxHeartbeats 2000000 in
theorem specRegisterText (B : Int) (a : Option Addr) (c : Nat) (zs : List Int) (w : World) (ha : Rd w a zs) (_ : All64 zs) (_ : I64 B) :
    Calls Tryd.prog 22 #[.agg #[.int .i64 B, .slice a zs.length c]] w fun e w' => e = .returned (.string (txR B zs)) ∧ Below w.heap.size w w' := by
  obtain ⟨u, hu⟩ : ∃ u, u = w.alloc (.cells #[.int .i64 B, .slice a zs.length c] 26) := ⟨_, rfl⟩
  have hbel : Below w.heap.size w u := by rw [hu]; exact (by repeat (first | exact Below.refl _ _ | refine Below.setCell ?_ (by first | omega | (simp <;> omega)) _ | refine Below.alloc ?_ (by first | omega | (simp <;> omega)) _ | refine Below.drew ?_))
  have bx : Bx u w.heap.size 26 #[.int .i64 B, .slice a zs.length c] := by rw [hu]; exact Bx.new _ _ _
  have HU := Lib.hid hu
  clear hu
  have ha1 := ha.below hbel
  cases h : okB B zs with
  | false =>
    have HR := Lib.hid (txR_bad h)
    have HK := Lib.hid (l02Ok_at0 w.heap.size B a c zs u h ha1 (bx.at_ 0 rfl) (bx.at_ 1 rfl))
    clear h
    go_enter Tryd.func22, Tryd.ntmps22
    go_wp2_with fail
    rw [← HU.out]
    refine HK.out.mono ?_
    rintro e w1 ⟨rfl, n, hw⟩
    have hb1 : Below u.heap.size u w1 := by rw [hw]; exact bel_drewN (Below.refl _ _) n
    clear hw
    go_wp2
    go_ret
    exact ⟨by rw [HR.out]; rfl, hbel.trans (hb1.mono hbel.size)⟩
  | true =>
    have HR := Lib.hid (txR_ok h)
    have HK := Lib.hid (l02Ok_at0 w.heap.size B a c zs u h ha1 (bx.at_ 0 rfl) (bx.at_ 1 rfl))
    obtain ⟨o1, o2, o3, o4, o5, _⟩ := okB_spec h
    have HO := Lib.hid o5
    clear h o5
    go_enter Tryd.func22, Tryd.ntmps22
    go_wp2_with fail
    rw [← HU.out]
    refine HK.out.mono ?_
    rintro e w1 ⟨rfl, n, hw⟩
    have hb1 : Below u.heap.size u w1 := by rw [hw]; exact bel_drewN (Below.refl _ _) n
    clear hw
    replace bx := bx.below hb1
    go_wp2_with fail
    refine (l02Text_any w.heap.size B a c zs w1 (ha1.below hb1) (bx.at_ 0 rfl) (bx.at_ 1 rfl) o1 o2 o4 HO.out).mono ?_
    rintro e w2 ⟨rfl, hb2⟩
    go_wp2
    go_ret
    have hb3 := hbel.trans (hb1.mono hbel.size)
    exact ⟨by rw [HR.out]; rfl, hb3.trans (hb2.mono hb3.size)⟩
end Go.Proofs.YtmnnciiiifjjcaaDoor
