/-
  FlatStrokes, in the program.
-/
import Derived.Test.YtgfopieojpjddaaFlsO
import Derived.Test.YtgfopieojpjddaaPrgL
namespace Go.Proofs.Ytgfopieojpjddaa
open Go.RowKit

/-- The forest of a flat program. -/
theorem foOk_of {xs : List (Int × Int)} (hp : prgB xs = true) (hf : flatB xs = true) {a e : Nat} {f : Fo} (h : PF xs a e f) : FoOk f ∧ f.len ≤ e - a := by
  have hx := prgB_len hp
  induction h with
  | nil a => exact ⟨trivial, Nat.zero_le _⟩
  | @leaf a e r ha ho hx10 hr ih =>
    have hle := hr.le
    have hin := prgB_ins hp ha
    have hfl : ¬ (elt pairF xs a).1 = 1 ∧ ¬ (elt pairF xs a).1 = 9 := by
      have := List.all_eq_true.1 hf _ (elt_mem (F := pairF) ha)
      simpa using this
    have hop := insB_op hin
    have h8 := opnB_f ho
    have harg := insB_arg hin
    have hb : 0 ≤ (elt pairF xs a).2 ∧ (elt pairF xs a).2 ≤ 100 := by
      unfold argB at harg
      rw [if_neg hfl.1] at harg
      split at harg
      · have := inB_true harg; omega
      · have : (elt pairF xs a).2 = 0 := by simpa using harg
        omega
    exact ⟨⟨.inr ⟨by omega, by omega, hb.1, hb.2, rfl⟩, ⟨trivial, Nat.zero_le _⟩, ih.1⟩, by have := ih.2; simp only [Fo.len]; omega⟩
  | @loop a t e k r ha ho ht htl hx10 hk hr ih1 ih2 =>
    have hle := hr.le
    have hle2 := hk.le
    have hin := prgB_ins hp ha
    have hfl : ¬ (elt pairF xs a).1 = 1 ∧ ¬ (elt pairF xs a).1 = 9 := by
      have := List.all_eq_true.1 hf _ (elt_mem (F := pairF) ha)
      simpa using this
    have h8 : (elt pairF xs a).1 = 8 := by have := opnB_t ho; omega
    have harg := insB_arg hin
    rw [h8, argB_num (by omega)] at harg
    have hb := inB_true harg
    exact ⟨⟨.inl ⟨h8, hb.1, hb.2⟩, ⟨ih1.1, by have := ih1.2; omega⟩, ih2.1⟩, by have := ih2.2; simp only [Fo.len]; omega⟩
theorem flR_bad {xs : List (Int × Int)} (h : prgB xs = false) : flR xs = ([], 1) := by rw [flR, if_pos h]
theorem flR_state {xs : List (Int × Int)} (h : prgB xs = true) (h2 : flatB xs = false) : flR xs = ([], 6) := by rw [flR, if_neg (by rw [h]; simp), if_pos h2]
theorem flR_full {xs : List (Int × Int)} (h : prgB xs = true) (h2 : flatB xs = true) (h3 : ¬ (flS (foOf xs)).length ≤ 3000) : flR xs = ([], 5) := by rw [flR, if_neg (by rw [h]; simp), if_neg (by rw [h2]; simp), if_pos (by omega)]
theorem flR_ok {xs : List (Int × Int)} (h : prgB xs = true) (h2 : flatB xs = true) (h3 : (flS (foOf xs)).length ≤ 3000) : flR xs = (flS (foOf xs), 0) := by rw [flR, if_neg (by rw [h]; simp), if_neg (by rw [h2]; simp), if_neg (by omega)]
def ftB (x : Int × Int) : Bool := decide (¬ x.1 = 1) && decide (¬ x.1 = 9)
theorem flatB_no {xs : List (Int × Int)} {j : Nat} (hj : j < xs.length) (h : ftB (elt pairF xs j) = false) : flatB xs = false := by
  cases hf : flatB xs with
  | false => rfl
  | true =>
    have h2 : ftB (elt pairF xs j) = true := List.all_eq_true.1 hf _ (elt_mem (F := pairF) hj)
    rw [h] at h2; cases h2
theorem flatB_yes {xs : List (Int × Int)} (h : ∀ k, k < xs.length → ftB (elt pairF xs k) = true) : flatB xs = true := by
  refine List.all_eq_true.2 fun x hx => ?_
  obtain ⟨k, hk, rfl⟩ := List.getElem_of_mem hx
  have := h k hk
  rw [elt_get hk] at this
  exact this

set_option maxRecDepth 100000 in
set_option maxHeartbeats 8000000 in
theorem implFlatStrokes (a : Option Addr) (c : Nat) (xs : List (Int × Int)) (w : World) (ha : RdF pairF w a xs) (hz : All2 xs) (hc : xs.length ≤ c) :
    Calls Try.prog 20 #[.slice a xs.length c] w fun e w' => ∃ A C, e = .returned (.tuple #[.slice A (flR xs).1.length C, .int .i64 (flR xs).2]) ∧
      Own 2 w' w.heap.size w'.heap.size (.slice A (flR xs).1.length C) (flR xs).1 ∧ Below w.heap.size w w' := by
  have hx := ha.len
  cases hp : prgB xs with
  | false =>
    have HR := Lib.hid (flR_bad hp)
    have HV := Lib.hid (implValidProgram_at a c xs w hp ha hz)
    clear hp
    go_enter Try.func20, Try.ntmps20
    go_wp2_with fail
    refine HV.out.mono ?_
    rintro e w1 ⟨rfl, hb1⟩
    go_wp2
    rw [HR.out]
    exact bodyPost_ret (v := .tuple #[.slice none 0 0, .int .i64 1]) (by simp [results, Try.results20, go_sem]) rfl ⟨none, 0, rfl, own_nil _ _ _ _, hb1⟩
  | true =>
    have hx120 := prgB_len hp
    have HP := Lib.hid hp
    have HV := Lib.hid (implValidProgram_at a c xs w hp ha hz)
    clear hp
    go_enter Try.func20, Try.ntmps20
    go_wp2_with fail
    refine HV.out.mono ?_
    rintro e w1 ⟨rfl, hb1⟩
    clear HV
    go_wp2
    go_loopw [15] (fun i wr => ∃ (j : Nat), j ≤ xs.length ∧ i = .int .i64 j ∧ Below w.heap.size w wr ∧ Hid (∀ k, k < j → ftB (elt pairF xs k) = true)) (fun i _ => xs.length - (intOf i).toNat)
    case atStart => exact ⟨0, by omega, rfl, hb1, Lib.hid (fun k hk => by omega)⟩
    case round =>
      clear hb1
      obtain ⟨j, hj, rfl, hb, HI⟩ := hrel
      have hs := hb.size
      by_cases hlt : j < xs.length
      · obtain ⟨b, off, rfl, p0, p1⟩ := (ha.below hb).at2 hlt
        obtain ⟨x, hxe⟩ : ∃ x, x = elt pairF xs j := ⟨_, rfl⟩
        rw [← hxe] at p0 p1
        have HX := Lib.hid hxe
        clear hxe
        obtain ⟨V, hV⟩ : ∃ V, V = wr.alloc (.cells #[.int .i64 x.1, .int .i64 x.2] 41) := ⟨_, rfl⟩
        have hba : Below wr.heap.size wr V := by rw [hV]; exact (Below.refl _ _).alloc (Nat.le_refl _) _
        have HVe := Lib.hid hV
        clear hV
        have hsV := hba.size
        cases hft : ftB x with
        | true =>
          have HC := Lib.hid (show Calls Try.prog 37 #[.agg #[.int .i64 x.1, .int .i64 x.2]] V fun e w' => e = .returned (.bool true) ∧ Below V.heap.size V w' from by rw [← hft]; exact isFlat_any x V)
          have HN := Lib.hid (show ∀ k, k < j + 1 → ftB (elt pairF xs k) = true from fun k hk => by
            by_cases h : k = j
            · subst h; rw [← HX.out]; exact hft
            · exact HI.out k (by omega))
          clear hft HI
          go_wp2_with fail
          rw [← HVe.out]
          refine HC.out.mono ?_
          rintro e2 w2 ⟨rfl, hb2⟩
          have hb3 := hb.trans ((hba.trans (hb2.mono hsV)).mono hs)
          go_wp2
          go_roundw
          case rel => exact ⟨j + 1, by omega, by go_num, hb3, HN⟩
          case measure => (simp [intOf]) <;> omega
        | false =>
          have HC := Lib.hid (show Calls Try.prog 37 #[.agg #[.int .i64 x.1, .int .i64 x.2]] V fun e w' => e = .returned (.bool false) ∧ Below V.heap.size V w' from by rw [← hft]; exact isFlat_any x V)
          have HR := Lib.hid (flR_state HP.out (flatB_no hlt (by rw [← HX.out]; exact hft)))
          clear hft HI
          go_wp2_with fail
          rw [← HVe.out]
          refine HC.out.mono ?_
          rintro e2 w2 ⟨rfl, hb2⟩
          have hb3 := hb.trans ((hba.trans (hb2.mono hsV)).mono hs)
          go_wp2
          rw [HR.out]
          exact bodyPost_ret (v := .tuple #[.slice none 0 0, .int .i64 6]) (by simp [results, Try.results20, go_sem]) rfl ⟨none, 0, rfl, own_nil _ _ _ _, hb3⟩
      · obtain rfl : j = xs.length := by omega
        have hflat := flatB_yes HI.out
        have hpf := foOf_pf HP.out
        obtain ⟨hok, hlen⟩ := foOk_of HP.out hflat hpf
        have HRb := Lib.hid (fun h3 => flR_full HP.out hflat h3)
        have HRg := Lib.hid (fun h3 => flR_ok HP.out hflat h3)
        generalize foOf xs = f at *
        have HN := Lib.hid (show Calls Try.prog 38 #[.slice a xs.length c] wr (NodesPost w xs xs.length f wr) from by
          have := nodesOf_any (w0 := w) (xs := xs) (by omega) (f.size + 1) f 0 xs.length a c wr (by omega) hpf (.inl rfl) (by omega) hb (by simpa using ha) (by omega)
          simpa using this)
        have HFl := Lib.hid (fun A C W (hW : FoR W A f) => flatStrokes_any (f.size + 1) f A C W (by omega) hok (by omega) hW)
        clear HI hflat hpf hok hlen
        go_wp2_with fail
        refine HN.out.mono ?_
        rintro e2 w2 ⟨N, C, V, rfl, hfo, hb2, _⟩
        have hb3 := hb.trans (hb2.mono hs)
        have hs3 := hb3.size
        go_wp2_with fail
        refine (HFl.out N C w2 hfo.r).mono ?_
        rintro e3 w3 ⟨hb4, hpost⟩
        have hb5 := hb3.trans (hb4.mono hs3)
        by_cases h3 : (flS f).length ≤ 3000
        · rw [if_pos h3] at hpost
          obtain ⟨A4, C4, rfl, ow⟩ := hpost
          have HR := Lib.hid (HRg.out h3)
          go_wp2
          rw [HR.out]
          exact bodyPost_ret (v := .tuple #[.slice A4 (flS f).length C4, .int .i64 0]) (by simp [results, Try.results20, go_sem]) rfl ⟨A4, C4, rfl, ow.wide hs3 (Nat.le_refl _), hb5⟩
        · rw [if_neg h3] at hpost
          subst hpost
          have HR := Lib.hid (HRb.out h3)
          go_wp2
          rw [HR.out]
          exact bodyPost_ret (v := .tuple #[.slice none 0 0, .int .i64 5]) (by simp [results, Try.results20, go_sem]) rfl ⟨none, 0, rfl, own_nil _ _ _ _, hb5⟩
/-- A list of its own has room for itself. -/
theorem own_cap {t : TypeId} {w : World} {lo hi C : Nat} {A : Option Addr} {xs : List (Int × Int)} (h : OwnF pairF t w lo hi (.slice A xs.length C) xs) : xs.length ≤ C := by
  rcases h.row.row.2 with ⟨hv, h0⟩ | ⟨g, cap, cur, hv, _, _, hnc, _⟩
  · omega
  · injection hv with _ _ e3
    omega
end Go.Proofs.Ytgfopieojpjddaa
