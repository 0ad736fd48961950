/-
  LineFaultName, in the model and in the program.
-/
import Derived.Test.YtgfopieojpjddaaDoorWithin
import Derived.Test.YtgfopieojpjddaaDoorInS
namespace Go.Proofs.YtgfopieojpjddaaDoor
open Go.RowKit

/-- The table of names, as the program's variable holds it. -/
def LineNames (w : World) : Prop :=
  w.cell? ⟨0, 0, none⟩ = some (.string ⟨#[110, 111, 110, 101]⟩) ∧ w.cell? ⟨0, 1, none⟩ = some (.string ⟨#[119, 111, 114, 100]⟩) ∧ w.cell? ⟨0, 2, none⟩ = some (.string ⟨#[110, 117, 109, 98, 101, 114]⟩) ∧ w.cell? ⟨0, 3, none⟩ = some (.string ⟨#[111, 112, 101, 110]⟩) ∧ w.cell? ⟨0, 4, none⟩ = some (.string ⟨#[101, 110, 100]⟩) ∧ w.cell? ⟨0, 5, none⟩ = some (.string ⟨#[100, 101, 101, 112]⟩)
theorem lineNames_below {w w' : World} (h : LineNames w) (hb : Below w.heap.size w w') : LineNames w' := ⟨kept hb h.1, kept hb h.2.1, kept hb h.2.2.1, kept hb h.2.2.2.1, kept hb h.2.2.2.2.1, kept hb h.2.2.2.2.2⟩
def lfV (c : Int) : ByteArray :=
  match c with
  | 0 => ⟨#[110, 111, 110, 101]⟩
  | 1 => ⟨#[119, 111, 114, 100]⟩
  | 2 => ⟨#[110, 117, 109, 98, 101, 114]⟩
  | 3 => ⟨#[111, 112, 101, 110]⟩
  | 4 => ⟨#[101, 110, 100]⟩
  | 5 => ⟨#[100, 101, 101, 112]⟩
  | _ => ByteArray.empty
theorem lfV_out {c : Int} (h : c < 0 ∨ 5 < c) : lfV c = ByteArray.empty := by
  unfold lfV
  split <;> first | omega | rfl

set_option maxRecDepth 100000 in
set_option maxHeartbeats 4000000 in
theorem specLineFaultName (c : Int) (w : World) (_ : I64 c) :
    Calls Tryd.prog 28 #[.int .i64 c] w fun e w' => e = .returned (.string (lfV c)) ∧ Below w.heap.size w w' := by
  cases hc : inB c 0 5 with
  | true =>
    have c1 := Lib.hid hc
    obtain ⟨h1, h2⟩ := inB_true hc
    have hcc : c = 0 ∨ c = 1 ∨ c = 2 ∨ c = 3 ∨ c = 4 ∨ c = 5 := by omega
    clear hc h1 h2
    rcases hcc with rfl | rfl | rfl | rfl | rfl | rfl
    all_goals
      go_enter Tryd.func28, Tryd.ntmps28
      go_wp2_with (go_at_call 69; refine (l00In_any _ _ _ _).mono ?_; rintro e w' ⟨rfl, rfl⟩; rw [c1.out])
      go_ret
      exact ⟨rfl, (Below.refl _ _).alloc (Nat.le_refl _) _⟩
  | false =>
    have c1 := Lib.hid hc
    have HV := Lib.hid (lfV_out (inB_false hc))
    clear hc
    go_enter Tryd.func28, Tryd.ntmps28
    go_wp2_with (go_at_call 69; refine (l00In_any _ _ _ _).mono ?_; rintro e w' ⟨rfl, rfl⟩; rw [c1.out])
    go_ret
    exact ⟨by rw [HV.out]; rfl, (Below.refl _ _).alloc (Nat.le_refl _) _⟩

set_option maxRecDepth 100000 in
set_option maxHeartbeats 4000000 in
theorem implLineFaultName (c : Int) (w : World) (_ : I64 c) (hn : LineNames w) :
    Calls Tryd.prog 29 #[.int .i64 c] w fun e w' => e = .returned (.string (lfV c)) ∧ Below w.heap.size w w' := by
  obtain ⟨v, hv⟩ : ∃ v, v = w.alloc (.cells #[.int .i64 c] 2) := ⟨_, rfl⟩
  have hb : Below w.heap.size w v := by rw [hv]; exact (Below.refl _ _).alloc (Nat.le_refl _) _
  have tc : v.cell? ⟨w.heap.size, 0, none⟩ = some (.int .i64 c) := by rw [hv]; exact (Bx.new _ _ _).at_ 0 rfl
  obtain ⟨n0, n1, n2, n3, n4, n5⟩ := lineNames_below hn hb
  have HV := Lib.hid hv
  clear hv hn
  have HW := Lib.hid (within1_at 0 5 c v w.heap.size 1 tc)
  clear tc
  cases hc : inB c 0 5 with
  | true =>
    rw [hc] at HW
    obtain ⟨h1, h2⟩ := inB_true hc
    have hcc : c = 0 ∨ c = 1 ∨ c = 2 ∨ c = 3 ∨ c = 4 ∨ c = 5 := by omega
    clear hc h1 h2
    rcases hcc with rfl | rfl | rfl | rfl | rfl | rfl
    all_goals
      go_enter Tryd.func29, Tryd.ntmps29
      go_wp2_with fail
      rw [← HV.out]
      refine HW.out.mono ?_
      rintro e w' ⟨rfl, hq⟩
      subst w'
      go_wp2
      go_ret
      exact ⟨rfl, hb⟩
  | false =>
    rw [hc] at HW
    have HR := Lib.hid (lfV_out (inB_false hc))
    clear hc
    go_enter Tryd.func29, Tryd.ntmps29
    go_wp2_with fail
    rw [← HV.out]
    refine HW.out.mono ?_
    rintro e w' ⟨rfl, hq⟩
    subst w'
    go_wp2
    go_ret
    exact ⟨by rw [HR.out]; rfl, hb⟩
end Go.Proofs.YtgfopieojpjddaaDoor
