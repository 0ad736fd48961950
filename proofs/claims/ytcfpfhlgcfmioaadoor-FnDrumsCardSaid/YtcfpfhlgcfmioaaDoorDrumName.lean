/-
  DrumName, in the model and in the program.
-/
import Derived.Test.YtcfpfhlgcfmioaaDoorWithin
import Derived.Test.YtcfpfhlgcfmioaaDoorInS
namespace Go.Proofs.YtcfpfhlgcfmioaaDoor
open Go.RowKit

/-- The table of names, as the program's variable holds it. -/
def DrumNames (w : World) : Prop :=
  w.cell? ⟨0, 0, none⟩ = some (.string ⟨#[115, 116, 101, 112, 112, 101, 100]⟩) ∧ w.cell? ⟨0, 1, none⟩ = some (.string ⟨#[112, 105, 110, 115]⟩) ∧ w.cell? ⟨0, 2, none⟩ = some (.string ⟨#[114, 97, 99, 107]⟩)
theorem drumNames_below {w w' : World} (h : DrumNames w) (hb : Below w.heap.size w w') : DrumNames w' := ⟨kept hb h.1, kept hb h.2.1, kept hb h.2.2⟩
def dnV (c : Int) : ByteArray :=
  match c with
  | 1 => ⟨#[115, 116, 101, 112, 112, 101, 100]⟩
  | 2 => ⟨#[112, 105, 110, 115]⟩
  | 3 => ⟨#[114, 97, 99, 107]⟩
  | _ => ByteArray.empty
theorem dnV_out {c : Int} (h : c < 1 ∨ 3 < c) : dnV c = ByteArray.empty := by
  unfold dnV
  split <;> first | omega | rfl

set_option maxRecDepth 100000 in
set_option maxHeartbeats 4000000 in
theorem specDrumName (c : Int) (w : World) (_ : I64 c) :
    Calls Tryd.prog 24 #[.int .i64 c] w fun e w' => e = .returned (.string (dnV c)) ∧ Below w.heap.size w w' := by
  cases hc : inB c 1 3 with
  | true =>
    have c1 := Lib.hid hc
    obtain ⟨h1, h2⟩ := inB_true hc
    have hcc : c = 1 ∨ c = 2 ∨ c = 3 := by omega
    clear hc h1 h2
    rcases hcc with rfl | rfl | rfl
    all_goals
      go_enter Tryd.func24, Tryd.ntmps24
      go_wp2_with (go_at_call 38; refine (l00In_any _ _ _ _).mono ?_; rintro e w' ⟨rfl, rfl⟩; rw [c1.out])
      go_ret
      exact ⟨rfl, (Below.refl _ _).alloc (Nat.le_refl _) _⟩
  | false =>
    have c1 := Lib.hid hc
    have HV := Lib.hid (dnV_out (inB_false hc))
    clear hc
    go_enter Tryd.func24, Tryd.ntmps24
    go_wp2_with (go_at_call 38; refine (l00In_any _ _ _ _).mono ?_; rintro e w' ⟨rfl, rfl⟩; rw [c1.out])
    go_ret
    exact ⟨by rw [HV.out]; rfl, (Below.refl _ _).alloc (Nat.le_refl _) _⟩

set_option maxRecDepth 100000 in
set_option maxHeartbeats 4000000 in
theorem implDrumName (c : Int) (w : World) (_ : I64 c) (hn : DrumNames w) :
    Calls Tryd.prog 23 #[.int .i64 c] w fun e w' => e = .returned (.string (dnV c)) ∧ Below w.heap.size w w' := by
  obtain ⟨v, hv⟩ : ∃ v, v = w.alloc (.cells #[.int .i64 c] 2) := ⟨_, rfl⟩
  have hb : Below w.heap.size w v := by rw [hv]; exact (Below.refl _ _).alloc (Nat.le_refl _) _
  have tc : v.cell? ⟨w.heap.size, 0, none⟩ = some (.int .i64 c) := by rw [hv]; exact (Bx.new _ _ _).at_ 0 rfl
  obtain ⟨n0, n1, n2⟩ := drumNames_below hn hb
  have HV := Lib.hid hv
  clear hv hn
  have HW := Lib.hid (within1_at 1 3 c v w.heap.size 1 tc)
  clear tc
  cases hc : inB c 1 3 with
  | true =>
    rw [hc] at HW
    obtain ⟨h1, h2⟩ := inB_true hc
    have hcc : c = 1 ∨ c = 2 ∨ c = 3 := by omega
    clear hc h1 h2
    rcases hcc with rfl | rfl | rfl
    all_goals
      go_enter Tryd.func23, Tryd.ntmps23
      go_wp2_with fail
      rw [← HV.out]
      refine HW.out.mono ?_
      rintro e w' ⟨rfl, hq⟩
      subst w'
      go_wp2
      go_ret
      exact ⟨rfl, hb⟩
  | false =>
    rw [hc] at HW
    have HR := Lib.hid (dnV_out (inB_false hc))
    clear hc
    go_enter Tryd.func23, Tryd.ntmps23
    go_wp2_with fail
    rw [← HV.out]
    refine HW.out.mono ?_
    rintro e w' ⟨rfl, hq⟩
    subst w'
    go_wp2
    go_ret
    exact ⟨by rw [HR.out]; rfl, hb⟩
end Go.Proofs.YtcfpfhlgcfmioaaDoor
