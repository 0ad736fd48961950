/-
  StrokeName, in the model and in the program.
-/
import Derived.Test.YtlahobdopmdfmaaDoorWithin
import Derived.Test.YtlahobdopmdfmaaDoorInS
namespace Go.Proofs.YtlahobdopmdfmaaDoor
open Go.RowKit

/-- The table of names, as the program's variable holds it. -/
def StrokeNames (w : World) : Prop :=
  w.cell? ⟨1, 1, none⟩ = some (.string ⟨#[97, 100, 100]⟩) ∧ w.cell? ⟨1, 2, none⟩ = some (.string ⟨#[115, 117, 98]⟩) ∧ w.cell? ⟨1, 3, none⟩ = some (.string ⟨#[114, 105, 103, 104, 116]⟩) ∧ w.cell? ⟨1, 4, none⟩ = some (.string ⟨#[108, 101, 102, 116]⟩) ∧ w.cell? ⟨1, 5, none⟩ = some (.string ⟨#[99, 108, 101, 97, 114]⟩) ∧ w.cell? ⟨1, 6, none⟩ = some (.string ⟨#[122, 101, 114, 111]⟩)
theorem strokeNames_below {w w' : World} (h : StrokeNames w) (hb : Below w.heap.size w w') : StrokeNames w' := ⟨kept hb h.1, kept hb h.2.1, kept hb h.2.2.1, kept hb h.2.2.2.1, kept hb h.2.2.2.2.1, kept hb h.2.2.2.2.2⟩
def snV (c : Int) : ByteArray :=
  match c with
  | 1 => ⟨#[97, 100, 100]⟩
  | 2 => ⟨#[115, 117, 98]⟩
  | 3 => ⟨#[114, 105, 103, 104, 116]⟩
  | 4 => ⟨#[108, 101, 102, 116]⟩
  | 5 => ⟨#[99, 108, 101, 97, 114]⟩
  | 6 => ⟨#[122, 101, 114, 111]⟩
  | _ => ByteArray.empty
theorem snV_out {c : Int} (h : c < 1 ∨ 6 < c) : snV c = ByteArray.empty := by
  unfold snV
  split <;> first | omega | rfl

theorem snIn_any (k : Int) (w : World) : Calls Tryd.prog 89 #[.int .i64 k] w fun e w' => e = .returned (.bool (inB k 1 6)) ∧ w' = w := by
  go_enter Tryd.func89, Tryd.ntmps89
  go_wp2_with fail
  refine (l00In_any k 1 6 w).mono ?_
  rintro e w1 ⟨rfl, hw⟩
  subst w1
  go_wp2
  go_ret
  exact ⟨rfl, rfl⟩

theorem snOf_any (k : Int) (w : World) (p : Nat) (c : Nat) (h : w.cell? ⟨p, 0, none⟩ = some (.int .i64 k)) :
    Calls Tryd.prog 147 #[.slice (some ⟨p, 0, none⟩) 1 c] w fun e w' => e = .returned (.bool (inB k 1 6)) ∧ w' = w := by
  have HW := Lib.hid (within1_at 1 6 k w p c h)
  go_enter Tryd.func147, Tryd.ntmps147
  go_wp2_with fail
  refine HW.out.mono ?_
  rintro e w1 ⟨rfl, hw⟩
  subst w1
  go_wp2
  go_ret
  exact ⟨rfl, rfl⟩

set_option maxRecDepth 100000 in
set_option maxHeartbeats 4000000 in
theorem specStrokeName (c : Int) (w : World) (_ : I64 c) :
    Calls Tryd.prog 79 #[.int .i64 c] w fun e w' => e = .returned (.string (snV c)) ∧ Below w.heap.size w w' := by
  cases hc : inB c 1 6 with
  | true =>
    have c1 := Lib.hid hc
    obtain ⟨h1, h2⟩ := inB_true hc
    have hcc : c = 1 ∨ c = 2 ∨ c = 3 ∨ c = 4 ∨ c = 5 ∨ c = 6 := by omega
    clear hc h1 h2
    rcases hcc with rfl | rfl | rfl | rfl | rfl | rfl
    all_goals
      go_enter Tryd.func79, Tryd.ntmps79
      go_wp2_with (go_at_call 89; refine (snIn_any _ _).mono ?_; rintro e w' ⟨rfl, rfl⟩; rw [c1.out])
      go_ret
      exact ⟨rfl, (Below.refl _ _).alloc (Nat.le_refl _) _⟩
  | false =>
    have c1 := Lib.hid hc
    have HV := Lib.hid (snV_out (inB_false hc))
    clear hc
    go_enter Tryd.func79, Tryd.ntmps79
    go_wp2_with (go_at_call 89; refine (snIn_any _ _).mono ?_; rintro e w' ⟨rfl, rfl⟩; rw [c1.out])
    go_ret
    exact ⟨by rw [HV.out]; rfl, (Below.refl _ _).alloc (Nat.le_refl _) _⟩

set_option maxRecDepth 100000 in
set_option maxHeartbeats 4000000 in
theorem implStrokeName (c : Int) (w : World) (_ : I64 c) (hn : StrokeNames w) :
    Calls Tryd.prog 80 #[.int .i64 c] w fun e w' => e = .returned (.string (snV c)) ∧ Below w.heap.size w w' := by
  obtain ⟨v, hv⟩ : ∃ v, v = w.alloc (.cells #[.int .i64 c] 2) := ⟨_, rfl⟩
  have hb : Below w.heap.size w v := by rw [hv]; exact (Below.refl _ _).alloc (Nat.le_refl _) _
  have tc : v.cell? ⟨w.heap.size, 0, none⟩ = some (.int .i64 c) := by rw [hv]; exact (Bx.new _ _ _).at_ 0 rfl
  obtain ⟨n0, n1, n2, n3, n4, n5⟩ := strokeNames_below hn hb
  have HV := Lib.hid hv
  clear hv hn
  have HW := Lib.hid (snOf_any c v w.heap.size 1 tc)
  clear tc
  cases hc : inB c 1 6 with
  | true =>
    rw [hc] at HW
    obtain ⟨h1, h2⟩ := inB_true hc
    have hcc : c = 1 ∨ c = 2 ∨ c = 3 ∨ c = 4 ∨ c = 5 ∨ c = 6 := by omega
    clear hc h1 h2
    rcases hcc with rfl | rfl | rfl | rfl | rfl | rfl
    all_goals
      go_enter Tryd.func80, Tryd.ntmps80
      go_wp2_with fail
      rw [← HV.out]
      refine HW.out.mono ?_
      rintro e w' ⟨rfl, hq⟩
      subst w'
      go_wp2
      go_ret
      exact ⟨rfl, hb⟩
  | false =>
    rw [hc] at HW
    have HR := Lib.hid (snV_out (inB_false hc))
    clear hc
    go_enter Tryd.func80, Tryd.ntmps80
    go_wp2_with fail
    rw [← HV.out]
    refine HW.out.mono ?_
    rintro e w' ⟨rfl, hq⟩
    subst w'
    go_wp2
    go_ret
    exact ⟨by rw [HR.out]; rfl, hb⟩
end Go.Proofs.YtlahobdopmdfmaaDoor
