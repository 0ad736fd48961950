/-
  CodeName, in the specification and in the program.
-/
import Derived.Test.YtfhiialalglefaaDoorProg
import Derived.Test.YtfhiialalglefaaDoorBase
namespace Go.Proofs.YtfhiialalglefaaDoor
open Go.RowKit

/-- The table of names, as the program's variable holds it. -/
def NamesAt (w : World) : Prop :=
  w.cell? ⟨0, 0, none⟩ = some (.string ⟨#[111, 107]⟩) ∧ w.cell? ⟨0, 1, none⟩ = some (.string ⟨#[105, 110, 118, 97, 108, 105, 100]⟩) ∧ w.cell? ⟨0, 2, none⟩ = some (.string ⟨#[114, 97, 110, 103, 101]⟩) ∧ w.cell? ⟨0, 3, none⟩ = some (.string ⟨#[110, 111, 116, 45, 102, 111, 117, 110, 100]⟩) ∧ w.cell? ⟨0, 4, none⟩ = some (.string ⟨#[101, 120, 105, 115, 116, 115]⟩) ∧ w.cell? ⟨0, 5, none⟩ = some (.string ⟨#[102, 117, 108, 108]⟩) ∧ w.cell? ⟨0, 6, none⟩ = some (.string ⟨#[115, 116, 97, 116, 101]⟩) ∧ w.cell? ⟨0, 7, none⟩ = some (.string ⟨#[115, 121, 110, 116, 97, 120]⟩) ∧ w.cell? ⟨0, 8, none⟩ = some (.string ⟨#[102, 111, 114, 109, 97, 116]⟩) ∧ w.cell? ⟨0, 9, none⟩ = some (.string ⟨#[99, 108, 97, 115, 104]⟩) ∧ w.cell? ⟨0, 10, none⟩ = some (.string ⟨#[106, 97, 109]⟩)

def cnV (c : Int) : ByteArray :=
  match c with
  | 0 => ⟨#[111, 107]⟩
  | 1 => ⟨#[105, 110, 118, 97, 108, 105, 100]⟩
  | 2 => ⟨#[114, 97, 110, 103, 101]⟩
  | 3 => ⟨#[110, 111, 116, 45, 102, 111, 117, 110, 100]⟩
  | 4 => ⟨#[101, 120, 105, 115, 116, 115]⟩
  | 5 => ⟨#[102, 117, 108, 108]⟩
  | 6 => ⟨#[115, 116, 97, 116, 101]⟩
  | 7 => ⟨#[115, 121, 110, 116, 97, 120]⟩
  | 8 => ⟨#[102, 111, 114, 109, 97, 116]⟩
  | 9 => ⟨#[99, 108, 97, 115, 104]⟩
  | 10 => ⟨#[106, 97, 109]⟩
  | _ => ByteArray.empty
theorem cnV_out {c : Int} (h : c < 0 ∨ 10 < c) : cnV c = ByteArray.empty := by
  unfold cnV
  split <;> first | omega | rfl
theorem cases11 {c : Int} (h1 : 0 ≤ c) (h2 : c ≤ 10) : c = 0 ∨ c = 1 ∨ c = 2 ∨ c = 3 ∨ c = 4 ∨ c = 5 ∨ c = 6 ∨ c = 7 ∨ c = 8 ∨ c = 9 ∨ c = 10 := by omega

theorem l00In_t (n lo hi : Int) (w : World) (h1 : lo ≤ n) (h2 : n ≤ hi) : Calls Tryd.prog 61 #[.int .i64 n, .int .i64 lo, .int .i64 hi] w fun e w' => e = .returned (.bool true) ∧ w' = w := by
  have d1 : decide (lo ≤ n) = true := decide_eq_true h1
  have d2 : decide (n ≤ hi) = true := decide_eq_true h2
  go_enter Tryd.func61, Tryd.ntmps61
  go_wp2
  go_ret
  exact ⟨rfl, rfl⟩
theorem l00In_f (n lo hi : Int) (w : World) (h : n < lo ∨ hi < n) : Calls Tryd.prog 61 #[.int .i64 n, .int .i64 lo, .int .i64 hi] w fun e w' => e = .returned (.bool false) ∧ w' = w := by
  by_cases h1 : lo ≤ n
  · have d1 : decide (lo ≤ n) = true := decide_eq_true h1
    have d2 : decide (n ≤ hi) = false := decide_eq_false (by omega)
    go_enter Tryd.func61, Tryd.ntmps61
    go_wp2
    go_ret
    exact ⟨rfl, rfl⟩
  · have d1 : decide (lo ≤ n) = false := decide_eq_false h1
    go_enter Tryd.func61, Tryd.ntmps61
    go_wp2
    go_ret
    exact ⟨rfl, rfl⟩

set_option maxRecDepth 100000 in
set_option maxHeartbeats 4000000 in
theorem specCodeName (c : Int) (w : World) :
    Calls Tryd.prog 24 #[.int .i64 c] w fun e w' => e = .returned (.string (cnV c)) ∧ Below w.heap.size w w' := by
  by_cases hc : 0 ≤ c ∧ c ≤ 10
  · have c1 := fun w => l00In_t c 0 10 w hc.1 hc.2
    rcases cases11 hc.1 hc.2 with rfl | rfl | rfl | rfl | rfl | rfl | rfl | rfl | rfl | rfl | rfl
    all_goals
      clear hc
      go_enter Tryd.func24, Tryd.ntmps24
      go_wp2_with (go_at_call 61; refine (c1 _).mono ?_; rintro e w' ⟨rfl, rfl⟩)
      go_ret
      exact ⟨rfl, (Below.refl _ _).alloc (Nat.le_refl _) _⟩
  · have c1 := fun w => l00In_f c 0 10 w (by omega)
    have HV := Lib.hid (cnV_out (c := c) (by omega))
    clear hc
    go_enter Tryd.func24, Tryd.ntmps24
    go_wp2_with (go_at_call 61; refine (c1 _).mono ?_; rintro e w' ⟨rfl, rfl⟩)
    go_ret
    exact ⟨by rw [HV.out]; rfl, (Below.refl _ _).alloc (Nat.le_refl _) _⟩

set_option maxRecDepth 100000 in
set_option maxHeartbeats 4000000 in
theorem implCodeName (c : Int) (w : World) (hn : NamesAt w) :
    Calls Tryd.prog 25 #[.int .i64 c] w fun e w' => e = .returned (.string (cnV c)) ∧ w' = w := by
  obtain ⟨n0, n1, n2, n3, n4, n5, n6, n7, n8, n9, n10⟩ := hn
  by_cases hc : 0 ≤ c ∧ c ≤ 10
  · rcases cases11 hc.1 hc.2 with rfl | rfl | rfl | rfl | rfl | rfl | rfl | rfl | rfl | rfl | rfl
    all_goals
      clear hc
      go_enter Tryd.func25, Tryd.ntmps25
      go_wp2
      go_ret
      exact ⟨rfl, rfl⟩
  · have HV := Lib.hid (cnV_out (c := c) (by omega))
    by_cases h0 : c < 0
    · clear hc
      go_enter Tryd.func25, Tryd.ntmps25
      go_wp2
      go_ret
      exact ⟨by rw [HV.out]; rfl, rfl⟩
    · have h11 : 11 ≤ c := by omega
      have h1 : 0 ≤ c := by omega
      clear hc
      go_enter Tryd.func25, Tryd.ntmps25
      go_wp2
      go_ret
      exact ⟨by rw [HV.out]; rfl, rfl⟩
end Go.Proofs.YtfhiialalglefaaDoor
