/-
  ValidProgram, DepthOfProgram, MatchOf, in the program.
-/
import Derived.Test.YtgfopieojpjddaaPrgK
namespace Go.Proofs.Ytgfopieojpjddaa
open Go.RowKit

/-- What a variable that holds the loops makes of the world. -/
theorem lp_lay (w : World) {Z cs : Array Value} (hZ : Z.size = 122) (hs : cs.size = 122) (h1 : cs.all (·.oneCell') = true) :
    Sem.run Try.prog (storeCells ⟨w.heap.size, 0, none⟩ cs.toList) (w.alloc (.cells Z 46)) = .ok () (w.alloc (.cells cs 46)) :=
  run_storeCells_new w _ Z cs (by rw [hs]; exact lp_size) (by omega) h1

set_option maxRecDepth 100000 in
set_option maxHeartbeats 4000000 in
theorem implValidProgram (a : Option Addr) (c : Nat) (xs : List (Int × Int)) (w : World) (ha : RdF pairF w a xs) (_ : All2 xs) :
    Calls Try.prog 11 #[.slice a xs.length c] w fun e w' => e = .returned (.bool (prgB xs)) ∧ Below w.heap.size w w' := by
  obtain ⟨Z, hZ⟩ : ∃ Z, Z = lpC (.slice none 0 0) (fun _ => 0) 0 := ⟨_, rfl⟩
  have hzv := lp_zero
  rw [← hZ] at hzv
  have hZs : Z.size = 122 := by rw [hZ]; exact lpC_size _ _ _
  clear hZ
  go_enter Try.func11, Try.ntmps11
  go_wp2_with fail
  refine (loopsOf_any a c xs w ha).mono ?_
  rintro e w1 ⟨cs, rfl, hs, h1, _, hb⟩
  have hst := lp_lay w1 hZs hs h1
  have hsz := hb.size
  go_wp2
  go_ret
  exact ⟨rfl, hb.alloc hsz _⟩

theorem implValidProgram_at (a : Option Addr) (c : Nat) (xs : List (Int × Int)) (w : World) {b : Bool} (hb : prgB xs = b) (ha : RdF pairF w a xs) (hz : All2 xs) :
    Calls Try.prog 11 #[.slice a xs.length c] w fun e w' => e = .returned (.bool b) ∧ Below w.heap.size w w' := by
  subst hb; exact implValidProgram a c xs w ha hz
end Go.Proofs.Ytgfopieojpjddaa
