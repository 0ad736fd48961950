/-
  SignalsOf: the program's and the model's.
-/
import Derived.Test.YtmdngcoccekdgaaSigM
import Derived.Test.YtmdngcoccekdgaaTwoS
import Derived.Test.YtmdngcoccekdgaaPairI
import Derived.Test.YtmdngcoccekdgaaOrd
import Derived.Test.YtmdngcoccekdgaaAppR
import Derived.Deep.Cut
namespace Go.Proofs.Ytmdngcoccekdgaa
open Go.RowKit

/-- What both return: a list of their own, a code. -/
def SgC (R : List (Bool × Bool) × Int) (w : World) (e : Ending) (w' : World) : Prop := ∃ A C, e = .returned (.tuple #[.slice A R.1.length C, .int .i64 R.2]) ∧ OwnF sigF 122 w' w.heap.size w'.heap.size (.slice A R.1.length C) R.1 ∧ Below w.heap.size w w'
theorem sgC_err {R : List (Bool × Bool) × Int} {c : Int} {w w' : World} {e : Ending} (h : R = ([], c)) (he : e = .returned (.tuple #[.slice none 0 0, .int .i64 c])) (hb : Below w.heap.size w w') : SgC R w e w' := by
  subst h he; exact ⟨none, 0, rfl, ownF_nil _ _ _ _ _, hb⟩
theorem sgC_ok {R : List (Bool × Bool) × Int} {zs : List (Bool × Bool)} {m : Nat} {w w' : World} {e : Ending} {A : Option Addr} {C lo hi : Nat} (h : R = (zs, 0)) (hm : zs.length = m) (he : e = .returned (.tuple #[.slice A m C, .int .i64 0]))
    (ho : OwnF sigF 122 w' lo hi (.slice A m C) zs) (h1 : w.heap.size ≤ lo) (h2 : hi ≤ w'.heap.size) (hb : Below w.heap.size w w') : SgC R w e w' := by
  subst h hm he; exact ⟨A, C, rfl, ho.wide h1 h2, hb⟩
theorem sgR_ok {b d : Int} {xs ys : List Int} (h : twoE b xs d ys = 0) : sgR b xs d ys = (sgK b xs ys xs.length, 0) := by simp [sgR, h]
theorem sgR_bad {b d : Int} {xs ys : List Int} (h : ¬ twoE b xs d ys = 0) : sgR b xs d ys = ([], twoE b xs d ys) := by simp [sgR, h]
theorem sig_new (w : World) (x : Bool × Bool) : ∀ (i : Nat) (u : Value), (flat sigF [x])[i]? = some u → (w.alloc (.cells #[.bool x.1, .bool x.2] 122)).cell? ((⟨w.heap.size, 0, none⟩ : Addr).add i) = some u := by
  intro i u hu
  have hbx := Bx.new w #[.bool x.1, .bool x.2] 122
  match i, hu with
  | 0, hu => simp [flat, sigF] at hu; subst hu; exact hbx.at_ 0 rfl
  | 1, hu => simp [flat, sigF] at hu; subst hu; exact hbx.at_ 1 rfl

end Go.Proofs.Ytmdngcoccekdgaa
