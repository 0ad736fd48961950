/-
  spec.l02Two: whether two registers may be used together.
-/
import Derived.Test.YtlahobdopmdfmaaDoorOkS
import Derived.Test.YtlahobdopmdfmaaDoorAr
namespace Go.Proofs.YtlahobdopmdfmaaDoor
open Go.RowKit

theorem l02Ok_at {v : Bool} (p : Nat) (b : Int) (a : Option Addr) (c : Nat) (zs : List Int) (w : World) (n : Nat) (hv : okB b zs = v) (ha : Rd w a zs) (hp0 : w.cell? ⟨p, 0, none⟩ = some (.int .i64 b)) (hp1 : w.cell? ⟨p, 1, none⟩ = some (.slice a zs.length c)) :
    Calls Tryd.prog 96 #[.pointer (some ⟨p, 0, none⟩)] (w.drewN n) fun e w' => e = .returned (.bool v) ∧ ∃ m, w' = w.drewN m := by
  subst hv
  exact (l02Ok_any p b a c zs (w.drewN n) (ha.drewN n) hp0 hp1).mono fun e w' ⟨h1, m, h2⟩ => ⟨h1, n + m, by rw [h2, drewN_drewN]⟩
theorem l02Ok_at0 {v : Bool} (p : Nat) (b : Int) (a : Option Addr) (c : Nat) (zs : List Int) (w : World) (hv : okB b zs = v) (ha : Rd w a zs) (hp0 : w.cell? ⟨p, 0, none⟩ = some (.int .i64 b)) (hp1 : w.cell? ⟨p, 1, none⟩ = some (.slice a zs.length c)) :
    Calls Tryd.prog 96 #[.pointer (some ⟨p, 0, none⟩)] w fun e w' => e = .returned (.bool v) ∧ ∃ m, w' = w.drewN m := by
  subst hv; exact l02Ok_any p b a c zs w ha hp0 hp1

end Go.Proofs.YtlahobdopmdfmaaDoor
