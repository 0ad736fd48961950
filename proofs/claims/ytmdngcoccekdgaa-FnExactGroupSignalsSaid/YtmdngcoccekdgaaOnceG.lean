/-
  A group of digits: what is below each digit, found once (sync.Once in one goroutine), and the group's whole signal.
-/
import Derived.Test.YtmdngcoccekdgaaOnce
namespace Go.Proofs.Ytmdngcoccekdgaa
open Go.RowKit

theorem touch_of_below {g : Nat} {w w' : World} (h : Below w.heap.size w w') : Touch g (g + 1) w w' := ⟨h.os, h.tape, h.output, h.size, fun k hk _ => h.block k hk⟩

set_option maxRecDepth 100000 in
set_option maxHeartbeats 4000000 in
theorem below1_any (p g : Nat) (a : Option Addr) (c : Nat) (xs : List (Bool × Bool)) (z1 z2 z3 z4 z5 z6 : Value) (w : World) (hp : w.cell? ⟨p, 0, none⟩ = some (.pointer (some ⟨g, 0, none⟩)))
    (bx : Bx w g 179 #[.slice a xs.length c, z1, z2, z3, z4, z5, z6]) (ha : RdF sigF w a xs) (hl : xs.length ≤ 1000000) :
    Calls Try.prog 135 #[.pointer (some ⟨p, 0, none⟩)] w fun e w' => e = .returned (.tuple #[]) ∧ ∃ h C, Bx w' g 179 #[.slice a xs.length c, z1, z2, z3, .slice (some ⟨h, 0, none⟩) (xs.length + 1) C, z5, z6] ∧
      OwnF sigF 122 w' w.heap.size w'.heap.size (.slice (some ⟨h, 0, none⟩) (xs.length + 1) C) (scL xs (xs.length + 1)) ∧ Touch g (g + 1) w w' := by
  have k0 := kept_all hp
  have k1 := kept_all (bx.at_ 0 rfl)
  go_enter Try.func135, Try.ntmps135
  go_upto_region 0 with fail
  refine wp_region_marked (fun w' => Below w.heap.size w w') 8 (by kernel_rfl) ?_
  have hS : Below w.heap.size w w.drew := (Below.refl _ _).drew
  refine wpAnyM_takeC (i := 0) (v := ?_) 20 rfl (by kernel_rfl) (by kernel_rfl) (by kernel_rfl) (by kernel_rfl) (by kernel_rfl) (by kernel_rfl) (fun _ _ _ h => h) hS (.inl ⟨by rfl, ?_⟩) ?_
  rotate_left 1
  · intro w' hS'; go_simp; try with_reducible rfl
  simp only [Act.put, List.setIfInBounds_toArray]
  refine wpAnyM_takeC (i := 1) (v := ?_) 20 rfl (by kernel_rfl) (by kernel_rfl) (by kernel_rfl) (by kernel_rfl) (by kernel_rfl) (by kernel_rfl) (fun _ _ _ h => h) hS (.inl ⟨by rfl, ?_⟩) ?_
  rotate_left 1
  · intro w' hS'; go_simp; try with_reducible rfl
  simp only [Act.put]
  refine wpAnyM_takeC (i := 2) (v := ?_) 20 rfl (by kernel_rfl) (by kernel_rfl) (by kernel_rfl) (by kernel_rfl) (by kernel_rfl) (by kernel_rfl) (fun _ _ _ h => h) hS (.inl ⟨by rfl, ?_⟩) ?_
  rotate_left 1
  · intro w' hS'; go_simp; try with_reducible rfl
  simp only [Act.put]
  refine wpAnyM_takeC (i := 3) (v := ?_) 20 rfl (by kernel_rfl) (by kernel_rfl) (by kernel_rfl) (by kernel_rfl) (by kernel_rfl) (by kernel_rfl) (fun _ _ _ h => h) hS (.inl ⟨by rfl, ?_⟩) ?_
  rotate_left 1
  · intro w' hS'; go_simp; try with_reducible rfl
  simp only [Act.put]
  refine wpAnyM_takeC (i := 4) (v := ?_) 20 rfl (by kernel_rfl) (by kernel_rfl) (by kernel_rfl) (by kernel_rfl) (by kernel_rfl) (by kernel_rfl) (fun _ _ _ h => h) hS (.inl ⟨by rfl, ?_⟩) ?_
  rotate_left 1
  · intro w' hS'; go_simp; try with_reducible rfl
  simp only [Act.put]
  clear k0 k1
  refine wpAnyM_one (i := 5) (by kernel_rfl) rfl (by rfl) (fun K hK => ?_)
  go_simp
  refine (joinedBelow_any a c xs w.drew ha.drew hl).mono ?_
  rintro e w1 ⟨h, C, rfl, ow, hb⟩
  have hS1 : Below w.heap.size w w1 := hS.trans hb
  have bx1 := bx.below hS1
  have f4 := bx1.thaw 4
  have c4 := bx1.at_ 4 rfl
  have hg := bx.lt
  refine hK _ _ (.inr hS1) ?_
  try simp only [Act.put, List.setIfInBounds_toArray]
  clear hK K
  refine wpAnyM_one (i := 6) (by kernel_rfl) rfl (by rfl) (fun K hK => ?_)
  go_simp
  refine hK _ _ (.inr hS1) ?_
  try simp only [Act.put, List.setIfInBounds_toArray]
  clear hK K
  refine wpAnyM_one (i := 7) (by kernel_rfl) rfl (by rfl) (fun K hK => ?_)
  go_simp
  refine hK _ _ (.inr hS1) ?_
  try simp only [Act.put, List.setIfInBounds_toArray]
  clear hK K
  refine wpAnyM_one (i := 8) (by kernel_rfl) rfl (by rfl) (fun K hK => ?_)
  go_simp
  refine hK _ _ (.inl rfl) ?_
  clear hK K
  refine wpAnyM_done (by kernel_rfl) ?_ _
  go_wp2
  go_end0
  exact ⟨rfl, h, C, by simpa using bx1.set_ 4 (.slice (some ⟨h, 0, none⟩) (xs.length + 1) C), (ow.setCell (.inl hg) _).wide (Nat.le_refl _) (by simp), (touch_of_below (g := g) hS1).setCell (p := ⟨g, 4, none⟩) (Nat.le_refl _) (Nat.lt_succ_self _) _⟩

theorem RdF.touch {α : Type} {F : Flat α} {g : Nat} {w w' : World} {a : Option Addr} {xs : List α} (h : RdF F w a xs) (ht : Touch g (g + 1) w w') (hag : ∀ b off, a = some ⟨b, off, none⟩ → b ≠ g) : RdF F w' a xs :=
  ⟨h.len, fun hne => by
    obtain ⟨b, off, e, hc⟩ := h.cells hne
    refine ⟨b, off, e, fun k x hk j u hu => ?_⟩
    have h1 := hc k x hk j u hu
    have hb := World.block_lt_of_cell? _ _ h1
    exact (World.cell?_of_block (ht.block b hb (by have := hag b off e; omega))).trans h1⟩

/-- What a group knows when what is below its digits has been found. -/
def OnceC (g : Nat) (a : Option Addr) (c : Nat) (xs : List (Bool × Bool)) (z3 z5 z6 : Value) (w w' : World) : Prop := ∃ h C, Bx w' g 179 #[.slice a xs.length c, .int .u32 1, .int .i32 0, z3, .slice (some ⟨h, 0, none⟩) (xs.length + 1) C, z5, z6] ∧
  OwnF sigF 122 w' w.heap.size w'.heap.size (.slice (some ⟨h, 0, none⟩) (xs.length + 1) C) (scL xs (xs.length + 1)) ∧ Touch g (g + 1) w w'

/-- Load, of what the cell holds. -/
theorem boolLoad (a : Addr) (x : Int) (w : World) (hc : w.cell? a = some (.int .u32 x)) : Calls Try.prog 138 #[.pointer (some a)] w fun e w' => e = .returned (.bool (x != 0)) ∧ w' = w := by
  have hld := run_call_load (P := Try.prog) Try.func143 (by kernel_rfl) (by kernel_rfl) (by kernel_rfl) .u32 (by kernel_rfl) hc
  go_enter Try.func138, Try.ntmps138
  go_wp2
  go_ret
  exact ⟨rfl, rfl⟩

set_option maxRecDepth 100000 in
set_option maxHeartbeats 2000000 in
theorem slow_any (p g : Nat) (hpg : p ≠ g) (a : Option Addr) (c : Nat) (xs : List (Bool × Bool)) (z3 z5 z6 : Value) (w : World) (hp : w.cell? ⟨p, 0, none⟩ = some (.pointer (some ⟨g, 0, none⟩)))
    (bx : Bx w g 179 #[.slice a xs.length c, .int .u32 0, .int .i32 0, z3, .slice none 0 0, z5, z6]) (ha : RdF sigF w a xs) (hag : ∀ b off, a = some ⟨b, off, none⟩ → b ≠ g) (hl : xs.length ≤ 1000000) :
    Calls Try.prog 139 #[.pointer (some ⟨g, 1, none⟩), .func (.func 135) #[] #[.pointer (some ⟨p, 0, none⟩)]] w fun e w' => e = .returned (.tuple #[]) ∧ OnceC g a c xs z3 z5 z6 w w' := by
  obtain ⟨w1, hw1⟩ : ∃ w1, w1 = w.setCell ⟨g, 2, none⟩ (.int .i32 1) := ⟨_, rfl⟩
  have bx1 : Bx w1 g 179 #[.slice a xs.length c, .int .u32 0, .int .i32 1, z3, .slice none 0 0, z5, z6] := by rw [hw1]; simpa using bx.set_ 2 (.int .i32 1)
  have ht1 : Touch g (g + 1) w w1 := by rw [hw1]; exact (Touch.refl _ _ _).setCell (p := ⟨g, 2, none⟩) (Nat.le_refl _) (Nat.lt_succ_self _) _
  have hs1 : w1.heap.size = w.heap.size := by rw [hw1]; simp
  have ha1 := ha.touch ht1 hag
  have hp1 : w1.cell? ⟨p, 0, none⟩ = some (.pointer (some ⟨g, 0, none⟩)) := (World.cell?_of_block (ht1.block p (World.block_lt_of_cell? _ _ hp) (by omega))).trans hp
  have hlk := Lib.hid (lock_free ⟨g, 2, none⟩ w (bx.at_ 2 rfl) (bx.thaw 2))
  have HB := Lib.hid (below1_any p g a c xs _ _ _ _ _ _ w1 hp1 bx1 ha1 hl)
  have hld := Lib.hid (boolLoad ⟨g, 1, none⟩ 0 w1 (bx1.at_ 1 rfl))
  have hnot : ∀ (x : Bool) (w : World), (Op.unary .not (.bool x)).run Try.prog w = .ok (.bool (!x)) w := fun _ _ => rfl
  have HW := Lib.hid hw1
  have HS := Lib.hid hs1
  have hg0 := bx.lt
  clear hw1 hs1 hp hp1 bx bx1
  go_enter_defers Try.func139, Try.ntmps139
  go_wp2_with (first | (go_at_call 138; refine hld.out.mono ?_; rintro e w' ⟨rfl, rfl⟩) | (go_at_call 144; refine hlk.out.mono ?_; rintro e w' ⟨rfl, hw'⟩; rw [← HW.out] at hw'; subst hw') | (go_at_call 135; refine HB.out.mono ?_; rintro e w2 ⟨rfl, h, C, bx2, ow2, ht2⟩))
  refine leaves_cons (f := 146) (args := #[.pointer (some ⟨g, 1, none⟩), .bool true]) (by simp) (by simp [go_sem]) ?_
  refine (onceStore_deferred ⟨g, 1, none⟩ (.int .u32 0) .returning _ (bx2.at_ 1 rfl) (bx2.thaw 1)).mono ?_
  rintro e u' w'' ⟨rfl, rfl, rfl⟩
  have bx3 : Bx (w2.drew.setCell ⟨g, 1, none⟩ (.int .u32 1)) g 179 #[.slice a xs.length c, .int .u32 1, .int .i32 1, z3, .slice (some ⟨h, 0, none⟩) (xs.length + 1) C, z5, z6] := by simpa using bx2.drew.set_ 1 (.int .u32 1)
  refine leaves_cons (f := 145) (args := #[.pointer (some ⟨g, 2, none⟩)]) (by simp [settle]) (by simp [go_sem]) ?_
  refine (unlock_deferred ⟨g, 2, none⟩ _ _ (bx3.at_ 2 rfl) (bx3.thaw 2)).mono ?_
  rintro e u' w'' ⟨rfl, rfl, rfl⟩
  have bx4 : Bx ((w2.drew.setCell ⟨g, 1, none⟩ (.int .u32 1)).setCell ⟨g, 2, none⟩ (.int .i32 0)) g 179 #[.slice a xs.length c, .int .u32 1, .int .i32 0, z3, .slice (some ⟨h, 0, none⟩) (xs.length + 1) C, z5, z6] := by simpa using bx3.set_ 2 (.int .i32 0)
  have ow3 := (ow2.drew.setCell (p := ⟨g, 1, none⟩) (.inl (show g < _ by have := HS.out; omega)) (.int .u32 1)).setCell (p := ⟨g, 2, none⟩) (.inl (show g < _ by have := HS.out; omega)) (.int .i32 0)
  have ht3 : Touch g (g + 1) w w2.drew := (ht1.trans ht2).drewN 1
  have ht4 := (ht3.setCell (p := ⟨g, 1, none⟩) (Nat.le_refl _) (Nat.lt_succ_self _) (.int .u32 1)).setCell (p := ⟨g, 2, none⟩) (Nat.le_refl _) (Nat.lt_succ_self _) (.int .i32 0)
  have HO : OnceC g a c xs z3 z5 z6 w ((w2.drew.setCell ⟨g, 1, none⟩ (.int .u32 1)).setCell ⟨g, 2, none⟩ (.int .i32 0)) := ⟨h, C, bx4, ow3.wide (by have := HS.out; omega) (by simp), ht4⟩
  simp [Leaves, settle, results, Try.results139]
  exact HO

/-- Do, not yet done, the lock free. -/
theorem do_first (p g : Nat) (hpg : p ≠ g) (a : Option Addr) (c : Nat) (xs : List (Bool × Bool)) (z3 z5 z6 : Value) (w : World) (hp : w.cell? ⟨p, 0, none⟩ = some (.pointer (some ⟨g, 0, none⟩)))
    (bx : Bx w g 179 #[.slice a xs.length c, .int .u32 0, .int .i32 0, z3, .slice none 0 0, z5, z6]) (ha : RdF sigF w a xs) (hag : ∀ b off, a = some ⟨b, off, none⟩ → b ≠ g) (hl : xs.length ≤ 1000000) :
    Calls Try.prog 134 #[.pointer (some ⟨g, 1, none⟩), .func (.func 135) #[] #[.pointer (some ⟨p, 0, none⟩)]] w fun e w' => e = .returned (.tuple #[]) ∧ OnceC g a c xs z3 z5 z6 w w' := by
  have hld := Lib.hid (boolLoad ⟨g, 1, none⟩ 0 w (bx.at_ 1 rfl))
  have hnot : ∀ (x : Bool) (w : World), (Op.unary .not (.bool x)).run Try.prog w = .ok (.bool (!x)) w := fun _ _ => rfl
  have HB := Lib.hid (slow_any p g hpg a c xs z3 z5 z6 w hp bx ha hag hl)
  clear hp bx
  go_enter Try.func134, Try.ntmps134
  go_wp2_with (first | (go_at_call 138; refine hld.out.mono ?_; rintro e w' ⟨rfl, rfl⟩) | (go_at_call 139; refine HB.out.mono ?_; rintro e w' ⟨rfl, HO⟩))
  go_end0
  exact ⟨rfl, HO⟩

/-- What is below the digits of a group, the first time. -/
theorem signalsBelow_first (g : Nat) (a : Option Addr) (c : Nat) (xs : List (Bool × Bool)) (z3 z5 z6 : Value) (w : World)
    (bx : Bx w g 179 #[.slice a xs.length c, .int .u32 0, .int .i32 0, z3, .slice none 0 0, z5, z6]) (ha : RdF sigF w a xs) (hag : ∀ b off, a = some ⟨b, off, none⟩ → b ≠ g) (hl : xs.length ≤ 1000000) :
    Calls Try.prog 124 #[.pointer (some ⟨g, 0, none⟩)] w fun e w' => ∃ h C, e = .returned (.slice (some ⟨h, 0, none⟩) (xs.length + 1) C) ∧ Bx w' g 179 #[.slice a xs.length c, .int .u32 1, .int .i32 0, z3, .slice (some ⟨h, 0, none⟩) (xs.length + 1) C, z5, z6] ∧
      OwnF sigF 122 w' w.heap.size w'.heap.size (.slice (some ⟨h, 0, none⟩) (xs.length + 1) C) (scL xs (xs.length + 1)) ∧ Touch g (g + 1) w w' := by
  have hg := bx.lt
  obtain ⟨p, hp⟩ : ∃ p, p = w.heap.size := ⟨_, rfl⟩
  obtain ⟨w1, hw1⟩ : ∃ w1, w1 = w.alloc (.cells #[.pointer (some ⟨g, 0, none⟩)] 127) := ⟨_, rfl⟩
  have bp : Bx w1 p 127 #[.pointer (some ⟨g, 0, none⟩)] := by rw [hw1, hp]; exact Bx.new _ _ _
  have hb1 : Below w.heap.size w w1 := by rw [hw1]; exact (by repeat (first | exact Below.refl _ _ | refine Below.setCell ?_ (by first | omega | (simp <;> omega)) _ | refine Below.alloc ?_ (by first | omega | (simp <;> omega)) _ | refine Below.drew ?_))
  have HB := Lib.hid (do_first p g (by omega) a c xs z3 z5 z6 w1 (bp.at_ 0 rfl) (bx.below hb1) (ha.below hb1) hag hl)
  have HP := Lib.hid hp
  have HW := Lib.hid hw1
  have hc := bp.at_ 0 rfl
  clear hp hw1 bx ha
  go_enter Try.func124, Try.ntmps124
  go_upto_region 1 with fail
  rw [← HW.out, ← HP.out]
  go_wp2_with (go_at_call 134; refine HB.out.mono ?_; rintro e w2 ⟨rfl, h, C, bx2, ow2, ht2⟩; have hc2 := (World.cell?_of_block (ht2.block p bp.lt (by have := HP.out; omega)) (a := ⟨p, 0, none⟩)).trans hc; have c4 := bx2.at_ 4 rfl)
  go_ret
  have hs1 := hb1.size
  exact ⟨h, C, rfl, bx2, ow2.wide hs1 (Nat.le_refl _), (touch_of_below hb1).trans ht2⟩
end Go.Proofs.Ytmdngcoccekdgaa
