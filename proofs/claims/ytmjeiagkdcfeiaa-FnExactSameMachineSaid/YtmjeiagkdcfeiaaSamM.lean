/-
  SameMachine, by the program and by the model.
-/
import Derived.Test.YtmjeiagkdcfeiaaRegO
import Derived.Test.YtmjeiagkdcfeiaaMacT
import Derived.BigQuiet
namespace Go.Proofs.Ytmjeiagkdcfeiaa
open Go.RowKit Go.BigFrame

theorem macEqB_parts {m n : Mac} {a b c d : Bool} (h1 : regEqB m.b1 n.b1 m.z1 n.z1 = a) (h2 : regEqB m.b2 n.b2 m.z2 n.z2 = b) (h3 : regEqB m.b3 n.b3 m.z3 n.z3 = c) (h4 : decide (m.p = n.p) = d) : macEqB m n = (a && (b && (c && d))) := by
  rw [macEqB, h1, h2, h3, h4]

set_option maxHeartbeats 4000000 in
set_option maxRecDepth 100000 in
theorem l10Same_any (p q : Nat) (m n : Mac) (A1 : Option Addr) (C1 : Nat) (A2 : Option Addr) (C2 : Nat) (A3 : Option Addr) (C3 : Nat) (D1 : Option Addr) (E1 : Nat) (D2 : Option Addr) (E2 : Nat) (D3 : Option Addr) (E3 : Nat) (w : World) (h : Rd3 w A1 m.z1 A2 m.z2 A3 m.z3) (k : Rd3 w D1 n.z1 D2 n.z2 D3 n.z3) (bp : Bx w p 31 #[.int .i64 m.b1, .slice A1 m.z1.length C1, .int .i64 m.b2, .slice A2 m.z2.length C2, .int .i64 m.b3, .slice A3 m.z3.length C3, .int .i64 m.p]) (bq : Bx w q 31 #[.int .i64 n.b1, .slice D1 n.z1.length E1, .int .i64 n.b2, .slice D2 n.z2.length E2, .int .i64 n.b3, .slice D3 n.z3.length E3, .int .i64 n.p]) :
    Calls Try.prog 23 #[.pointer (some ⟨p, 0, none⟩), .pointer (some ⟨q, 0, none⟩)] w fun e w' => e = .returned (.bool (macEqB m n)) ∧ Below w.heap.size w w' := by
  obtain ⟨a, h1⟩ : ∃ a, regEqB m.b1 n.b1 m.z1 n.z1 = a := ⟨_, rfl⟩
  obtain ⟨b, h2⟩ : ∃ a, regEqB m.b2 n.b2 m.z2 n.z2 = a := ⟨_, rfl⟩
  obtain ⟨c, h3⟩ : ∃ a, regEqB m.b3 n.b3 m.z3 n.z3 = a := ⟨_, rfl⟩
  obtain ⟨d, h4⟩ : ∃ a, decide (m.p = n.p) = a := ⟨_, rfl⟩
  have h5 : (m.p == n.p) = d := by rw [← h4]; rfl
  have HE := Lib.hid (macEqB_parts h1 h2 h3 h4)
  have H1 : Hid (∀ v, Below w.heap.size w v → Calls Try.prog 39 #[.pointer (some ⟨p, 0, none⟩), .pointer (some ⟨q, 0, none⟩)] v fun e w' => e = .returned (.bool a) ∧ Below v.heap.size v w') :=
    Lib.hid fun v hb => l02Same_atO p 0 q 0 m.b1 n.b1 A1 D1 C1 E1 m.z1 n.z1 v h1 (h.x.below hb) (k.x.below hb) ((bp.below hb).at_ 0 rfl) ((bp.below hb).at_ 1 rfl) ((bq.below hb).at_ 0 rfl) ((bq.below hb).at_ 1 rfl)
  have H2 : Hid (∀ v, Below w.heap.size w v → Calls Try.prog 39 #[.pointer (some ⟨p, 2, none⟩), .pointer (some ⟨q, 2, none⟩)] v fun e w' => e = .returned (.bool b) ∧ Below v.heap.size v w') :=
    Lib.hid fun v hb => l02Same_atO p 2 q 2 m.b2 n.b2 A2 D2 C2 E2 m.z2 n.z2 v h2 (h.y.below hb) (k.y.below hb) ((bp.below hb).at_ 2 rfl) ((bp.below hb).at_ 3 rfl) ((bq.below hb).at_ 2 rfl) ((bq.below hb).at_ 3 rfl)
  have H3 : Hid (∀ v, Below w.heap.size w v → Calls Try.prog 39 #[.pointer (some ⟨p, 4, none⟩), .pointer (some ⟨q, 4, none⟩)] v fun e w' => e = .returned (.bool c) ∧ Below v.heap.size v w') :=
    Lib.hid fun v hb => l02Same_atO p 4 q 4 m.b3 n.b3 A3 D3 C3 E3 m.z3 n.z3 v h3 (h.z.below hb) (k.z.below hb) ((bp.below hb).at_ 4 rfl) ((bp.below hb).at_ 5 rfl) ((bq.below hb).at_ 4 rfl) ((bq.below hb).at_ 5 rfl)
  have p6 := kept_after (bp.at_ 6 rfl)
  have q6 := kept_after (bq.at_ 6 rfl)
  clear h k bp bq h1 h2 h3 h4
  rw [HE.out]
  cases a
  rotate_left
  cases b
  rotate_left
  cases c
  all_goals
    go_enter Try.func23, Try.ntmps23
    go_wp2_with fail
    refine wp_region_after (by kernel_rfl) (by kernel_rfl) ?_
    repeat (go_big_quiet_step ((go_at_call 39; first | with_reducible exact calls_after (H1.out _ (After.ok _)) | with_reducible exact calls_after (H2.out _ (After.ok _)) | with_reducible exact calls_after (H3.out _ (After.ok _)))))
    refine wpQuiet_nil ?_
    intro u
    go_wp2
    go_ret
    exact ⟨rfl, u.ok⟩

set_option maxHeartbeats 2000000 in
set_option maxRecDepth 100000 in
theorem implSameMachine (m : Mac) (A1 : Option Addr) (C1 : Nat) (A2 : Option Addr) (C2 : Nat) (A3 : Option Addr) (C3 : Nat) (n : Mac) (D1 : Option Addr) (E1 : Nat) (D2 : Option Addr) (E2 : Nat) (D3 : Option Addr) (E3 : Nat) (w : World) (h : Rd3 w A1 m.z1 A2 m.z2 A3 m.z3) (_ : All64 m.z1 ∧ All64 m.z2 ∧ All64 m.z3) (_ : I64 m.b1 ∧ I64 m.b2 ∧ I64 m.b3 ∧ I64 m.p) (k : Rd3 w D1 n.z1 D2 n.z2 D3 n.z3) (_ : All64 n.z1 ∧ All64 n.z2 ∧ All64 n.z3) (_ : I64 n.b1 ∧ I64 n.b2 ∧ I64 n.b3 ∧ I64 n.p) :
    Calls Try.prog 9 #[.agg #[.int .i64 m.b1, .slice A1 m.z1.length C1, .int .i64 m.b2, .slice A2 m.z2.length C2, .int .i64 m.b3, .slice A3 m.z3.length C3, .int .i64 m.p], .agg #[.int .i64 n.b1, .slice D1 n.z1.length E1, .int .i64 n.b2, .slice D2 n.z2.length E2, .int .i64 n.b3, .slice D3 n.z3.length E3, .int .i64 n.p]] w fun e w' => e = .returned (.bool (macEqB m n)) ∧ Below w.heap.size w w' := by
  obtain ⟨u, hu⟩ : ∃ u, u = (w.alloc (.cells #[.int .i64 m.b1, .slice A1 m.z1.length C1, .int .i64 m.b2, .slice A2 m.z2.length C2, .int .i64 m.b3, .slice A3 m.z3.length C3, .int .i64 m.p] 31)).alloc (.cells #[.int .i64 n.b1, .slice D1 n.z1.length E1, .int .i64 n.b2, .slice D2 n.z2.length E2, .int .i64 n.b3, .slice D3 n.z3.length E3, .int .i64 n.p] 31) := ⟨_, rfl⟩
  have bx : Bx u w.heap.size 31 #[.int .i64 m.b1, .slice A1 m.z1.length C1, .int .i64 m.b2, .slice A2 m.z2.length C2, .int .i64 m.b3, .slice A3 m.z3.length C3, .int .i64 m.p] := by rw [hu]; exact (Bx.new _ _ _).alloc _
  have by_ : Bx u (w.heap.size + 1) 31 #[.int .i64 n.b1, .slice D1 n.z1.length E1, .int .i64 n.b2, .slice D2 n.z2.length E2, .int .i64 n.b3, .slice D3 n.z3.length E3, .int .i64 n.p] := by rw [hu]; simpa using Bx.new (w.alloc (.cells #[.int .i64 m.b1, .slice A1 m.z1.length C1, .int .i64 m.b2, .slice A2 m.z2.length C2, .int .i64 m.b3, .slice A3 m.z3.length C3, .int .i64 m.p] 31)) #[.int .i64 n.b1, .slice D1 n.z1.length E1, .int .i64 n.b2, .slice D2 n.z2.length E2, .int .i64 n.b3, .slice D3 n.z3.length E3, .int .i64 n.p] 31
  have hbel : Below w.heap.size w u := by rw [hu]; exact (by repeat (first | exact Below.refl _ _ | refine Below.setCell ?_ (by first | omega | (simp <;> omega)) _ | refine Below.alloc ?_ (by first | omega | (simp <;> omega)) _ | refine Below.drew ?_))
  replace h := h.below hbel
  replace k := k.below hbel
  obtain ⟨a, h1⟩ : ∃ a, regEqB m.b1 n.b1 m.z1 n.z1 = a := ⟨_, rfl⟩
  obtain ⟨b, h2⟩ : ∃ a, regEqB m.b2 n.b2 m.z2 n.z2 = a := ⟨_, rfl⟩
  obtain ⟨c, h3⟩ : ∃ a, regEqB m.b3 n.b3 m.z3 n.z3 = a := ⟨_, rfl⟩
  obtain ⟨d, h4⟩ : ∃ a, decide (m.p = n.p) = a := ⟨_, rfl⟩
  have h5 : (m.p == n.p) = d := by rw [← h4]; rfl
  have HE := Lib.hid (macEqB_parts h1 h2 h3 h4)
  have H1 := Lib.hid (fun (v : World) (hb : Below u.heap.size u v) => implSameRegister_any m.b1 n.b1 A1 D1 C1 E1 m.z1 n.z1 v (h.x.below hb) (k.x.below hb))
  have H2 := Lib.hid (fun (v : World) (hb : Below u.heap.size u v) => implSameRegister_any m.b2 n.b2 A2 D2 C2 E2 m.z2 n.z2 v (h.y.below hb) (k.y.below hb))
  have H3 := Lib.hid (fun (v : World) (hb : Below u.heap.size u v) => implSameRegister_any m.b3 n.b3 A3 D3 C3 E3 m.z3 n.z3 v (h.z.below hb) (k.z.below hb))
  rw [h1] at H1
  rw [h2] at H2
  rw [h3] at H3
  have HU := Lib.hid hu
  clear hu h k h1 h2 h3 h4
  rw [HE.out]
  cases a
  rotate_left
  cases b
  rotate_left
  cases c
  rotate_left 2
  ·
    go_enter Try.func9, Try.ntmps9
    go_wp2_with fail
    rw [← HU.out]
    refine (H1.out _ (Below.refl _ _)).mono ?_
    rintro e w1 ⟨rfl, hb⟩
    go_wp2
    go_ret
    exact ⟨rfl, hbel.trans (hb.mono hbel.size)⟩
  ·
    go_enter Try.func9, Try.ntmps9
    go_wp2_with fail
    rw [← HU.out]
    refine (H1.out _ (Below.refl _ _)).mono ?_
    rintro e w1 ⟨rfl, hb⟩
    have c0 := (bx.below hb).at_ 2 rfl
    have d0 := (by_.below hb).at_ 2 rfl
    have c1 := (bx.below hb).at_ 3 rfl
    have d1 := (by_.below hb).at_ 3 rfl
    go_wp2_with fail
    refine (H2.out _ hb).mono ?_
    rintro e w2 ⟨rfl, hbn⟩
    replace hb := hb.trans (hbn.mono hb.size)
    clear hbn
    go_wp2
    go_ret
    exact ⟨rfl, hbel.trans (hb.mono hbel.size)⟩
  ·
    go_enter Try.func9, Try.ntmps9
    go_wp2_with fail
    rw [← HU.out]
    refine (H1.out _ (Below.refl _ _)).mono ?_
    rintro e w1 ⟨rfl, hb⟩
    have c0 := (bx.below hb).at_ 2 rfl
    have d0 := (by_.below hb).at_ 2 rfl
    have c1 := (bx.below hb).at_ 3 rfl
    have d1 := (by_.below hb).at_ 3 rfl
    go_wp2_with fail
    refine (H2.out _ hb).mono ?_
    rintro e w2 ⟨rfl, hbn⟩
    replace hb := hb.trans (hbn.mono hb.size)
    clear hbn
    clear c0 c1 d0 d1
    have c0 := (bx.below hb).at_ 4 rfl
    have d0 := (by_.below hb).at_ 4 rfl
    have c1 := (bx.below hb).at_ 5 rfl
    have d1 := (by_.below hb).at_ 5 rfl
    go_wp2_with fail
    refine (H3.out _ hb).mono ?_
    rintro e w3 ⟨rfl, hbn⟩
    replace hb := hb.trans (hbn.mono hb.size)
    clear hbn
    clear c0 c1 d0 d1
    have c0 := (bx.below hb).at_ 6 rfl
    have d0 := (by_.below hb).at_ 6 rfl
    go_wp2
    go_ret
    exact ⟨rfl, hbel.trans (hb.mono hbel.size)⟩
  ·
    go_enter Try.func9, Try.ntmps9
    go_wp2_with fail
    rw [← HU.out]
    refine (H1.out _ (Below.refl _ _)).mono ?_
    rintro e w1 ⟨rfl, hb⟩
    have c0 := (bx.below hb).at_ 2 rfl
    have d0 := (by_.below hb).at_ 2 rfl
    have c1 := (bx.below hb).at_ 3 rfl
    have d1 := (by_.below hb).at_ 3 rfl
    go_wp2_with fail
    refine (H2.out _ hb).mono ?_
    rintro e w2 ⟨rfl, hbn⟩
    replace hb := hb.trans (hbn.mono hb.size)
    clear hbn
    clear c0 c1 d0 d1
    have c0 := (bx.below hb).at_ 4 rfl
    have d0 := (by_.below hb).at_ 4 rfl
    have c1 := (bx.below hb).at_ 5 rfl
    have d1 := (by_.below hb).at_ 5 rfl
    go_wp2_with fail
    refine (H3.out _ hb).mono ?_
    rintro e w3 ⟨rfl, hbn⟩
    replace hb := hb.trans (hbn.mono hb.size)
    clear hbn
    clear c0 c1 d0 d1
    have c0 := (bx.below hb).at_ 6 rfl
    have d0 := (by_.below hb).at_ 6 rfl
    go_wp2
    go_ret
    exact ⟨rfl, hbel.trans (hb.mono hbel.size)⟩

theorem specSameMachine (m : Mac) (A1 : Option Addr) (C1 : Nat) (A2 : Option Addr) (C2 : Nat) (A3 : Option Addr) (C3 : Nat) (n : Mac) (D1 : Option Addr) (E1 : Nat) (D2 : Option Addr) (E2 : Nat) (D3 : Option Addr) (E3 : Nat) (w : World) (h : Rd3 w A1 m.z1 A2 m.z2 A3 m.z3) (_ : All64 m.z1 ∧ All64 m.z2 ∧ All64 m.z3) (_ : I64 m.b1 ∧ I64 m.b2 ∧ I64 m.b3 ∧ I64 m.p) (k : Rd3 w D1 n.z1 D2 n.z2 D3 n.z3) (_ : All64 n.z1 ∧ All64 n.z2 ∧ All64 n.z3) (_ : I64 n.b1 ∧ I64 n.b2 ∧ I64 n.b3 ∧ I64 n.p) :
    Calls Try.prog 7 #[.agg #[.int .i64 m.b1, .slice A1 m.z1.length C1, .int .i64 m.b2, .slice A2 m.z2.length C2, .int .i64 m.b3, .slice A3 m.z3.length C3, .int .i64 m.p], .agg #[.int .i64 n.b1, .slice D1 n.z1.length E1, .int .i64 n.b2, .slice D2 n.z2.length E2, .int .i64 n.b3, .slice D3 n.z3.length E3, .int .i64 n.p]] w fun e w' => e = .returned (.bool (macEqB m n)) ∧ Below w.heap.size w w' := by
  obtain ⟨u, hu⟩ : ∃ u, u = (w.alloc (.cells #[.int .i64 m.b1, .slice A1 m.z1.length C1, .int .i64 m.b2, .slice A2 m.z2.length C2, .int .i64 m.b3, .slice A3 m.z3.length C3, .int .i64 m.p] 31)).alloc (.cells #[.int .i64 n.b1, .slice D1 n.z1.length E1, .int .i64 n.b2, .slice D2 n.z2.length E2, .int .i64 n.b3, .slice D3 n.z3.length E3, .int .i64 n.p] 31) := ⟨_, rfl⟩
  have bx : Bx u w.heap.size 31 #[.int .i64 m.b1, .slice A1 m.z1.length C1, .int .i64 m.b2, .slice A2 m.z2.length C2, .int .i64 m.b3, .slice A3 m.z3.length C3, .int .i64 m.p] := by rw [hu]; exact (Bx.new _ _ _).alloc _
  have by_ : Bx u (w.heap.size + 1) 31 #[.int .i64 n.b1, .slice D1 n.z1.length E1, .int .i64 n.b2, .slice D2 n.z2.length E2, .int .i64 n.b3, .slice D3 n.z3.length E3, .int .i64 n.p] := by rw [hu]; simpa using Bx.new (w.alloc (.cells #[.int .i64 m.b1, .slice A1 m.z1.length C1, .int .i64 m.b2, .slice A2 m.z2.length C2, .int .i64 m.b3, .slice A3 m.z3.length C3, .int .i64 m.p] 31)) #[.int .i64 n.b1, .slice D1 n.z1.length E1, .int .i64 n.b2, .slice D2 n.z2.length E2, .int .i64 n.b3, .slice D3 n.z3.length E3, .int .i64 n.p] 31
  have hbel : Below w.heap.size w u := by rw [hu]; exact (by repeat (first | exact Below.refl _ _ | refine Below.setCell ?_ (by first | omega | (simp <;> omega)) _ | refine Below.alloc ?_ (by first | omega | (simp <;> omega)) _ | refine Below.drew ?_))
  have HU := Lib.hid hu
  clear hu
  go_enter Try.func7, Try.ntmps7
  go_wp2_with fail
  rw [← HU.out]
  refine (l10Same_any _ _ m n A1 C1 A2 C2 A3 C3 D1 E1 D2 E2 D3 E3 u (h.below hbel) (k.below hbel) bx by_).mono ?_
  rintro e w1 ⟨rfl, hb⟩
  go_wp2
  go_ret
  exact ⟨rfl, hbel.trans (hb.mono hbel.size)⟩
end Go.Proofs.Ytmjeiagkdcfeiaa
