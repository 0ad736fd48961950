/-
  Several texts in one: MtxI, RmS, RmI, SamN, StbN, Bytes.
-/
import Derived.Test.YtlahobdopmdfmaaGreatDoorStkQ2
import Derived.Test.YtlahobdopmdfmaaGreatDoorShJn
import Derived.Test.YtlahobdopmdfmaaGreatDoorShSpl
import Derived.Test.YtlahobdopmdfmaaGreatDoorProg
import Derived.Test.YtlahobdopmdfmaaGreatDoorStkQ3
import Derived.Deep.Cut
import Derived.BigQuiet

/- MtxI -/
namespace Go.Proofs.YtlahobdopmdfmaaGreatDoor
open Go.RowKit

set_option maxRecDepth 100000 in
set_option maxHeartbeats 8000000 in
theorem implMachineText (m : Mac) (A1 : Option Addr) (C1 : Nat) (A2 : Option Addr) (C2 : Nat) (A3 : Option Addr) (C3 : Nat) (w : World) (h : Rd3 w A1 m.z1 A2 m.z2 A3 m.z3) (z : All64 m.z1 ∧ All64 m.z2 ∧ All64 m.z3) (y : I64 m.b1 ∧ I64 m.b2 ∧ I64 m.b3 ∧ I64 m.p) (hD : PowTab w ∧ BellD w) :
    Calls Tryz.prog 11 #[.agg #[.int .i64 m.b1, .slice A1 m.z1.length C1, .int .i64 m.b2, .slice A2 m.z2.length C2, .int .i64 m.b3, .slice A3 m.z3.length C3, .int .i64 m.p]] w fun e w' => e = .returned (.string (mtV m)) ∧ Below w.heap.size w w' := by
  obtain ⟨u, hu⟩ : ∃ u, u = w.alloc (.cells #[.int .i64 m.b1, .slice A1 m.z1.length C1, .int .i64 m.b2, .slice A2 m.z2.length C2, .int .i64 m.b3, .slice A3 m.z3.length C3, .int .i64 m.p] 28) := ⟨_, rfl⟩
  have hbel : Below w.heap.size w u := by rw [hu]; exact (by repeat (first | exact Below.refl _ _ | refine Below.setCell ?_ (by first | omega | (simp <;> omega)) _ | refine Below.alloc ?_ (by first | omega | (simp <;> omega)) _ | refine Below.drew ?_))
  have bx : Bx u w.heap.size 28 #[.int .i64 m.b1, .slice A1 m.z1.length C1, .int .i64 m.b2, .slice A2 m.z2.length C2, .int .i64 m.b3, .slice A3 m.z3.length C3, .int .i64 m.p] := by rw [hu]; exact Bx.new _ _ _
  obtain ⟨hP, hL⟩ := hD
  replace h := h.below hbel
  replace hP := powTab_below hP hbel
  have HV := Lib.hid (implValidMachine m A1 C1 A2 C2 A3 C3 u h z y (hL.below hbel))
  have HU := Lib.hid hu
  clear hu hL
  have c0 := bx.at_ 0 rfl
  have c1 := bx.at_ 1 rfl
  have c2 := bx.at_ 2 rfl
  have c3 := bx.at_ 3 rfl
  have c4 := bx.at_ 4 rfl
  have c5 := bx.at_ 5 rfl
  have c6 := bx.at_ 6 rfl
  cases hm : macB m with
  | false =>
    have HR := Lib.hid (show mtV m = ByteArray.empty by simp [mtV, hm])
    rw [hm] at HV
    clear hm
    go_enter Tryz.func11, Tryz.ntmps11
    go_wp2_with fail
    rw [← HU.out]
    refine HV.out.mono ?_
    rintro e w1 ⟨rfl, hb⟩
    go_wp2
    go_ret
    exact ⟨by rw [HR.out]; rfl, hbel.trans (hb.mono hbel.size)⟩
  | true =>
    obtain ⟨o1, o2, o3, o4⟩ := macB_spec hm
    obtain ⟨e2, e3, b0, b1, n0, n12, n2, n3, n4, p0, p1, p2, d1, d2, d3⟩ := macB_facts hm
    have H1 := Lib.hid (fun (v : World) (hb : Below u.heap.size u v) => implRegisterText m.b1 A1 C1 m.z1 v (h.below hb).x z.1 y.1 (powTab_below hP hb))
    have H2 := Lib.hid (fun (v : World) (hb : Below u.heap.size u v) => implRegisterText m.b2 A2 C2 m.z2 v (h.below hb).y z.2.1 y.2.1 (powTab_below hP hb))
    have H3 := Lib.hid (fun (v : World) (hb : Below u.heap.size u v) => implRegisterText m.b3 A3 C3 m.z3 v (h.below hb).z z.2.2 y.2.2.1 (powTab_below hP hb))
    have H4 := Lib.hid (fun (v : World) (hb : Below u.heap.size u v) => implDecimal m.p v y.2.2.2 (powTab_below hP hb))
    rw [txR_ok o1] at H1
    rw [txR_ok o2] at H2
    rw [txR_ok o3] at H3
    have n1 := txB_size (zs := m.z1) (show 0 ≤ m.b1 by omega) b1 (by omega)
    have n2' := txB_size (zs := m.z2) (show 0 ≤ m.b2 by omega) (by omega) n2
    have n3' := txB_size (zs := m.z3) (show 0 ≤ m.b3 by omega) (by omega) n4
    have n4' : (⟨(Lib.itoa m.p).toArray⟩ : ByteArray).size ≤ 20 := itoa_len (n := m.p) p0 (by omega)
    have HR := Lib.hid (show mtV m = mtT m by simp [mtV, hm])
    have HC1 : Hid (∀ v, Below u.heap.size u v → v.cell? ⟨w.heap.size, 0, none⟩ = some (.int .i64 m.b1) ∧ v.cell? ⟨w.heap.size, 1, none⟩ = some (.slice A1 m.z1.length C1)) := Lib.hid (fun v hb => ⟨kept hb c0, kept hb c1⟩)
    have HC2 : Hid (∀ v, Below u.heap.size u v → v.cell? ⟨w.heap.size, 2, none⟩ = some (.int .i64 m.b2) ∧ v.cell? ⟨w.heap.size, 3, none⟩ = some (.slice A2 m.z2.length C2)) := Lib.hid (fun v hb => ⟨kept hb c2, kept hb c3⟩)
    have HC3 : Hid (∀ v, Below u.heap.size u v → v.cell? ⟨w.heap.size, 4, none⟩ = some (.int .i64 m.b3) ∧ v.cell? ⟨w.heap.size, 5, none⟩ = some (.slice A3 m.z3.length C3)) := Lib.hid (fun v hb => ⟨kept hb c4, kept hb c5⟩)
    have HC4 : Hid (∀ v, Below u.heap.size u v → v.cell? ⟨w.heap.size, 6, none⟩ = some (.int .i64 m.p) ∧ True) := Lib.hid (fun v hb => ⟨kept hb c6, trivial⟩)
    obtain ⟨S1, hS1⟩ : ∃ S : ByteArray, S = ⟨(txB m.b1 m.z1).toArray⟩ := ⟨_, rfl⟩
    obtain ⟨S2, hS2⟩ : ∃ S : ByteArray, S = ⟨(txB m.b2 m.z2).toArray⟩ := ⟨_, rfl⟩
    obtain ⟨S3, hS3⟩ : ∃ S : ByteArray, S = ⟨(txB m.b3 m.z3).toArray⟩ := ⟨_, rfl⟩
    obtain ⟨S4, hS4⟩ : ∃ S : ByteArray, S = ⟨(Lib.itoa m.p).toArray⟩ := ⟨_, rfl⟩
    rw [← hS1] at n1 H1
    rw [← hS2] at n2' H2
    rw [← hS3] at n3' H3
    rw [← hS4] at n4' H4
    replace HR := Lib.hid (HR.out.trans (show mtT m = (((((S1 ++ ⟨#[32]⟩) ++ S2) ++ ⟨#[32]⟩) ++ S3) ++ ⟨#[32]⟩) ++ S4 by rw [hS1, hS2, hS3, hS4]; rfl))
    have hjn : (⟨(Lib.join ([S1, S2, S3, S4].map (·.data.toList)) (⟨#[32]⟩ : ByteArray).data.toList).toArray⟩ : ByteArray) = (((((S1 ++ ⟨#[32]⟩) ++ S2) ++ ⟨#[32]⟩) ++ S3) ++ ⟨#[32]⟩) ++ S4 := by
      exact bs_ext (by simp [Lib.join, List.intercalate])
    have hjl : (Lib.join ([S1, S2, S3, S4].map (·.data.toList)) (⟨#[32]⟩ : ByteArray).data.toList).length ≤ 140737488355328 := by
      have z1 : S1.data.size ≤ 40 := n1
      have z2 : S2.data.size ≤ 40 := n2'
      have z3 : S3.data.size ≤ 40 := n3'
      have z4 : S4.data.size ≤ 20 := n4'
      simp [Lib.join, List.intercalate]
      omega
    rw [← hjn] at HR
    have HL := Lib.hid hjl
    rw [hm] at HV
    clear hS1 hS2 hS3 hS4 e2 e3 b0 b1 n0 n12 n2 n3 n4 p0 p1 p2 d1 d2 d3 hm h n1 n2' n3' n4' hjn hjl o1 o2 o3 o4 z y hP bx c1 c2 c3 c4 c5 c6
    go_enter Tryz.func11, Tryz.ntmps11
    go_wp2_with fail
    rw [← HU.out]
    refine HV.out.mono ?_
    rintro e w1 ⟨rfl, hb⟩
    go_upto_region 3 with fail
    refine wp_region_marked (fun w' => Below u.heap.size u w') 14 (by kernel_rfl) ?_
    have hS : Below u.heap.size u w1.drew := hb.drew
    refine wpAnyM_take (i := 0) (v := ?_) rfl (by kernel_rfl) (by kernel_rfl) (by kernel_rfl) (by kernel_rfl) (by kernel_rfl) (fun _ _ _ h => h) hS (.inl ⟨by rfl, ?_⟩) ?_
    rotate_left 1
    · intro w' hS'; go_simp; try with_reducible rfl
    simp only [Act.put, List.setIfInBounds_toArray]
    refine wpAnyM_take (i := 1) (v := ?_) rfl (by kernel_rfl) (by kernel_rfl) (by kernel_rfl) (by kernel_rfl) (by kernel_rfl) (fun _ _ _ h => h) hS (.inl ⟨by rfl, ?_⟩) ?_
    rotate_left 1
    · intro w' hS'; obtain ⟨q1, q2⟩ := HC1.out w' hS'; go_simp; try with_reducible rfl
    simp only [Act.put]
    refine wpAnyM_take (i := 3) (v := ?_) rfl (by kernel_rfl) (by kernel_rfl) (by kernel_rfl) (by kernel_rfl) (by kernel_rfl) (fun _ _ _ h => h) hS (.inl ⟨by rfl, ?_⟩) ?_
    rotate_left 1
    · intro w' hS'; go_simp; try with_reducible rfl
    simp only [Act.put]
    refine wpAnyM_take (i := 4) (v := ?_) rfl (by kernel_rfl) (by kernel_rfl) (by kernel_rfl) (by kernel_rfl) (by kernel_rfl) (fun _ _ _ h => h) hS (.inl ⟨by rfl, ?_⟩) ?_
    rotate_left 1
    · intro w' hS'; obtain ⟨q1, q2⟩ := HC2.out w' hS'; go_simp; try with_reducible rfl
    simp only [Act.put]
    refine wpAnyM_take (i := 6) (v := ?_) rfl (by kernel_rfl) (by kernel_rfl) (by kernel_rfl) (by kernel_rfl) (by kernel_rfl) (fun _ _ _ h => h) hS (.inl ⟨by rfl, ?_⟩) ?_
    rotate_left 1
    · intro w' hS'; go_simp; try with_reducible rfl
    simp only [Act.put]
    refine wpAnyM_take (i := 7) (v := ?_) rfl (by kernel_rfl) (by kernel_rfl) (by kernel_rfl) (by kernel_rfl) (by kernel_rfl) (fun _ _ _ h => h) hS (.inl ⟨by rfl, ?_⟩) ?_
    rotate_left 1
    · intro w' hS'; obtain ⟨q1, q2⟩ := HC3.out w' hS'; go_simp; try with_reducible rfl
    simp only [Act.put]
    refine wpAnyM_take (i := 9) (v := ?_) rfl (by kernel_rfl) (by kernel_rfl) (by kernel_rfl) (by kernel_rfl) (by kernel_rfl) (fun _ _ _ h => h) hS (.inl ⟨by rfl, ?_⟩) ?_
    rotate_left 1
    · intro w' hS'; go_simp; try with_reducible rfl
    simp only [Act.put]
    refine wpAnyM_take (i := 10) (v := ?_) rfl (by kernel_rfl) (by kernel_rfl) (by kernel_rfl) (by kernel_rfl) (by kernel_rfl) (fun _ _ _ h => h) hS (.inl ⟨by rfl, ?_⟩) ?_
    rotate_left 1
    · intro w' hS'; obtain ⟨q1, q2⟩ := HC4.out w' hS'; go_simp; try with_reducible rfl
    simp only [Act.put]
    refine wpAnyM_one (i := 2) (by kernel_rfl) rfl (by rfl) (fun K hK => ?_)
    go_simp
    refine (H1.out _ hS).mono ?_
    rintro e v1 ⟨rfl, hb1⟩
    replace hS := hS.trans (hb1.mono hS.size)
    clear hb1
    refine hK _ _ (.inr hS) ?_
    clear hK K
    try simp only [Act.put, List.setIfInBounds_toArray]
    refine wpAnyM_one (i := 5) (by kernel_rfl) rfl (by rfl) (fun K hK => ?_)
    go_simp
    refine (H2.out _ hS).mono ?_
    rintro e v2 ⟨rfl, hb2⟩
    replace hS := hS.trans (hb2.mono hS.size)
    clear hb2
    refine hK _ _ (.inr hS) ?_
    clear hK K
    try simp only [Act.put, List.setIfInBounds_toArray]
    refine wpAnyM_one (i := 8) (by kernel_rfl) rfl (by rfl) (fun K hK => ?_)
    go_simp
    refine (H3.out _ hS).mono ?_
    rintro e v3 ⟨rfl, hb3⟩
    replace hS := hS.trans (hb3.mono hS.size)
    clear hb3
    refine hK _ _ (.inr hS) ?_
    clear hK K
    try simp only [Act.put, List.setIfInBounds_toArray]
    refine wpAnyM_one (i := 11) (by kernel_rfl) rfl (by rfl) (fun K hK => ?_)
    go_simp
    refine (H4.out _ hS).mono ?_
    rintro e v4 ⟨rfl, hb4⟩
    replace hS := hS.trans (hb4.mono hS.size)
    clear hb4
    refine hK _ _ (.inr hS) ?_
    clear hK K
    try simp only [Act.put, List.setIfInBounds_toArray]
    refine wpAnyM_one (i := 12) (by kernel_rfl) rfl (by rfl) (fun K hK => ?_)
    go_simp
    obtain ⟨V, hV⟩ : ∃ V, V = v4.alloc (.cells #[.string S1, .string S2, .string S3, .string S4] 9) := ⟨_, rfl⟩
    have bS : Bx V v4.heap.size 9 #[.string S1, .string S2, .string S3, .string S4] := by rw [hV]; exact Bx.new _ _ _
    rw [← hV]
    replace hS : Below u.heap.size u V := by rw [hV]; exact hS.alloc hS.size _
    obtain ⟨g, hg⟩ : ∃ g, g = v4.heap.size := ⟨_, rfl⟩
    rw [← hg] at bS
    rw [← hg]
    clear hV hg
    refine hK _ _ (.inr hS) ?_
    clear hK K
    try simp only [Act.put, List.setIfInBounds_toArray]
    refine wpAnyM_one (i := 13) (by kernel_rfl) rfl (by rfl) (fun K hK => ?_)
    go_simp
    have hcells : ∀ (j : Nat) x, [S1, S2, S3, S4][j]? = some x → V.cell? ⟨g, 0 + j, none⟩ = some (.string x) := by
      intro j x hx
      match j, hx with
      | 0, hx => obtain rfl := Option.some.inj hx; exact bS.at_ 0 rfl
      | 1, hx => obtain rfl := Option.some.inj hx; exact bS.at_ 1 rfl
      | 2, hx => obtain rfl := Option.some.inj hx; exact bS.at_ 2 rfl
      | 3, hx => obtain rfl := Option.some.inj hx; exact bS.at_ 3 rfl
      | j + 4, hx => simp at hx
    refine (Tryz.strings_Join g 0 4 [S1, S2, S3, S4] ⟨#[32]⟩ V hcells bS.lt (by simp) (by simp) HL.out).mono ?_
    rintro e v5 ⟨rfl, hb5⟩
    replace hS := hS.trans (hb5.mono hS.size)
    clear hb5 hcells
    refine hK _ _ (.inr hS) ?_
    clear hK K
    try simp only []
    refine wpAnyM_one (i := 14) (by kernel_rfl) rfl (by rfl) (fun K hK => ?_)
    go_simp
    refine hK _ _ (.inl rfl) ?_
    clear hK K
    refine wpAnyM_done (by kernel_rfl) ?_ _
    go_wp2
    go_ret
    exact ⟨by first | (rw [HR.out]; done) | (rw [HR.out]; rfl), hbel.trans (hS.mono hbel.size)⟩
end Go.Proofs.YtlahobdopmdfmaaGreatDoor

/- RmS -/
namespace Go.Proofs.YtlahobdopmdfmaaGreatDoor
open Go.RowKit

/-- A machine of its own, and a truth value. -/
def MacB (R : Mac × Bool) (w : World) (e : Ending) (w' : World) : Prop := ∃ (A1 : Option Addr) (C1 : Nat) (A2 : Option Addr) (C2 : Nat) (A3 : Option Addr) (C3 : Nat),
  e = .returned (.tuple #[.agg #[.int .i64 R.1.b1, .slice A1 R.1.z1.length C1, .int .i64 R.1.b2, .slice A2 R.1.z2.length C2, .int .i64 R.1.b3, .slice A3 R.1.z3.length C3, .int .i64 R.1.p], .bool R.2]) ∧ Own3 2 w' w.heap.size w'.heap.size (.slice A1 R.1.z1.length C1) R.1.z1 (.slice A2 R.1.z2.length C2) R.1.z2 (.slice A3 R.1.z3.length C3) R.1.z3 ∧ Below w.heap.size w w'
theorem macB_err {R : Mac × Bool} {w w' : World} {e : Ending} (h : R = (mac0, false)) (he : e = .returned (.tuple #[.agg #[.int .i64 0, .slice none 0 0, .int .i64 0, .slice none 0 0, .int .i64 0, .slice none 0 0, .int .i64 0], .bool false])) (hb : Below w.heap.size w w') : MacB R w e w' := by
  subst h
  exact ⟨none, 0, none, 0, none, 0, he, own3_nil _ _ _ _ hb.size, hb⟩
theorem macB_ok {R : Mac × Bool} {m : Mac} {w w' : World} {A1 : Option Addr} {C1 : Nat} {A2 : Option Addr} {C2 : Nat} {A3 : Option Addr} {C3 : Nat} {lo hi : Nat} {e : Ending} (h : R = (m, true)) (he : e = .returned (.tuple #[.agg #[.int .i64 m.b1, .slice A1 m.z1.length C1, .int .i64 m.b2, .slice A2 m.z2.length C2, .int .i64 m.b3, .slice A3 m.z3.length C3, .int .i64 m.p], .bool true]))
    (ho : Own3 2 w' lo hi (.slice A1 m.z1.length C1) m.z1 (.slice A2 m.z2.length C2) m.z2 (.slice A3 m.z3.length C3) m.z3) (hl : w.heap.size ≤ lo) (hh : hi ≤ w'.heap.size) (hb : Below w.heap.size w w') : MacB R w e w' := by
  subst h
  exact ⟨A1, C1, A2, C2, A3, C3, he, ho.wide hl hh, hb⟩
theorem specReadReg_at (s : ByteArray) (w : World) (hs : s.size ≤ 1048576) : Calls Tryz.prog 37 #[.string s] w fun e w' => ∃ A C,
    e = .returned (.tuple #[.agg #[.int .i64 (rgR s).1, .slice A (rgR s).2.1.length C], .bool (rgR s).2.2]) ∧ Own 2 w' w.heap.size w'.heap.size (.slice A (rgR s).2.1.length C) (rgR s).2.1 ∧ Below w.heap.size w w' := specReadRegister s w hs
theorem l01Number_at (s : ByteArray) (w : World) (hs : s.size ≤ 1048576) : Calls Tryz.prog 38 #[.string s] w fun e w' =>
    e = .returned (.tuple #[.int .i64 (rdR s).1, .bool (rdR s).2]) ∧ Below w.heap.size w w' := l01Number_any s w hs

set_option maxRecDepth 100000 in
set_option maxHeartbeats 8000000 in
theorem specReadMachine (s : ByteArray) (w : World) (hs : s.size ≤ 1048576) :
    Calls Tryz.prog 16 #[.string s] w (MacB (rmR s) w) := by
  have R := Tryz.results16
  obtain ⟨g, hg⟩ : ∃ g, g = w.heap.size := ⟨_, rfl⟩
  obtain ⟨u, hu⟩ : ∃ u, u = w.alloc (.cells #[.int .i64 0, .slice none 0 0, .int .i64 0, .slice none 0 0, .int .i64 0, .slice none 0 0, .int .i64 0] 28) := ⟨_, rfl⟩
  have hbel : Below w.heap.size w u := by rw [hu]; exact (by repeat (first | exact Below.refl _ _ | refine Below.setCell ?_ (by first | omega | (simp <;> omega)) _ | refine Below.alloc ?_ (by first | omega | (simp <;> omega)) _ | refine Below.drew ?_))
  have br : Bx u g 28 #[.int .i64 0, .slice none 0 0, .int .i64 0, .slice none 0 0, .int .i64 0, .slice none 0 0, .int .i64 0] := by rw [hu, hg]; exact Bx.new _ _ _
  have hgu : g < u.heap.size := br.lt
  have H0 := l01Split_any s 32 u hs
  rw [show ((32 : UInt8).toNat : Int) = 32 from rfl] at H0
  have HR := Lib.hid (show rmR s = rmL (splitL s 32) from rfl)
  have HZ := Lib.hid (show ∀ x ∈ splitL s 32, x.size ≤ s.size from splitGo_size _ _ _)
  have hL := splitL_len s 32
  obtain ⟨L, eL⟩ : ∃ L, L = splitL s 32 := ⟨_, rfl⟩
  rw [← eL] at H0 HR HZ hL
  clear eL
  have HG := Lib.hid hg
  have HU := Lib.hid hu
  clear hu
  by_cases h4 : L.length = 4
  rotate_left
  · have HN := Lib.hid (HR.out.trans (rmL_len h4))
    have h4' : ¬ ((L.length : Int) = 4) := by omega
    clear HR HZ h4
    go_enter Tryz.func16, Tryz.ntmps16
    go_wp2_with fail
    rw [← HU.out, ← hg]
    clear hg
    refine H0.mono ?_
    rintro e w1 ⟨A, C, rfl, ow, hb⟩
    replace br := br.below hb
    replace hbel := hbel.trans (hb.mono hbel.size)
    clear hb
    clear ow H0
    have r0 := br.at_ 0 rfl
    have r1 := br.at_ 1 rfl
    have r2 := br.at_ 2 rfl
    have r3 := br.at_ 3 rfl
    have r4 := br.at_ 4 rfl
    have r5 := br.at_ 5 rfl
    have r6 := br.at_ 6 rfl
    have f0 := br.thaw 0
    have f1 := br.thaw 1
    have f2 := br.thaw 2
    have f3 := br.thaw 3
    have f4 := br.thaw 4
    have f5 := br.thaw 5
    have f6 := br.thaw 6
    have hl := br.lt
    go_wp2
    exact bodyPost_ret (v := .tuple #[.agg #[.int .i64 0, .slice none 0 0, .int .i64 0, .slice none 0 0, .int .i64 0, .slice none 0 0, .int .i64 0], .bool false]) (by simp [results, go_sem, r0, r1, r2, r3, r4, r5, r6]) rfl (macB_err HN.out rfl (by have := HG.out; exact (by repeat (first | with_reducible exact hbel | with_reducible refine Below.setCell ?_ (by first | omega | (simp <;> omega)) _ | with_reducible refine Below.alloc ?_ (by first | omega | (simp <;> omega)) _ | with_reducible refine Below.drew ?_))))
  obtain ⟨p1, p2, p3, p4, rfl⟩ := rmL_four h4
  have hz1 := HZ.out p1 (by simp)
  have hz2 := HZ.out p2 (by simp)
  have hz3 := HZ.out p3 (by simp)
  have hz4 := HZ.out p4 (by simp)
  have HN1 := Lib.hid (fun v => specReadReg_at p1 v (by omega))
  have HN2 := Lib.hid (fun v => specReadReg_at p2 v (by omega))
  have HN3 := Lib.hid (fun v => specReadReg_at p3 v (by omega))
  have HN4 := Lib.hid (fun v => l01Number_at p4 v (by omega))
  have HP := Lib.hid (show (rgR p1).2.2 = false ∨ (rgR p2).2.2 = false ∨ (rgR p3).2.2 = false → macB (partM p1 p2 p3 p4) = false from macB_part)
  have HM := Lib.hid (show partM p1 p2 p3 p4 = ⟨(rgR p1).1, (rgR p1).2.1, (rgR p2).1, (rgR p2).2.1, (rgR p3).1, (rgR p3).2.1, (rdR p4).1⟩ from rfl)
  replace HR := Lib.hid (show rmR s = if (rdR p4).2 = true ∧ macB (partM p1 p2 p3 p4) = true then (partM p1 p2 p3 p4, true) else (mac0, false) from HR.out)
  obtain ⟨B1, Z1, q1, e1⟩ : ∃ B Z q, rgR p1 = (B, Z, q) := ⟨_, _, _, rfl⟩
  obtain ⟨B2, Z2, q2, e2⟩ : ∃ B Z q, rgR p2 = (B, Z, q) := ⟨_, _, _, rfl⟩
  obtain ⟨B3, Z3, q3, e3⟩ : ∃ B Z q, rgR p3 = (B, Z, q) := ⟨_, _, _, rfl⟩
  obtain ⟨P, q4, e4⟩ : ∃ B q, rdR p4 = (B, q) := ⟨_, _, rfl⟩
  obtain ⟨m, hm⟩ : ∃ m, m = partM p1 p2 p3 p4 := ⟨_, rfl⟩
  rw [← hm] at HP HM HR
  rw [e1] at HN1 HP HM
  rw [e2] at HN2 HP HM
  rw [e3] at HN3 HP HM
  rw [e4] at HN4 HR HM
  clear e1 e2 e3 e4 hm HZ hL h4 hz1 hz2 hz3 hz4
  go_enter Tryz.func16, Tryz.ntmps16
  go_wp2_with fail
  rw [← HU.out, ← hg]
  clear hg
  refine H0.mono ?_
  rintro e w1 ⟨A, C, rfl, ow, hb⟩
  obtain ⟨gs, rfl, hg1, hg2, hg3⟩ := ow.head (by simp)
  have t0 : w1.cell? ⟨gs, 0, none⟩ = some (.string p1) := ow.getT (k := 0) (by simp)
  have t1 : w1.cell? ⟨gs, 1, none⟩ = some (.string p2) := ow.getT (k := 1) (by simp)
  have t2 : w1.cell? ⟨gs, 2, none⟩ = some (.string p3) := ow.getT (k := 2) (by simp)
  have t3 : w1.cell? ⟨gs, 3, none⟩ = some (.string p4) := ow.getT (k := 3) (by simp)
  replace br := br.below hb
  have hy0 := hb.size
  replace hbel := hbel.trans (hb.mono hbel.size)
  clear hb
  clear ow H0 hg1 hg2 hg3
  go_wp2_with fail
  refine (HN1.out w1).mono ?_
  rintro e x1 ⟨A1, C1, rfl, own1, hb⟩
  replace t1 := kept hb t1
  replace t2 := kept hb t2
  replace t3 := kept hb t3
  replace br := br.below hb
  have hz1 := hb.size
  replace hbel := hbel.trans (hb.mono hbel.size)
  clear hb
  clear t0
  go_upto_region 5 with fail
  obtain ⟨g1, hg1⟩ : ∃ g, g = x1.heap.size := ⟨_, rfl⟩
  obtain ⟨V1, hV⟩ : ∃ V, V = x1.alloc (.cells #[.int .i64 B1, .slice A1 Z1.length C1] 26) := ⟨_, rfl⟩
  try rw [← hg1, ← hV]
  have bx1 : Bx V1 g1 26 #[.int .i64 B1, .slice A1 Z1.length C1] := by rw [hV, hg1]; exact Bx.new _ _ _
  have hb : Below x1.heap.size x1 V1 := by rw [hV]; exact (Below.refl _ _).alloc (Nat.le_refl _) _
  have hx1 : g1 < V1.heap.size := bx1.lt
  replace t1 := kept hb t1
  replace t2 := kept hb t2
  replace t3 := kept hb t3
  replace br := br.below hb
  replace own1 := own1.below hb
  have hy1 := hb.size
  replace hbel := hbel.trans (hb.mono hbel.size)
  clear hb
  clear hV hg1
  go_wp2_with fail
  refine (HN2.out V1).mono ?_
  rintro e x2 ⟨A2, C2, rfl, own2, hb⟩
  replace t2 := kept hb t2
  replace t3 := kept hb t3
  replace br := br.below hb
  replace own1 := own1.below hb
  replace bx1 := bx1.below hb
  have hz2 := hb.size
  replace hbel := hbel.trans (hb.mono hbel.size)
  clear hb
  clear t1
  go_upto_region 6 with fail
  obtain ⟨g2, hg2⟩ : ∃ g, g = x2.heap.size := ⟨_, rfl⟩
  obtain ⟨V2, hV⟩ : ∃ V, V = x2.alloc (.cells #[.int .i64 B2, .slice A2 Z2.length C2] 26) := ⟨_, rfl⟩
  try rw [← hg2, ← hV]
  have bx2 : Bx V2 g2 26 #[.int .i64 B2, .slice A2 Z2.length C2] := by rw [hV, hg2]; exact Bx.new _ _ _
  have hb : Below x2.heap.size x2 V2 := by rw [hV]; exact (Below.refl _ _).alloc (Nat.le_refl _) _
  have hx2 : g2 < V2.heap.size := bx2.lt
  replace t2 := kept hb t2
  replace t3 := kept hb t3
  replace br := br.below hb
  replace own1 := own1.below hb
  replace own2 := own2.below hb
  replace bx1 := bx1.below hb
  have hy2 := hb.size
  replace hbel := hbel.trans (hb.mono hbel.size)
  clear hb
  clear hV hg2
  go_wp2_with fail
  refine (HN3.out V2).mono ?_
  rintro e x3 ⟨A3, C3, rfl, own3, hb⟩
  replace t3 := kept hb t3
  replace br := br.below hb
  replace own1 := own1.below hb
  replace own2 := own2.below hb
  replace bx1 := bx1.below hb
  replace bx2 := bx2.below hb
  have hz3 := hb.size
  replace hbel := hbel.trans (hb.mono hbel.size)
  clear hb
  clear t2
  go_upto_region 7 with fail
  obtain ⟨g3, hg3⟩ : ∃ g, g = x3.heap.size := ⟨_, rfl⟩
  obtain ⟨V3, hV⟩ : ∃ V, V = x3.alloc (.cells #[.int .i64 B3, .slice A3 Z3.length C3] 26) := ⟨_, rfl⟩
  try rw [← hg3, ← hV]
  have bx3 : Bx V3 g3 26 #[.int .i64 B3, .slice A3 Z3.length C3] := by rw [hV, hg3]; exact Bx.new _ _ _
  have hb : Below x3.heap.size x3 V3 := by rw [hV]; exact (Below.refl _ _).alloc (Nat.le_refl _) _
  have hx3 : g3 < V3.heap.size := bx3.lt
  replace t3 := kept hb t3
  replace br := br.below hb
  replace own1 := own1.below hb
  replace own2 := own2.below hb
  replace own3 := own3.below hb
  replace bx1 := bx1.below hb
  replace bx2 := bx2.below hb
  have hy3 := hb.size
  replace hbel := hbel.trans (hb.mono hbel.size)
  clear hb
  clear hV hg3
  go_wp2_with fail
  refine (HN4.out V3).mono ?_
  rintro e x4 ⟨rfl, hb⟩
  replace br := br.below hb
  replace own1 := own1.below hb
  replace own2 := own2.below hb
  replace own3 := own3.below hb
  replace bx1 := bx1.below hb
  replace bx2 := bx2.below hb
  replace bx3 := bx3.below hb
  have hz4 := hb.size
  replace hbel := hbel.trans (hb.mono hbel.size)
  clear hb
  clear t3
  have HO : Hid (Own3 2 x4 w1.heap.size x3.heap.size (.slice A1 Z1.length C1) Z1 (.slice A2 Z2.length C2) Z2 (.slice A3 Z3.length C3) Z3) := Lib.hid ⟨_, _, _, _, _, _, own1, own2, own3, by omega⟩
  have HS := Lib.hid (show w.heap.size ≤ w1.heap.size ∧ x3.heap.size ≤ x4.heap.size ∧ g < w1.heap.size by have := HG.out; omega)
  have d0 := bx1.at_ 0 rfl
  have d1 := bx1.at_ 1 rfl
  have d2 := bx2.at_ 0 rfl
  have d3 := bx2.at_ 1 rfl
  have d4 := bx3.at_ 0 rfl
  have d5 := bx3.at_ 1 rfl
  clear own1 own2 own3 bx1 bx2 bx3 hz1 hz2 hz3 hy0 hy1 hy2 hy3 hx1 hx2 hx3 HN1 HN2 HN3 HN4
  go_upto_region 9 with fail
  obtain ⟨k, hk⟩ : ∃ g, g = x4.heap.size := ⟨_, rfl⟩
  obtain ⟨V, hV⟩ : ∃ V, V = x4.alloc (.cells #[.int .i64 B1, .slice A1 Z1.length C1, .int .i64 B2, .slice A2 Z2.length C2, .int .i64 B3, .slice A3 Z3.length C3, .int .i64 P] 28) := ⟨_, rfl⟩
  try rw [← hk, ← hV]
  have bm : Bx V k 28 #[.int .i64 B1, .slice A1 Z1.length C1, .int .i64 B2, .slice A2 Z2.length C2, .int .i64 B3, .slice A3 Z3.length C3, .int .i64 P] := by rw [hV, hk]; exact Bx.new _ _ _
  have hb : Below x4.heap.size x4 V := by rw [hV]; exact (Below.refl _ _).alloc (Nat.le_refl _) _
  replace br := br.below hb
  replace hbel := hbel.trans (hb.mono hbel.size)
  replace HS := Lib.hid (show w.heap.size ≤ w1.heap.size ∧ x3.heap.size ≤ V.heap.size ∧ g < w1.heap.size by have := HS.out; have := hb.size; omega)
  have HO2 : Hid (Own3 2 V w1.heap.size x3.heap.size (.slice A1 m.z1.length C1) m.z1 (.slice A2 m.z2.length C2) m.z2 (.slice A3 m.z3.length C3) m.z3) := Lib.hid (by rw [HM.out]; exact HO.out.below hb)
  have bm2 : Bx V k 28 #[.int .i64 m.b1, .slice A1 m.z1.length C1, .int .i64 m.b2, .slice A2 m.z2.length C2, .int .i64 m.b3, .slice A3 m.z3.length C3, .int .i64 m.p] := by rw [HM.out]; exact bm
  have HV := Lib.hid (l10Ok_any k m A1 C1 A2 C2 A3 C3 V HO2.out.rd bm2)
  clear hb hV hk bm HO d0 d1 d2 d3 d4 d5
  have n0 := HM.out
  obtain ⟨rfl, rfl, rfl, rfl, rfl, rfl, rfl⟩ : m.b1 = B1 ∧ m.z1 = Z1 ∧ m.b2 = B2 ∧ m.z2 = Z2 ∧ m.b3 = B3 ∧ m.z3 = Z3 ∧ m.p = P := by rw [n0]; exact ⟨rfl, rfl, rfl, rfl, rfl, rfl, rfl⟩
  clear n0 HM
  by_cases hq : q1 = true ∧ q2 = true ∧ q3 = true ∧ q4 = true
  · obtain ⟨rfl, rfl, rfl, rfl⟩ := hq
    cases hv : macB m with
    | false =>
      have HX := Lib.hid (show rmR s = (mac0, false) by rw [HR.out, hv]; simp)
      rw [hv] at HV
      clear hv HR HP
      go_wp2_with fail
      refine HV.out.mono ?_
      rintro e w4 ⟨rfl, hb⟩
      replace br := br.below hb
      replace hbel := hbel.trans (hb.mono hbel.size)
      clear hb bm2
      have r0 := br.at_ 0 rfl
      have r1 := br.at_ 1 rfl
      have r2 := br.at_ 2 rfl
      have r3 := br.at_ 3 rfl
      have r4 := br.at_ 4 rfl
      have r5 := br.at_ 5 rfl
      have r6 := br.at_ 6 rfl
      have f0 := br.thaw 0
      have f1 := br.thaw 1
      have f2 := br.thaw 2
      have f3 := br.thaw 3
      have f4 := br.thaw 4
      have f5 := br.thaw 5
      have f6 := br.thaw 6
      have hl := br.lt
      go_wp2
      exact bodyPost_ret (v := .tuple #[.agg #[.int .i64 0, .slice none 0 0, .int .i64 0, .slice none 0 0, .int .i64 0, .slice none 0 0, .int .i64 0], .bool false]) (by simp [results, go_sem, r0, r1, r2, r3, r4, r5, r6]) rfl (macB_err HX.out rfl (by have := HG.out; exact (by repeat (first | with_reducible exact hbel | with_reducible refine Below.setCell ?_ (by first | omega | (simp <;> omega)) _ | with_reducible refine Below.alloc ?_ (by first | omega | (simp <;> omega)) _ | with_reducible refine Below.drew ?_))))
    | true =>
      have HX := Lib.hid (show rmR s = (m, true) by rw [HR.out, hv]; simp)
      rw [hv] at HV
      clear hv HR HP
      go_wp2_with fail
      refine HV.out.mono ?_
      rintro e w4 ⟨rfl, hb⟩
      replace br := br.below hb
      replace bm2 := bm2.below hb
      replace hbel := hbel.trans (hb.mono hbel.size)
      have HO3 := Lib.hid (HO2.out.below hb)
      have HZ := Lib.hid hb.size
      clear hb
      have c0 := bm2.at_ 0 rfl
      have c1 := bm2.at_ 1 rfl
      have c2 := bm2.at_ 2 rfl
      have c3 := bm2.at_ 3 rfl
      have c4 := bm2.at_ 4 rfl
      have c5 := bm2.at_ 5 rfl
      have c6 := bm2.at_ 6 rfl
      have j0 := br.at_ 0 rfl
      have j1 := br.at_ 1 rfl
      have j2 := br.at_ 2 rfl
      have j3 := br.at_ 3 rfl
      have j4 := br.at_ 4 rfl
      have j5 := br.at_ 5 rfl
      have j6 := br.at_ 6 rfl
      have f0 := br.thaw 0
      have f1 := br.thaw 1
      have f2 := br.thaw 2
      have f3 := br.thaw 3
      have f4 := br.thaw 4
      have f5 := br.thaw 5
      have f6 := br.thaw 6
      have hl := br.lt
      have bz : Bx (((((((w4.setCell ⟨g, 0, none⟩ (.int .i64 m.b1)).setCell ⟨g, 1, none⟩ (.slice A1 m.z1.length C1)).setCell ⟨g, 2, none⟩ (.int .i64 m.b2)).setCell ⟨g, 3, none⟩ (.slice A2 m.z2.length C2)).setCell ⟨g, 4, none⟩ (.int .i64 m.b3)).setCell ⟨g, 5, none⟩ (.slice A3 m.z3.length C3)).setCell ⟨g, 6, none⟩ (.int .i64 m.p)) (g) 28 #[.int .i64 m.b1, .slice A1 m.z1.length C1, .int .i64 m.b2, .slice A2 m.z2.length C2, .int .i64 m.b3, .slice A3 m.z3.length C3, .int .i64 m.p] := bx_put7 br
      have r0 := bz.at_ 0 rfl
      have r1 := bz.at_ 1 rfl
      have r2 := bz.at_ 2 rfl
      have r3 := bz.at_ 3 rfl
      have r4 := bz.at_ 4 rfl
      have r5 := bz.at_ 5 rfl
      have r6 := bz.at_ 6 rfl
      clear bz
      go_wp2
      exact bodyPost_ret (v := .tuple #[.agg #[.int .i64 m.b1, .slice A1 m.z1.length C1, .int .i64 m.b2, .slice A2 m.z2.length C2, .int .i64 m.b3, .slice A3 m.z3.length C3, .int .i64 m.p], .bool true]) (by simp [results, go_sem, r0, r1, r2, r3, r4, r5, r6]) rfl
        (macB_ok HX.out rfl (((((((HO3.out.setCell (p := ⟨g, 0, none⟩) (.inl HS.out.2.2) _).setCell (p := ⟨g, 1, none⟩) (.inl HS.out.2.2) _).setCell (p := ⟨g, 2, none⟩) (.inl HS.out.2.2) _).setCell (p := ⟨g, 3, none⟩) (.inl HS.out.2.2) _).setCell (p := ⟨g, 4, none⟩) (.inl HS.out.2.2) _).setCell (p := ⟨g, 5, none⟩) (.inl HS.out.2.2) _).setCell (p := ⟨g, 6, none⟩) (.inl HS.out.2.2) _) HS.out.1 (by have := HS.out; have := HZ.out; simp; omega) (by have := HG.out; exact (by repeat (first | with_reducible exact hbel | with_reducible refine Below.setCell ?_ (by first | omega | (simp <;> omega)) _ | with_reducible refine Below.alloc ?_ (by first | omega | (simp <;> omega)) _ | with_reducible refine Below.drew ?_))))
  · have HX := Lib.hid (show rmR s = (mac0, false) by
      rw [HR.out]
      refine if_neg fun h => hq ?_
      have h2 := HP.out
      rw [h.2] at h2
      cases q1 <;> cases q2 <;> cases q3 <;> simp_all)
    clear HR HP HV bm2 HO2
    have r0 := br.at_ 0 rfl
    have r1 := br.at_ 1 rfl
    have r2 := br.at_ 2 rfl
    have r3 := br.at_ 3 rfl
    have r4 := br.at_ 4 rfl
    have r5 := br.at_ 5 rfl
    have r6 := br.at_ 6 rfl
    have f0 := br.thaw 0
    have f1 := br.thaw 1
    have f2 := br.thaw 2
    have f3 := br.thaw 3
    have f4 := br.thaw 4
    have f5 := br.thaw 5
    have f6 := br.thaw 6
    have hl := br.lt
    cases q1
    rotate_left
    cases q2
    rotate_left
    cases q3
    rotate_left
    cases q4
    rotate_left
    · exact absurd ⟨rfl, rfl, rfl, rfl⟩ hq
    all_goals
      clear hq
      go_wp2
      exact bodyPost_ret (v := .tuple #[.agg #[.int .i64 0, .slice none 0 0, .int .i64 0, .slice none 0 0, .int .i64 0, .slice none 0 0, .int .i64 0], .bool false]) (by simp [results, go_sem, r0, r1, r2, r3, r4, r5, r6]) rfl (macB_err HX.out rfl (by have := HG.out; exact (by repeat (first | with_reducible exact hbel | with_reducible refine Below.setCell ?_ (by first | omega | (simp <;> omega)) _ | with_reducible refine Below.alloc ?_ (by first | omega | (simp <;> omega)) _ | with_reducible refine Below.drew ?_))))
end Go.Proofs.YtlahobdopmdfmaaGreatDoor

/- RmI -/
namespace Go.Proofs.YtlahobdopmdfmaaGreatDoor
open Go.RowKit

/-- The library's variables that reading a machine meets. -/
structure RmDoor (w : World) : Prop where
  rg : RgDoor w
  bell : BellD w
theorem RmDoor.below {w w' : World} (h : RmDoor w) (hb : Below w.heap.size w w') : RmDoor w' := ⟨rgDoor_below h.rg hb, h.bell.below hb⟩
theorem implReadReg_at (s : ByteArray) (w : World) (hs : s.size ≤ 1048576) (hD : RgDoor w) : Calls Tryz.prog 27 #[.string s] w fun e w' => ∃ A C,
    e = .returned (.tuple #[.agg #[.int .i64 (rgR s).1, .slice A (rgR s).2.1.length C], .bool (rgR s).2.2]) ∧ Own 2 w' w.heap.size w'.heap.size (.slice A (rgR s).2.1.length C) (rgR s).2.1 ∧ Below w.heap.size w w' := implReadRegister s w hs hD
theorem cellsOf_get {done : List ByteArray} {N i : Nat} {x : ByteArray} (h : done[i]? = some x) : (Lib.cellsOf done N)[i]? = some (.string x) := by
  have hi : i < done.length := (List.getElem?_eq_some_iff.1 h).1
  unfold Lib.cellsOf
  rw [List.getElem?_toArray, List.getElem?_append_left (by simpa using hi), List.getElem?_map, h]
  rfl
theorem split_at {V : World} {done : List ByteArray} {N i : Nat} {x : ByteArray} {t : TypeId} (h : done[i]? = some x) : (V.alloc (.cells (Lib.cellsOf done N) t)).cell? ⟨V.heap.size, i, none⟩ = some (.string x) :=
  (Bx.new V (Lib.cellsOf done N) t).at_ i (cellsOf_get h)

set_option maxRecDepth 100000 in
set_option maxHeartbeats 8000000 in
theorem implReadMachine (s : ByteArray) (w : World) (hs : s.size ≤ 1048576) (hD : RmDoor w) :
    Calls Tryz.prog 10 #[.string s] w (MacB (rmR s) w) := by
  have R := Tryz.results10
  obtain ⟨g, hg⟩ : ∃ g, g = w.heap.size := ⟨_, rfl⟩
  obtain ⟨u, hu⟩ : ∃ u, u = w.alloc (.cells #[.int .i64 0, .slice none 0 0, .int .i64 0, .slice none 0 0, .int .i64 0, .slice none 0 0, .int .i64 0] 28) := ⟨_, rfl⟩
  have hbel : Below w.heap.size w u := by rw [hu]; exact (by repeat (first | exact Below.refl _ _ | refine Below.setCell ?_ (by first | omega | (simp <;> omega)) _ | refine Below.alloc ?_ (by first | omega | (simp <;> omega)) _ | refine Below.drew ?_))
  have br : Bx u g 28 #[.int .i64 0, .slice none 0 0, .int .i64 0, .slice none 0 0, .int .i64 0, .slice none 0 0, .int .i64 0] := by rw [hu, hg]; exact Bx.new _ _ _
  have hgu : g < u.heap.size := br.lt
  obtain ⟨mx, hmx⟩ := (rgDoor_below hD.rg hbel).max
  have H0 := Tryz.strings_SplitN s ⟨#[32]⟩ 4 mx u (by omega) hmx (by decide) (by decide) (by decide)
  have HR := Lib.hid (rm_tells s)
  have HZ := Lib.hid (splitB_size ⟨#[32]⟩ 0 (min 4 (s.size + 1) - 1) s)
  have hL := Lib.splitB_length_le ⟨#[32]⟩ 0 (min 4 (s.size + 1) - 1) s
  obtain ⟨L, eL⟩ : ∃ L, L = Lib.splitB ⟨#[32]⟩ 0 (min 4 (s.size + 1) - 1) s := ⟨_, rfl⟩
  obtain ⟨N, eN⟩ : ∃ N, N = min 4 (s.size + 1) := ⟨_, rfl⟩
  rw [← eL] at H0 HR HZ hL
  rw [← eN] at H0
  have hN : N ≤ 4 ∧ L.length ≤ 4 := by omega
  clear eL hmx eN hL
  have HG := Lib.hid hg
  have HU := Lib.hid hu
  clear hu
  obtain ⟨q, hq⟩ : ∃ q, q = u.heap.size := ⟨_, rfl⟩
  obtain ⟨u1, hu1⟩ : ∃ u1, u1 = u.alloc (.cells (Lib.cellsOf L N) 9) := ⟨_, rfl⟩
  have hb : Below u.heap.size u u1 := by rw [hu1]; exact (Below.refl _ _).alloc (Nat.le_refl _) _
  have hat : ∀ i x, L[i]? = some x → u1.cell? ⟨q, i, none⟩ = some (.string x) := fun i x h => by rw [hu1, hq]; exact split_at h
  rw [← hu1, ← hq] at H0
  replace br := br.below hb
  have hy0 := hb.size
  replace hbel := hbel.trans (hb.mono hbel.size)
  clear hb
  clear hu1 hq
  by_cases h4 : L.length = 4
  rotate_left
  · have HN := Lib.hid (HR.out.trans (rmL_len h4))
    have h4' : ¬ ((L.length : Int) = 4) := by omega
    clear HR HZ h4 hat
    go_enter Tryz.func10, Tryz.ntmps10
    go_wp2_with fail
    rw [← HU.out, ← hg]
    clear hg
    refine H0.mono ?_
    rintro e w1 ⟨rfl, rfl⟩
    clear H0
    have r0 := br.at_ 0 rfl
    have r1 := br.at_ 1 rfl
    have r2 := br.at_ 2 rfl
    have r3 := br.at_ 3 rfl
    have r4 := br.at_ 4 rfl
    have r5 := br.at_ 5 rfl
    have r6 := br.at_ 6 rfl
    have f0 := br.thaw 0
    have f1 := br.thaw 1
    have f2 := br.thaw 2
    have f3 := br.thaw 3
    have f4 := br.thaw 4
    have f5 := br.thaw 5
    have f6 := br.thaw 6
    have hl := br.lt
    go_wp2
    exact bodyPost_ret (v := .tuple #[.agg #[.int .i64 0, .slice none 0 0, .int .i64 0, .slice none 0 0, .int .i64 0, .slice none 0 0, .int .i64 0], .bool false]) (by simp [results, go_sem, r0, r1, r2, r3, r4, r5, r6]) rfl (macB_err HN.out rfl (by have := HG.out; exact (by repeat (first | with_reducible exact hbel | with_reducible refine Below.setCell ?_ (by first | omega | (simp <;> omega)) _ | with_reducible refine Below.alloc ?_ (by first | omega | (simp <;> omega)) _ | with_reducible refine Below.drew ?_))))
  obtain ⟨p1, p2, p3, p4, rfl⟩ := rmL_four h4
  have hz1 := HZ.out p1 (by simp)
  have hz2 := HZ.out p2 (by simp)
  have hz3 := HZ.out p3 (by simp)
  have hz4 := HZ.out p4 (by simp)
  have t0 := hat 0 p1 rfl
  have t1 := hat 1 p2 rfl
  have t2 := hat 2 p3 rfl
  have t3 := hat 3 p4 rfl
  have HN1 := Lib.hid (fun v (hb : Below w.heap.size w v) => implReadReg_at p1 v (by omega) (rgDoor_below hD.rg hb))
  have HN2 := Lib.hid (fun v (hb : Below w.heap.size w v) => implReadReg_at p2 v (by omega) (rgDoor_below hD.rg hb))
  have HN3 := Lib.hid (fun v (hb : Below w.heap.size w v) => implReadReg_at p3 v (by omega) (rgDoor_below hD.rg hb))
  have HN4 := Lib.hid (fun v (hb : Below w.heap.size w v) => implReadDecimal p4 v (by omega) (rgDoor_below hD.rg hb).rd)
  have HM := Lib.hid (show partM p1 p2 p3 p4 = ⟨(rgR p1).1, (rgR p1).2.1, (rgR p2).1, (rgR p2).2.1, (rgR p3).1, (rgR p3).2.1, (rdR p4).1⟩ from rfl)
  replace HR := Lib.hid (show rmR s = if (rdR p4).2 = true ∧ macB (partM p1 p2 p3 p4) = true then (partM p1 p2 p3 p4, true) else (mac0, false) from HR.out)
  have HW := Lib.hid (show (All64 (rgR p1).2.1 ∧ All64 (rgR p2).2.1 ∧ All64 (rgR p3).2.1) ∧ (I64 (rgR p1).1 ∧ I64 (rgR p2).1 ∧ I64 (rgR p3).1 ∧ I64 (rdR p4).1) from
    ⟨⟨(rgR_64 p1).2, (rgR_64 p2).2, (rgR_64 p3).2⟩, (rgR_64 p1).1, (rgR_64 p2).1, (rgR_64 p3).1, rdR_64 p4⟩)
  obtain ⟨B1, Z1, q1, e1⟩ : ∃ B Z q, rgR p1 = (B, Z, q) := ⟨_, _, _, rfl⟩
  obtain ⟨B2, Z2, q2, e2⟩ : ∃ B Z q, rgR p2 = (B, Z, q) := ⟨_, _, _, rfl⟩
  obtain ⟨B3, Z3, q3, e3⟩ : ∃ B Z q, rgR p3 = (B, Z, q) := ⟨_, _, _, rfl⟩
  obtain ⟨P, q4, e4⟩ : ∃ B q, rdR p4 = (B, q) := ⟨_, _, rfl⟩
  obtain ⟨m, hm⟩ : ∃ m, m = partM p1 p2 p3 p4 := ⟨_, rfl⟩
  rw [← hm] at HM HR
  rw [e1] at HN1 HM HW
  rw [e2] at HN2 HM HW
  rw [e3] at HN3 HM HW
  rw [e4] at HN4 HR HM HW
  clear e1 e2 e3 e4 hm HZ hz1 hz2 hz3 hz4 hat h4
  cases q4 with
  | false =>
    have HX := Lib.hid (show rmR s = (mac0, false) by rw [HR.out]; simp)
    clear HN1 HN2 HN3 HM HW HR t0 t1 t2
    go_enter Tryz.func10, Tryz.ntmps10
    go_wp2_with fail
    rw [← HU.out, ← hg]
    clear hg
    refine H0.mono ?_
    rintro e w1 ⟨rfl, rfl⟩
    clear H0
    go_wp2_with fail
    refine (HN4.out _ hbel).mono ?_
    rintro e w2 ⟨rfl, hb⟩
    replace br := br.below hb
    replace hbel := hbel.trans (hb.mono hbel.size)
    clear hb
    clear t3
    have r0 := br.at_ 0 rfl
    have r1 := br.at_ 1 rfl
    have r2 := br.at_ 2 rfl
    have r3 := br.at_ 3 rfl
    have r4 := br.at_ 4 rfl
    have r5 := br.at_ 5 rfl
    have r6 := br.at_ 6 rfl
    have f0 := br.thaw 0
    have f1 := br.thaw 1
    have f2 := br.thaw 2
    have f3 := br.thaw 3
    have f4 := br.thaw 4
    have f5 := br.thaw 5
    have f6 := br.thaw 6
    have hl := br.lt
    go_wp2
    exact bodyPost_ret (v := .tuple #[.agg #[.int .i64 0, .slice none 0 0, .int .i64 0, .slice none 0 0, .int .i64 0, .slice none 0 0, .int .i64 0], .bool false]) (by simp [results, go_sem, r0, r1, r2, r3, r4, r5, r6]) rfl (macB_err HX.out rfl (by have := HG.out; exact (by repeat (first | with_reducible exact hbel | with_reducible refine Below.setCell ?_ (by first | omega | (simp <;> omega)) _ | with_reducible refine Below.alloc ?_ (by first | omega | (simp <;> omega)) _ | with_reducible refine Below.drew ?_))))
  | true =>
  replace HR := Lib.hid (show rmR s = if macB m = true then (m, true) else (mac0, false) by rw [HR.out]; simp)
  go_enter Tryz.func10, Tryz.ntmps10
  go_wp2_with fail
  rw [← HU.out, ← hg]
  clear hg
  refine H0.mono ?_
  rintro e w1 ⟨rfl, hw1⟩
  subst w1
  clear H0
  go_wp2_with fail
  refine (HN4.out _ hbel).mono ?_
  rintro e w2 ⟨rfl, hb⟩
  replace t0 := kept hb t0
  replace t1 := kept hb t1
  replace t2 := kept hb t2
  replace br := br.below hb
  have hy1 := hb.size
  replace hbel := hbel.trans (hb.mono hbel.size)
  clear hb
  clear t3
  go_upto_region 8 with fail
  obtain ⟨k, hk⟩ : ∃ g, g = w2.heap.size := ⟨_, rfl⟩
  obtain ⟨V0, hV⟩ : ∃ V, V = w2.alloc (.cells #[.int .i64 0, .slice none 0 0, .int .i64 0, .slice none 0 0, .int .i64 0, .slice none 0 0, .int .i64 P] 28) := ⟨_, rfl⟩
  try rw [← hk, ← hV]
  have bm : Bx V0 k 28 #[.int .i64 0, .slice none 0 0, .int .i64 0, .slice none 0 0, .int .i64 0, .slice none 0 0, .int .i64 P] := by rw [hV, hk]; exact Bx.new _ _ _
  have hb : Below w2.heap.size w2 V0 := by rw [hV]; exact (Below.refl _ _).alloc (Nat.le_refl _) _
  have hku : k < V0.heap.size := bm.lt
  have hgk : g < k := by rw [hk]; exact br.lt
  have hwk : w.heap.size ≤ k := by rw [hk]; exact hbel.size
  have hqk : q < k := by rw [hk]; exact World.block_lt_of_cell? _ _ t0
  replace t0 := kept hb t0
  replace t1 := kept hb t1
  replace t2 := kept hb t2
  replace br := br.below hb
  replace hbel := hbel.trans (hb.mono hbel.size)
  clear hb
  clear hV hk hN hy0 hy1 hgu
  go_wp2_with fail
  refine (HN1.out V0 hbel).mono ?_
  rintro e x1 ⟨A1, C1, rfl, own1, hb⟩
  replace t1 := kept hb t1
  replace t2 := kept hb t2
  replace br := br.below hb
  replace bm := bm.below hb
  have hz1 := hb.size
  replace hbel := hbel.trans (hb.mono hbel.size)
  clear hb
  clear t0
  have c0 := bm.at_ 0 rfl
  have c1 := bm.at_ 1 rfl
  have f0 := bm.thaw 0
  have f1 := bm.thaw 1
  go_upto_region 9 with fail
  obtain ⟨V1, hV⟩ : ∃ V, V = (x1.setCell ⟨k, 0, none⟩ (.int .i64 B1)).setCell ⟨k, 1, none⟩ (.slice A1 Z1.length C1) := ⟨_, rfl⟩
  try rw [← hV]
  replace own1 : Own 2 V1 V0.heap.size x1.heap.size (.slice A1 Z1.length C1) Z1 := by rw [hV]; exact (own1.setCell (.inl (by simp; omega)) _).setCell (.inl (by simp; omega)) _
  replace br : Bx V1 g 28 #[.int .i64 0, .slice none 0 0, .int .i64 0, .slice none 0 0, .int .i64 0, .slice none 0 0, .int .i64 0] := by rw [hV]; exact (br.far (by simp; omega) _).far (by simp; omega) _
  replace bm : Bx V1 k 28 #[.int .i64 B1, .slice A1 Z1.length C1, .int .i64 0, .slice none 0 0, .int .i64 0, .slice none 0 0, .int .i64 P] := by rw [hV]; exact (bm.set_ 0 _).set_ 1 _
  replace hbel : Below w.heap.size w V1 := by rw [hV]; have := HG.out; exact (by repeat (first | with_reducible exact hbel | with_reducible refine Below.setCell ?_ (by first | omega | (simp <;> omega)) _ | with_reducible refine Below.alloc ?_ (by first | omega | (simp <;> omega)) _ | with_reducible refine Below.drew ?_))
  have hy1 : V1.heap.size = x1.heap.size := by rw [hV]; simp
  replace t1 : V1.cell? ⟨q, 1, none⟩ = some (.string p2) := by rw [hV]; exact keptT (((Touch.refl k (k + 1) x1).setCell (Nat.le_refl _) (Nat.lt_succ_self _) (.int .i64 B1)).setCell (Nat.le_refl _) (Nat.lt_succ_self _) (.slice A1 Z1.length C1)) t1 (.inl hqk)
  replace t2 : V1.cell? ⟨q, 2, none⟩ = some (.string p3) := by rw [hV]; exact keptT (((Touch.refl k (k + 1) x1).setCell (Nat.le_refl _) (Nat.lt_succ_self _) (.int .i64 B1)).setCell (Nat.le_refl _) (Nat.lt_succ_self _) (.slice A1 Z1.length C1)) t2 (.inl hqk)
  clear hV c0 c1 f0 f1
  go_wp2_with fail
  refine (HN2.out V1 hbel).mono ?_
  rintro e x2 ⟨A2, C2, rfl, own2, hb⟩
  replace t2 := kept hb t2
  replace br := br.below hb
  replace bm := bm.below hb
  replace own1 := own1.below hb
  have hz2 := hb.size
  replace hbel := hbel.trans (hb.mono hbel.size)
  clear hb
  clear t1
  have c0 := bm.at_ 2 rfl
  have c1 := bm.at_ 3 rfl
  have f0 := bm.thaw 2
  have f1 := bm.thaw 3
  go_upto_region 10 with fail
  obtain ⟨V2, hV⟩ : ∃ V, V = (x2.setCell ⟨k, 2, none⟩ (.int .i64 B2)).setCell ⟨k, 3, none⟩ (.slice A2 Z2.length C2) := ⟨_, rfl⟩
  try rw [← hV]
  replace own1 : Own 2 V2 V0.heap.size x1.heap.size (.slice A1 Z1.length C1) Z1 := by rw [hV]; exact (own1.setCell (.inl (by simp; omega)) _).setCell (.inl (by simp; omega)) _
  replace own2 : Own 2 V2 V1.heap.size x2.heap.size (.slice A2 Z2.length C2) Z2 := by rw [hV]; exact (own2.setCell (.inl (by simp; omega)) _).setCell (.inl (by simp; omega)) _
  replace br : Bx V2 g 28 #[.int .i64 0, .slice none 0 0, .int .i64 0, .slice none 0 0, .int .i64 0, .slice none 0 0, .int .i64 0] := by rw [hV]; exact (br.far (by simp; omega) _).far (by simp; omega) _
  replace bm : Bx V2 k 28 #[.int .i64 B1, .slice A1 Z1.length C1, .int .i64 B2, .slice A2 Z2.length C2, .int .i64 0, .slice none 0 0, .int .i64 P] := by rw [hV]; exact (bm.set_ 2 _).set_ 3 _
  replace hbel : Below w.heap.size w V2 := by rw [hV]; have := HG.out; exact (by repeat (first | with_reducible exact hbel | with_reducible refine Below.setCell ?_ (by first | omega | (simp <;> omega)) _ | with_reducible refine Below.alloc ?_ (by first | omega | (simp <;> omega)) _ | with_reducible refine Below.drew ?_))
  have hy2 : V2.heap.size = x2.heap.size := by rw [hV]; simp
  replace t2 : V2.cell? ⟨q, 2, none⟩ = some (.string p3) := by rw [hV]; exact keptT (((Touch.refl k (k + 1) x2).setCell (Nat.le_refl _) (Nat.lt_succ_self _) (.int .i64 B2)).setCell (Nat.le_refl _) (Nat.lt_succ_self _) (.slice A2 Z2.length C2)) t2 (.inl hqk)
  clear hV c0 c1 f0 f1
  go_wp2_with fail
  refine (HN3.out V2 hbel).mono ?_
  rintro e x3 ⟨A3, C3, rfl, own3, hb⟩
  replace br := br.below hb
  replace bm := bm.below hb
  replace own1 := own1.below hb
  replace own2 := own2.below hb
  have hz3 := hb.size
  replace hbel := hbel.trans (hb.mono hbel.size)
  clear hb
  clear t2
  have c0 := bm.at_ 4 rfl
  have c1 := bm.at_ 5 rfl
  have f0 := bm.thaw 4
  have f1 := bm.thaw 5
  go_upto_region 11 with fail
  obtain ⟨V3, hV⟩ : ∃ V, V = (x3.setCell ⟨k, 4, none⟩ (.int .i64 B3)).setCell ⟨k, 5, none⟩ (.slice A3 Z3.length C3) := ⟨_, rfl⟩
  try rw [← hV]
  replace own1 : Own 2 V3 V0.heap.size x1.heap.size (.slice A1 Z1.length C1) Z1 := by rw [hV]; exact (own1.setCell (.inl (by simp; omega)) _).setCell (.inl (by simp; omega)) _
  replace own2 : Own 2 V3 V1.heap.size x2.heap.size (.slice A2 Z2.length C2) Z2 := by rw [hV]; exact (own2.setCell (.inl (by simp; omega)) _).setCell (.inl (by simp; omega)) _
  replace own3 : Own 2 V3 V2.heap.size x3.heap.size (.slice A3 Z3.length C3) Z3 := by rw [hV]; exact (own3.setCell (.inl (by simp; omega)) _).setCell (.inl (by simp; omega)) _
  replace br : Bx V3 g 28 #[.int .i64 0, .slice none 0 0, .int .i64 0, .slice none 0 0, .int .i64 0, .slice none 0 0, .int .i64 0] := by rw [hV]; exact (br.far (by simp; omega) _).far (by simp; omega) _
  replace bm : Bx V3 k 28 #[.int .i64 B1, .slice A1 Z1.length C1, .int .i64 B2, .slice A2 Z2.length C2, .int .i64 B3, .slice A3 Z3.length C3, .int .i64 P] := by rw [hV]; exact (bm.set_ 4 _).set_ 5 _
  replace hbel : Below w.heap.size w V3 := by rw [hV]; have := HG.out; exact (by repeat (first | with_reducible exact hbel | with_reducible refine Below.setCell ?_ (by first | omega | (simp <;> omega)) _ | with_reducible refine Below.alloc ?_ (by first | omega | (simp <;> omega)) _ | with_reducible refine Below.drew ?_))
  have hy3 : V3.heap.size = x3.heap.size := by rw [hV]; simp
  clear hV c0 c1 f0 f1
  have HO : Hid (Own3 2 V3 V0.heap.size x3.heap.size (.slice A1 m.z1.length C1) m.z1 (.slice A2 m.z2.length C2) m.z2 (.slice A3 m.z3.length C3) m.z3) := Lib.hid (by
    rw [HM.out]
    exact ⟨_, _, _, _, _, _, own1, own2, own3, by omega⟩)
  have bm2 : Bx V3 k 28 #[.int .i64 m.b1, .slice A1 m.z1.length C1, .int .i64 m.b2, .slice A2 m.z2.length C2, .int .i64 m.b3, .slice A3 m.z3.length C3, .int .i64 m.p] := by rw [HM.out]; exact bm
  have n0 := HM.out
  obtain ⟨rfl, rfl, rfl, rfl, rfl, rfl, rfl⟩ : m.b1 = B1 ∧ m.z1 = Z1 ∧ m.b2 = B2 ∧ m.z2 = Z2 ∧ m.b3 = B3 ∧ m.z3 = Z3 ∧ m.p = P := by rw [n0]; exact ⟨rfl, rfl, rfl, rfl, rfl, rfl, rfl⟩
  have HV := Lib.hid (implValidMachine m A1 C1 A2 C2 A3 C3 V3 HO.out.rd HW.out.1 HW.out.2 (hD.bell.below hbel))
  have HS := Lib.hid (show w.heap.size ≤ V0.heap.size ∧ x3.heap.size ≤ V3.heap.size ∧ g < V0.heap.size by omega)
  clear own1 own2 own3 bm n0 HM HW hz1 hz2 hz3 hy1 hy2 hy3 hD HN1 HN2 HN3 HN4
  have c0 := bm2.at_ 0 rfl
  have c1 := bm2.at_ 1 rfl
  have c2 := bm2.at_ 2 rfl
  have c3 := bm2.at_ 3 rfl
  have c4 := bm2.at_ 4 rfl
  have c5 := bm2.at_ 5 rfl
  have c6 := bm2.at_ 6 rfl
  cases hv : macB m with
  | false =>
    have HX := Lib.hid (show rmR s = (mac0, false) by rw [HR.out, hv]; rfl)
    rw [hv] at HV
    clear hv HR
    go_wp2_with fail
    refine HV.out.mono ?_
    rintro e w4 ⟨rfl, hb⟩
    replace br := br.below hb
    replace hbel := hbel.trans (hb.mono hbel.size)
    clear hb c0 c1 c2 c3 c4 c5 c6
    have r0 := br.at_ 0 rfl
    have r1 := br.at_ 1 rfl
    have r2 := br.at_ 2 rfl
    have r3 := br.at_ 3 rfl
    have r4 := br.at_ 4 rfl
    have r5 := br.at_ 5 rfl
    have r6 := br.at_ 6 rfl
    have f0 := br.thaw 0
    have f1 := br.thaw 1
    have f2 := br.thaw 2
    have f3 := br.thaw 3
    have f4 := br.thaw 4
    have f5 := br.thaw 5
    have f6 := br.thaw 6
    have hl := br.lt
    go_wp2
    exact bodyPost_ret (v := .tuple #[.agg #[.int .i64 0, .slice none 0 0, .int .i64 0, .slice none 0 0, .int .i64 0, .slice none 0 0, .int .i64 0], .bool false]) (by simp [results, go_sem, r0, r1, r2, r3, r4, r5, r6]) rfl (macB_err HX.out rfl (by have := HG.out; exact (by repeat (first | with_reducible exact hbel | with_reducible refine Below.setCell ?_ (by first | omega | (simp <;> omega)) _ | with_reducible refine Below.alloc ?_ (by first | omega | (simp <;> omega)) _ | with_reducible refine Below.drew ?_))))
  | true =>
    have HX := Lib.hid (show rmR s = (m, true) by rw [HR.out, hv]; rfl)
    rw [hv] at HV
    clear hv HR
    go_wp2_with fail
    refine HV.out.mono ?_
    rintro e w4 ⟨rfl, hb⟩
    replace br := br.below hb
    replace bm2 := bm2.below hb
    replace hbel := hbel.trans (hb.mono hbel.size)
    have HO2 := Lib.hid (HO.out.below hb)
    have HZ := Lib.hid hb.size
    clear hb c0 c1 c2 c3 c4 c5 c6
    have c0 := bm2.at_ 0 rfl
    have c1 := bm2.at_ 1 rfl
    have c2 := bm2.at_ 2 rfl
    have c3 := bm2.at_ 3 rfl
    have c4 := bm2.at_ 4 rfl
    have c5 := bm2.at_ 5 rfl
    have c6 := bm2.at_ 6 rfl
    have j0 := br.at_ 0 rfl
    have j1 := br.at_ 1 rfl
    have j2 := br.at_ 2 rfl
    have j3 := br.at_ 3 rfl
    have j4 := br.at_ 4 rfl
    have j5 := br.at_ 5 rfl
    have j6 := br.at_ 6 rfl
    have f0 := br.thaw 0
    have f1 := br.thaw 1
    have f2 := br.thaw 2
    have f3 := br.thaw 3
    have f4 := br.thaw 4
    have f5 := br.thaw 5
    have f6 := br.thaw 6
    have hl := br.lt
    have bz : Bx (((((((w4.setCell ⟨g, 0, none⟩ (.int .i64 m.b1)).setCell ⟨g, 1, none⟩ (.slice A1 m.z1.length C1)).setCell ⟨g, 2, none⟩ (.int .i64 m.b2)).setCell ⟨g, 3, none⟩ (.slice A2 m.z2.length C2)).setCell ⟨g, 4, none⟩ (.int .i64 m.b3)).setCell ⟨g, 5, none⟩ (.slice A3 m.z3.length C3)).setCell ⟨g, 6, none⟩ (.int .i64 m.p)) (g) 28 #[.int .i64 m.b1, .slice A1 m.z1.length C1, .int .i64 m.b2, .slice A2 m.z2.length C2, .int .i64 m.b3, .slice A3 m.z3.length C3, .int .i64 m.p] := bx_put7 br
    have r0 := bz.at_ 0 rfl
    have r1 := bz.at_ 1 rfl
    have r2 := bz.at_ 2 rfl
    have r3 := bz.at_ 3 rfl
    have r4 := bz.at_ 4 rfl
    have r5 := bz.at_ 5 rfl
    have r6 := bz.at_ 6 rfl
    clear bz
    go_wp2
    exact bodyPost_ret (v := .tuple #[.agg #[.int .i64 m.b1, .slice A1 m.z1.length C1, .int .i64 m.b2, .slice A2 m.z2.length C2, .int .i64 m.b3, .slice A3 m.z3.length C3, .int .i64 m.p], .bool true]) (by simp [results, go_sem, r0, r1, r2, r3, r4, r5, r6]) rfl
      (macB_ok HX.out rfl (((((((HO2.out.setCell (p := ⟨g, 0, none⟩) (.inl HS.out.2.2) _).setCell (p := ⟨g, 1, none⟩) (.inl HS.out.2.2) _).setCell (p := ⟨g, 2, none⟩) (.inl HS.out.2.2) _).setCell (p := ⟨g, 3, none⟩) (.inl HS.out.2.2) _).setCell (p := ⟨g, 4, none⟩) (.inl HS.out.2.2) _).setCell (p := ⟨g, 5, none⟩) (.inl HS.out.2.2) _).setCell (p := ⟨g, 6, none⟩) (.inl HS.out.2.2) _) HS.out.1 (by have := HS.out; have := HZ.out; simp; omega) (by have := HG.out; exact (by repeat (first | with_reducible exact hbel | with_reducible refine Below.setCell ?_ (by first | omega | (simp <;> omega)) _ | with_reducible refine Below.alloc ?_ (by first | omega | (simp <;> omega)) _ | with_reducible refine Below.drew ?_))))
end Go.Proofs.YtlahobdopmdfmaaGreatDoor

/- SamN -/
namespace Go.Proofs.YtlahobdopmdfmaaGreatDoor
open Go.RowKit Go.BigFrame

theorem macEqB_parts {m n : Mac} {a b c d : Bool} (h1 : regEqB m.b1 n.b1 m.z1 n.z1 = a) (h2 : regEqB m.b2 n.b2 m.z2 n.z2 = b) (h3 : regEqB m.b3 n.b3 m.z3 n.z3 = c) (h4 : decide (m.p = n.p) = d) : macEqB m n = (a && (b && (c && d))) := by
  rw [macEqB, h1, h2, h3, h4]

set_option maxHeartbeats 4000000 in
set_option maxRecDepth 100000 in
theorem l10Same_any (p q : Nat) (m n : Mac) (A1 : Option Addr) (C1 : Nat) (A2 : Option Addr) (C2 : Nat) (A3 : Option Addr) (C3 : Nat) (D1 : Option Addr) (E1 : Nat) (D2 : Option Addr) (E2 : Nat) (D3 : Option Addr) (E3 : Nat) (w : World) (h : Rd3 w A1 m.z1 A2 m.z2 A3 m.z3) (k : Rd3 w D1 n.z1 D2 n.z2 D3 n.z3) (bp : Bx w p 28 #[.int .i64 m.b1, .slice A1 m.z1.length C1, .int .i64 m.b2, .slice A2 m.z2.length C2, .int .i64 m.b3, .slice A3 m.z3.length C3, .int .i64 m.p]) (bq : Bx w q 28 #[.int .i64 n.b1, .slice D1 n.z1.length E1, .int .i64 n.b2, .slice D2 n.z2.length E2, .int .i64 n.b3, .slice D3 n.z3.length E3, .int .i64 n.p]) :
    Calls Tryz.prog 33 #[.pointer (some ⟨p, 0, none⟩), .pointer (some ⟨q, 0, none⟩)] w fun e w' => e = .returned (.bool (macEqB m n)) ∧ Below w.heap.size w w' := by
  obtain ⟨a, h1⟩ : ∃ a, regEqB m.b1 n.b1 m.z1 n.z1 = a := ⟨_, rfl⟩
  obtain ⟨b, h2⟩ : ∃ a, regEqB m.b2 n.b2 m.z2 n.z2 = a := ⟨_, rfl⟩
  obtain ⟨c, h3⟩ : ∃ a, regEqB m.b3 n.b3 m.z3 n.z3 = a := ⟨_, rfl⟩
  obtain ⟨d, h4⟩ : ∃ a, decide (m.p = n.p) = a := ⟨_, rfl⟩
  have h5 : (m.p == n.p) = d := by rw [← h4]; rfl
  have HE := Lib.hid (macEqB_parts h1 h2 h3 h4)
  have H1 : Hid (∀ v, Below w.heap.size w v → Calls Tryz.prog 73 #[.pointer (some ⟨p, 0, none⟩), .pointer (some ⟨q, 0, none⟩)] v fun e w' => e = .returned (.bool a) ∧ Below v.heap.size v w') :=
    Lib.hid fun v hb => l02Same_atO p 0 q 0 m.b1 n.b1 A1 D1 C1 E1 m.z1 n.z1 v h1 (h.x.below hb) (k.x.below hb) ((bp.below hb).at_ 0 rfl) ((bp.below hb).at_ 1 rfl) ((bq.below hb).at_ 0 rfl) ((bq.below hb).at_ 1 rfl)
  have H2 : Hid (∀ v, Below w.heap.size w v → Calls Tryz.prog 73 #[.pointer (some ⟨p, 2, none⟩), .pointer (some ⟨q, 2, none⟩)] v fun e w' => e = .returned (.bool b) ∧ Below v.heap.size v w') :=
    Lib.hid fun v hb => l02Same_atO p 2 q 2 m.b2 n.b2 A2 D2 C2 E2 m.z2 n.z2 v h2 (h.y.below hb) (k.y.below hb) ((bp.below hb).at_ 2 rfl) ((bp.below hb).at_ 3 rfl) ((bq.below hb).at_ 2 rfl) ((bq.below hb).at_ 3 rfl)
  have H3 : Hid (∀ v, Below w.heap.size w v → Calls Tryz.prog 73 #[.pointer (some ⟨p, 4, none⟩), .pointer (some ⟨q, 4, none⟩)] v fun e w' => e = .returned (.bool c) ∧ Below v.heap.size v w') :=
    Lib.hid fun v hb => l02Same_atO p 4 q 4 m.b3 n.b3 A3 D3 C3 E3 m.z3 n.z3 v h3 (h.z.below hb) (k.z.below hb) ((bp.below hb).at_ 4 rfl) ((bp.below hb).at_ 5 rfl) ((bq.below hb).at_ 4 rfl) ((bq.below hb).at_ 5 rfl)
  have p6 := kept_after (bp.at_ 6 rfl)
  have q6 := kept_after (bq.at_ 6 rfl)
  clear h k bp bq h1 h2 h3 h4
  rw [HE.out]
  cases a
  rotate_left
  cases b
  rotate_left
  cases c
  all_goals
    go_enter Tryz.func33, Tryz.ntmps33
    go_wp2_with fail
    refine wp_region_after (by kernel_rfl) (by kernel_rfl) ?_
    repeat (go_big_quiet_step ((go_at_call 73; first | with_reducible exact calls_after (H1.out _ (After.ok _)) | with_reducible exact calls_after (H2.out _ (After.ok _)) | with_reducible exact calls_after (H3.out _ (After.ok _)))))
    refine wpQuiet_nil ?_
    intro u
    go_wp2
    go_ret
    exact ⟨rfl, u.ok⟩

theorem specSameMachine (m : Mac) (A1 : Option Addr) (C1 : Nat) (A2 : Option Addr) (C2 : Nat) (A3 : Option Addr) (C3 : Nat) (n : Mac) (D1 : Option Addr) (E1 : Nat) (D2 : Option Addr) (E2 : Nat) (D3 : Option Addr) (E3 : Nat) (w : World) (h : Rd3 w A1 m.z1 A2 m.z2 A3 m.z3) (_ : All64 m.z1 ∧ All64 m.z2 ∧ All64 m.z3) (_ : I64 m.b1 ∧ I64 m.b2 ∧ I64 m.b3 ∧ I64 m.p) (k : Rd3 w D1 n.z1 D2 n.z2 D3 n.z3) (_ : All64 n.z1 ∧ All64 n.z2 ∧ All64 n.z3) (_ : I64 n.b1 ∧ I64 n.b2 ∧ I64 n.b3 ∧ I64 n.p) :
    Calls Tryz.prog 13 #[.agg #[.int .i64 m.b1, .slice A1 m.z1.length C1, .int .i64 m.b2, .slice A2 m.z2.length C2, .int .i64 m.b3, .slice A3 m.z3.length C3, .int .i64 m.p], .agg #[.int .i64 n.b1, .slice D1 n.z1.length E1, .int .i64 n.b2, .slice D2 n.z2.length E2, .int .i64 n.b3, .slice D3 n.z3.length E3, .int .i64 n.p]] w fun e w' => e = .returned (.bool (macEqB m n)) ∧ Below w.heap.size w w' := by
  obtain ⟨u, hu⟩ : ∃ u, u = (w.alloc (.cells #[.int .i64 m.b1, .slice A1 m.z1.length C1, .int .i64 m.b2, .slice A2 m.z2.length C2, .int .i64 m.b3, .slice A3 m.z3.length C3, .int .i64 m.p] 28)).alloc (.cells #[.int .i64 n.b1, .slice D1 n.z1.length E1, .int .i64 n.b2, .slice D2 n.z2.length E2, .int .i64 n.b3, .slice D3 n.z3.length E3, .int .i64 n.p] 28) := ⟨_, rfl⟩
  have bx : Bx u w.heap.size 28 #[.int .i64 m.b1, .slice A1 m.z1.length C1, .int .i64 m.b2, .slice A2 m.z2.length C2, .int .i64 m.b3, .slice A3 m.z3.length C3, .int .i64 m.p] := by rw [hu]; exact (Bx.new _ _ _).alloc _
  have by_ : Bx u (w.heap.size + 1) 28 #[.int .i64 n.b1, .slice D1 n.z1.length E1, .int .i64 n.b2, .slice D2 n.z2.length E2, .int .i64 n.b3, .slice D3 n.z3.length E3, .int .i64 n.p] := by rw [hu]; simpa using Bx.new (w.alloc (.cells #[.int .i64 m.b1, .slice A1 m.z1.length C1, .int .i64 m.b2, .slice A2 m.z2.length C2, .int .i64 m.b3, .slice A3 m.z3.length C3, .int .i64 m.p] 28)) #[.int .i64 n.b1, .slice D1 n.z1.length E1, .int .i64 n.b2, .slice D2 n.z2.length E2, .int .i64 n.b3, .slice D3 n.z3.length E3, .int .i64 n.p] 28
  have hbel : Below w.heap.size w u := by rw [hu]; exact (by repeat (first | exact Below.refl _ _ | refine Below.setCell ?_ (by first | omega | (simp <;> omega)) _ | refine Below.alloc ?_ (by first | omega | (simp <;> omega)) _ | refine Below.drew ?_))
  have HU := Lib.hid hu
  clear hu
  go_enter Tryz.func13, Tryz.ntmps13
  go_wp2_with fail
  rw [← HU.out]
  refine (l10Same_any _ _ m n A1 C1 A2 C2 A3 C3 D1 E1 D2 E2 D3 E3 u (h.below hbel) (k.below hbel) bx by_).mono ?_
  rintro e w1 ⟨rfl, hb⟩
  go_wp2
  go_ret
  exact ⟨rfl, hbel.trans (hb.mono hbel.size)⟩
end Go.Proofs.YtlahobdopmdfmaaGreatDoor

/- StbN -/
namespace Go.Proofs.YtlahobdopmdfmaaGreatDoor
open Go.RowKit

set_option maxHeartbeats 1000000 in
theorem implStrokeBack (k : Int) (w : World) (_ : I64 k) :
    Calls Tryz.prog 9 #[.int .i64 k] w fun e w' => e = .returned (.tuple #[.int .i64 (sbR k).1, .int .i64 (sbR k).2]) ∧ Below w.heap.size w w' := by
  have R := Tryz.results9
  rcases (show k = 1 ∨ k = 2 ∨ k = 3 ∨ k = 4 ∨ k = 5 ∨ k = 6 ∨ (k ≠ 1 ∧ k ≠ 2 ∧ k ≠ 3 ∧ k ≠ 4 ∧ k ≠ 5 ∧ k ≠ 6) by omega) with h | h | h | h | h | h | ⟨h1, h2, h3, h4, h5, h6⟩
  all_goals
    first
    | (subst h
       go_enter Tryz.func9, Tryz.ntmps9
       go_wp2
       first
       | exact bodyPost_ret (v := .tuple #[.int .i64 2, .int .i64 0]) (by simp [results, go_sem]) rfl ⟨rfl, Below.refl _ _⟩
       | exact bodyPost_ret (v := .tuple #[.int .i64 1, .int .i64 0]) (by simp [results, go_sem]) rfl ⟨rfl, Below.refl _ _⟩
       | exact bodyPost_ret (v := .tuple #[.int .i64 4, .int .i64 0]) (by simp [results, go_sem]) rfl ⟨rfl, Below.refl _ _⟩
       | exact bodyPost_ret (v := .tuple #[.int .i64 3, .int .i64 0]) (by simp [results, go_sem]) rfl ⟨rfl, Below.refl _ _⟩
       | exact bodyPost_ret (v := .tuple #[.int .i64 0, .int .i64 3]) (by simp [results, go_sem]) rfl ⟨rfl, Below.refl _ _⟩)
    | (have HR := Lib.hid (show sbR k = (0, 2) by simp [sbR, h1, h2, h3, h4, h5, h6])
       have e1 : (k == 1) = false := by simp [h1]
       have e2 : (k == 2) = false := by simp [h2]
       have e3 : (k == 3) = false := by simp [h3]
       have e4 : (k == 4) = false := by simp [h4]
       have e5 : (k == 5) = false := by simp [h5]
       have e6 : (k == 6) = false := by simp [h6]
       clear h1 h2 h3 h4 h5 h6
       go_enter Tryz.func9, Tryz.ntmps9
       go_wp2
       exact bodyPost_ret (v := .tuple #[.int .i64 0, .int .i64 2]) (by simp [results, go_sem]) rfl ⟨by rw [HR.out], Below.refl _ _⟩)

end Go.Proofs.YtlahobdopmdfmaaGreatDoor

/- Bytes -/
namespace Go.Proofs.YtlahobdopmdfmaaGreatDoor
open Go.ChangeShapes Go.WideShapes Go.ChangeAt Go.RowKit Go.Joins
open Go.ChangeMaps (open_string shut_string)

/-- Bytes that came in: of whatever length. -/
structure RawU (w : World) (a : Option Addr) (zs : List Int) : Prop where
  len : zs.length ≤ 9223372036854775807
  le : ∀ i, 0 ≤ nth zs i ∧ nth zs i ≤ 255
  cells : zs ≠ [] → ∃ b off, a = some ⟨b, off, none⟩ ∧ ∀ i, i < zs.length → w.cell? ⟨b, off + i, none⟩ = some (.int .u8 (nth zs i))
theorem RawU.rd {w : World} {a : Option Addr} {zs : List Int} (h : RawU w a zs) (hl : zs.length ≤ 1000000000) : RdU w a zs := ⟨hl, h.le, h.cells⟩
theorem RawU.below {w w' : World} {a : Option Addr} {zs : List Int} (h : RawU w a zs) (hb : Below w.heap.size w w') : RawU w' a zs := by
  refine ⟨h.len, h.le, fun hne => ?_⟩
  obtain ⟨b, off, rfl, hc⟩ := h.cells hne
  exact ⟨b, off, rfl, fun i hi => (hb.cell (p := ⟨b, off + i, none⟩) (World.block_lt_of_cell? _ _ (hc i hi))).trans (hc i hi)⟩

theorem cells_uint8 : Tryz.prog.cellsOf 5 = 1 := by kernel_rfl
section
variable {H : Type} {enc : TypeId × Value → H} {W : World} {base : Nat} {v : Value} {d : DataW H} {p : List MemPlace}
set_option maxRecDepth 100000 in
theorem open_Bytes (hval : Value.okWide Tryz.prog W .any base 22 v) (h : DataW.Trod enc Tryz.prog W 0 (fun _ => true) true 22 v d p) :
    ∃ A C Z, v = .slice A (List.length Z) C ∧ RawU W A Z := by
  obtain ⟨a0, len, cap, rfl⟩ := okWide_slice Tryz.underlying22 hval
  obtain ⟨fuel, hf⟩ := h
  have hf : DataW.trod enc Tryz.prog W 0 (fun _ => true) true fuel 22 [.slice a0 len cap] = some (d, p) := by simpa [Value.cells] using hf
  rcases open_ints Tryz.underlying22 Tryz.underlying5 cells_uint8 hf with ⟨hcs, _⟩ | ⟨a, l, c, zs, hcs, _, hl, hm, hz, _, hcell, hwz⟩
  · simp at hcs
    obtain ⟨rfl, rfl, rfl⟩ := hcs
    exact ⟨none, 0, [], rfl, by simp, by intro i; simp [nth], fun h => absurd rfl h⟩
  · simp at hcs
    obtain ⟨rfl, rfl, rfl⟩ := hcs
    simp at hz
    have hlen : (zs.take len).length = len := by rw [List.length_take]; omega
    refine ⟨some a, cap, zs.take len, by rw [hlen], by rw [hlen]; unfold maxLen at hm; omega, fun i => ?_, fun hne => ?_⟩
    · rcases Nat.lt_or_ge i (zs.take len).length with hi | hi
      · rw [nth_get hi]
        have h1 := hwz _ (List.mem_of_mem_take (List.getElem_mem hi))
        have m0 : IntKind.u8.min = 0 := rfl
        have m1 : IntKind.u8.max = 255 := rfl
        simp only [Lit.wf, m0, m1, Bool.and_eq_true, decide_eq_true_eq] at h1
        exact h1
      · simp [nth, List.getElem?_eq_none hi]
    · have hpos : 0 < len := by
        rcases Nat.eq_zero_or_pos len with h | h
        · subst h; simp at hne
        · exact h
      have hc0 := hcell 0 (by omega)
      obtain ⟨b, off, spot⟩ := a
      have hspot : spot = none := by simpa [Addr.add] using World.cell?_spot hc0
      subst hspot
      refine ⟨b, off, rfl, fun i hi => ?_⟩
      rw [hlen] at hi
      have h := hcell i (by omega)
      have e : nth (zs.take len) i = zs.getD i 0 := by
        rw [nth_get (by rw [hlen]; exact hi)]
        simp [List.getElem_take, List.getD_eq_getElem?_getD, List.getElem?_eq_getElem (show i < zs.length by omega)]
      rw [e, ← h]
      by_cases h0 : i = 0
      · subst h0; rfl
      · simp [Addr.add, h0]
end

theorem a2Long_any (a b : Option Addr) (n m c d : Nat) (w : World) :
    Calls Tryz.prog 5 #[.slice a n c, .slice b m d] w fun e w' => e = .returned (.bool (decide (3000 < n ∨ 3000 < m))) ∧ w' = w := by
  by_cases h1 : 3000 < n
  · have h1' : (3000 : Int) < (n : Int) := by omega
    have HV := Lib.hid (show decide (3000 < n ∨ 3000 < m) = true from decide_eq_true (.inl h1))
    go_enter Tryz.func5, Tryz.ntmps5
    go_wp2
    go_ret
    exact ⟨by first | rfl | exact ret_bool HV.out.symm, rfl⟩
  · have h1' : ¬ ((3000 : Int) < (n : Int)) := by omega
    by_cases h2 : 3000 < m
    · have h2' : (3000 : Int) < (m : Int) := by omega
      have HV := Lib.hid (show decide (3000 < n ∨ 3000 < m) = true from decide_eq_true (.inr h2))
      go_enter Tryz.func5, Tryz.ntmps5
      go_wp2
      go_ret
      exact ⟨by first | rfl | exact ret_bool HV.out.symm, rfl⟩
    · have h2' : ¬ ((3000 : Int) < (m : Int)) := by omega
      have HV := Lib.hid (show decide (3000 < n ∨ 3000 < m) = false from decide_eq_false (by omega))
      go_enter Tryz.func5, Tryz.ntmps5
      go_wp2
      go_ret
      exact ⟨by first | rfl | exact ret_bool HV.out.symm, rfl⟩

theorem a2At_any (a : Option Addr) (zs : List Int) (c k : Nat) (n : Int) (w : World) (h : RdU w a zs) (n1 : 1 ≤ n) (n2 : n ≤ 1000000) (_ : k ≤ 1000) :
    Calls Tryz.prog 7 #[.slice a zs.length c, .int .i64 (k : Nat), .int .i64 n] w fun e w' => ∃ z : Int, e = .returned (.int .i64 z) ∧ 0 ≤ z ∧ z < n ∧ Below w.heap.size w w' := by
  have hlen := h.len
  have hn : ¬ (n < 1) := by omega
  have v1 : IntKind.i64.wrap (zs.length : Int) = (zs.length : Int) := IntWalk.i64_in _ (by omega)
  by_cases hlt : k < zs.length
  · obtain ⟨b, off, rfl, hc⟩ := h.at_ hlt
    have hz := h.le k
    have d1 : decide ((k : Int) ≥ (zs.length : Int)) = false := decide_eq_false (by omega)
    have d1' : ¬ (zs.length : Int) ≤ (k : Int) := by omega
    go_enter Tryz.func7, Tryz.ntmps7
    go_wp2_with fail
    refine bodyPost_ret (v := .int .i64 (nth zs k % n)) (by simp [results, Tryz.results7, go_sem]) rfl ?_
    exact ⟨_, rfl, Int.emod_nonneg _ (by omega), Int.emod_lt_of_pos _ (by omega), Below.refl _ _⟩
  · have d1' : (zs.length : Int) ≤ (k : Int) := by omega
    go_enter Tryz.func7, Tryz.ntmps7
    go_wp2_with fail
    refine bodyPost_ret (v := .int .i64 0) (by simp [results, Tryz.results7, go_sem]) rfl ?_
    exact ⟨0, rfl, by omega, by omega, Below.refl _ _⟩
end Go.Proofs.YtlahobdopmdfmaaGreatDoor
