/-
  SignalsOf: the program's and the model's.
-/
import Derived.Test.YtcfpfhlgcfmioaaSigM
import Derived.Test.YtcfpfhlgcfmioaaTwoS
import Derived.Test.YtcfpfhlgcfmioaaPairI
import Derived.Test.YtcfpfhlgcfmioaaOrd
import Derived.Test.YtcfpfhlgcfmioaaAppR
import Derived.Deep.Cut
namespace Go.Proofs.Ytcfpfhlgcfmioaa
open Go.RowKit

/-- What both return: a list of their own, a code. -/
def SgC (R : List (Bool × Bool) × Int) (w : World) (e : Ending) (w' : World) : Prop := ∃ A C, e = .returned (.tuple #[.slice A R.1.length C, .int .i64 R.2]) ∧ OwnF sigF 51 w' w.heap.size w'.heap.size (.slice A R.1.length C) R.1 ∧ Below w.heap.size w w'
theorem sgC_err {R : List (Bool × Bool) × Int} {c : Int} {w w' : World} {e : Ending} (h : R = ([], c)) (he : e = .returned (.tuple #[.slice none 0 0, .int .i64 c])) (hb : Below w.heap.size w w') : SgC R w e w' := by
  subst h he; exact ⟨none, 0, rfl, ownF_nil _ _ _ _ _, hb⟩
theorem sgC_ok {R : List (Bool × Bool) × Int} {zs : List (Bool × Bool)} {m : Nat} {w w' : World} {e : Ending} {A : Option Addr} {C lo hi : Nat} (h : R = (zs, 0)) (hm : zs.length = m) (he : e = .returned (.tuple #[.slice A m C, .int .i64 0]))
    (ho : OwnF sigF 51 w' lo hi (.slice A m C) zs) (h1 : w.heap.size ≤ lo) (h2 : hi ≤ w'.heap.size) (hb : Below w.heap.size w w') : SgC R w e w' := by
  subst h hm he; exact ⟨A, C, rfl, ho.wide h1 h2, hb⟩
theorem sgR_ok {b d : Int} {xs ys : List Int} (h : twoE b xs d ys = 0) : sgR b xs d ys = (sgK b xs ys xs.length, 0) := by simp [sgR, h]
theorem sgR_bad {b d : Int} {xs ys : List Int} (h : ¬ twoE b xs d ys = 0) : sgR b xs d ys = ([], twoE b xs d ys) := by simp [sgR, h]
theorem sig_new (w : World) (x : Bool × Bool) : ∀ (i : Nat) (u : Value), (flat sigF [x])[i]? = some u → (w.alloc (.cells #[.bool x.1, .bool x.2] 51)).cell? ((⟨w.heap.size, 0, none⟩ : Addr).add i) = some u := by
  intro i u hu
  have hbx := Bx.new w #[.bool x.1, .bool x.2] 51
  match i, hu with
  | 0, hu => simp [flat, sigF] at hu; subst hu; exact hbx.at_ 0 rfl
  | 1, hu => simp [flat, sigF] at hu; subst hu; exact hbx.at_ 1 rfl

theorem digitSignal_any (s B : Int) (w : World) (h2 : 2 ≤ B) (h3 : B ≤ 16) : Calls Try.prog 104 #[.int .i64 s, .int .i64 B] w fun e w' => e = .returned (.agg #[.bool (decide (B ≤ s)), .bool (s == B - 1)]) ∧ Below w.heap.size w w' := by
  have hd : decide (s ≥ B) = decide (B ≤ s) := rfl
  go_enter Try.func104, Try.ntmps104
  go_wp2
  exact bodyPost_ret (v := .agg #[.bool (decide (B ≤ s)), .bool (s == B - 1)]) (by simp [results, Try.results104, go_sem]) rfl ⟨rfl, (by repeat (first | exact Below.refl _ _ | refine Below.setCell ?_ (by first | omega | (simp <;> omega)) _ | refine Below.alloc ?_ (by first | omega | (simp <;> omega)) _ | refine Below.drew ?_))⟩

set_option maxRecDepth 100000 in
set_option maxHeartbeats 4000000 in
theorem l07Of_any (p q : Nat) (B _ : Int) (a b : Option Addr) (c d : Nat) (xs ys : List Int) (w : World) (ha : Rd w a xs) (hb : Rd w b ys) (hB1 : 2 ≤ B) (hB2 : B ≤ 16) (hlen : xs.length ≤ 16) (hl : xs.length = ys.length)
    (hx : ∀ k, k < xs.length → 0 ≤ nth xs k ∧ nth xs k < B) (hy : ∀ k, k < xs.length → 0 ≤ nth ys k ∧ nth ys k < B)
    (hp0 : w.cell? ⟨p, 0, none⟩ = some (.int .i64 B)) (hp1 : w.cell? ⟨p, 1, none⟩ = some (.slice a xs.length c)) (hq1 : w.cell? ⟨q, 1, none⟩ = some (.slice b ys.length d)) :
    Calls Try.prog 101 #[.pointer (some ⟨p, 0, none⟩), .pointer (some ⟨q, 0, none⟩)] w fun e w' => ∃ A C, e = .returned (.slice A xs.length C) ∧
      OwnF sigF 51 w' w.heap.size w'.heap.size (.slice A xs.length C) (sgK B xs ys xs.length) ∧ Below w.heap.size w w' := by
  have HL := Lib.hid hl
  have HX := Lib.hid hx
  have HY := Lib.hid hy
  clear hl hx hy
  go_enter Try.func101, Try.ntmps101
  have ow0 : OwnF sigF 51 (w.alloc (.cells #[] 51)) w.heap.size (w.alloc (.cells #[] 51)).heap.size (.slice (some ⟨w.heap.size, 0, none⟩) 0 0) [] := (ownF_row (n := 0) (row_new 51 2 w #[] 0 (by simp) (by omega)) rfl (by simp)).wide (Nat.le_refl _) (by simp)
  go_wp2
  go_loopw [5, 6] (fun s i wr => ∃ (k : Nat) (A : Option Addr) (C : Nat), k ≤ xs.length ∧ s = .slice A k C ∧ i = .int .i64 k ∧
      OwnF sigF 51 wr w.heap.size wr.heap.size (.slice A k C) (sgK B xs ys k) ∧ Below w.heap.size w wr) (fun _ i _ => xs.length - (intOf i).toNat)
  case atStart => exact ⟨0, _, 0, Nat.zero_le _, rfl, rfl, ow0, (Below.refl _ _).alloc (Nat.le_refl _) _⟩
  case round =>
    obtain ⟨k, A, C, hk, rfl, rfl, hown, hbel⟩ := hrel
    have hsz := hbel.size
    by_cases hlt : k < xs.length
    · obtain ⟨p1, o1, rfl, hc1⟩ := ha.at_ hlt
      have hlt2 : k < ys.length := by rw [← HL.out]; exact hlt
      obtain ⟨p2, o2, rfl, hc2⟩ := hb.at_ hlt2
      have hp0' := kept hbel hp0
      have hp1' := kept hbel hp1
      have hq1' := kept hbel hq1
      have hc1' := kept hbel hc1
      have hc2' := kept hbel hc2
      have hx := HX.out k hlt
      have hy := HY.out k hlt
      have HS := Lib.hid (show sgK B xs ys (k + 1) = sgK B xs ys k ++ [sg1 B (nth xs k) (nth ys k)] from rfl)
      have HN := Lib.hid (sgK_len B xs ys k)
      have kp0 : ∀ w', Below w.heap.size w w' → w'.cell? ⟨p, 0, none⟩ = some (.int .i64 B) := kept_all hp0
      go_wp2
      go_quiet (fail)
      go_upto_region 6 with fail
      obtain ⟨V, hV⟩ : ∃ V, V = wr.drewN nq := ⟨_, rfl⟩
      have hbV : Below w.heap.size w V := by rw [hV]; exact bel_drewN hbel nq
      have owV : OwnF sigF 51 V w.heap.size V.heap.size (.slice A k C) (sgK B xs ys k) := by rw [hV]; exact hown.drewN nq
      rw [← hV]
      have hsV := hbV.size
      clear hV hp0' hp1' hq1' hc1' hc2' hown hbel hsz
      obtain ⟨s, hs⟩ : ∃ s, s = nth xs k + nth ys k := ⟨_, rfl⟩
      have hs1 : 0 ≤ s ∧ s ≤ 100 := by omega
      have HE := Lib.hid (show sg1 B (nth xs k) (nth ys k) = (decide (B ≤ s), s == B - 1) by rw [hs]; rfl)
      rw [← hs]
      clear hs hx hy hc1 hc2
      obtain ⟨ms, hms⟩ : ∃ ms, ms = sgK B xs ys k := ⟨_, rfl⟩
      rw [← hms] at owV HS HN
      clear hms
      have kq0 : ∀ w', Below w.heap.size V w' → w'.cell? ⟨p, 0, none⟩ = some (.int .i64 B) := fun w' h => kp0 w' (hbV.trans h)
      have row0 : Row 51 2 V w.heap.size V.heap.size (.slice A k C) k (flat sigF ms) := by have := owV.row; rw [HN.out] at this; exact this
      have hd : decide (s ≥ B) = decide (B ≤ s) := rfl
      have hv1 : IntKind.i64.wrap (B - 1) = B - 1 := IntWalk.i64_in _ (by omega)
      refine wp_region_marked (fun w' => Below w.heap.size V w') 17 (by kernel_rfl) ?_
      have hS : Below w.heap.size V V.drew := (Below.refl _ _).drew
      refine wpAnyM_take (i := 0) (v := ?_) rfl (by kernel_rfl) (by kernel_rfl) (by kernel_rfl) (by kernel_rfl) (by kernel_rfl) (fun _ _ _ h => h) hS (.inl ⟨by rfl, ?_⟩) ?_
      rotate_left 1
      · intro w' hS'; go_simp; try with_reducible rfl
      simp only [Act.put, List.setIfInBounds_toArray]
      refine wpAnyM_take (i := 1) (v := ?_) rfl (by kernel_rfl) (by kernel_rfl) (by kernel_rfl) (by kernel_rfl) (by kernel_rfl) (fun _ _ _ h => h) hS (.inl ⟨by rfl, ?_⟩) ?_
      rotate_left 1
      · intro w' hS'; go_simp; try with_reducible rfl
      simp only [Act.put]
      refine wpAnyM_take (i := 2) (v := ?_) rfl (by kernel_rfl) (by kernel_rfl) (by kernel_rfl) (by kernel_rfl) (by kernel_rfl) (fun _ _ _ h => h) hS (.inl ⟨by rfl, ?_⟩) ?_
      rotate_left 1
      · intro w' hS'; go_simp; try with_reducible rfl
      simp only [Act.put]
      refine wpAnyM_take (i := 3) (v := ?_) rfl (by kernel_rfl) (by kernel_rfl) (by kernel_rfl) (by kernel_rfl) (by kernel_rfl) (fun _ _ _ h => h) hS (.inl ⟨by rfl, ?_⟩) ?_
      rotate_left 1
      · intro w' hS'; go_simp; try with_reducible rfl
      simp only [Act.put]
      refine wpAnyM_take (i := 4) (v := ?_) rfl (by kernel_rfl) (by kernel_rfl) (by kernel_rfl) (by kernel_rfl) (by kernel_rfl) (fun _ _ _ h => h) hS (.inl ⟨by rfl, ?_⟩) ?_
      rotate_left 1
      · intro w' hS'; go_simp; try with_reducible rfl
      simp only [Act.put]
      refine wpAnyM_take (i := 5) (v := ?_) rfl (by kernel_rfl) (by kernel_rfl) (by kernel_rfl) (by kernel_rfl) (by kernel_rfl) (fun _ _ _ h => h) hS (.inl ⟨by rfl, ?_⟩) ?_
      rotate_left 1
      · intro w' hS'; go_simp; try with_reducible rfl
      simp only [Act.put]
      refine wpAnyM_take (i := 6) (v := ?_) rfl (by kernel_rfl) (by kernel_rfl) (by kernel_rfl) (by kernel_rfl) (by kernel_rfl) (fun _ _ _ h => h) hS (.inl ⟨by rfl, ?_⟩) ?_
      rotate_left 1
      · intro w' hS'; go_simp; try with_reducible rfl
      simp only [Act.put]
      refine wpAnyM_take (i := 7) (v := ?_) rfl (by kernel_rfl) (by kernel_rfl) (by kernel_rfl) (by kernel_rfl) (by kernel_rfl) (fun _ _ _ h => h) hS (.inl ⟨by rfl, ?_⟩) ?_
      rotate_left 1
      · intro w' hS'; go_simp; try with_reducible rfl
      simp only [Act.put]
      refine wpAnyM_take (i := 8) (v := ?_) rfl (by kernel_rfl) (by kernel_rfl) (by kernel_rfl) (by kernel_rfl) (by kernel_rfl) (fun _ _ _ h => h) hS (.inl ⟨by rfl, ?_⟩) ?_
      rotate_left 1
      · intro w' hS'; go_simp; try with_reducible rfl
      simp only [Act.put]
      refine wpAnyM_take (i := 9) (v := ?_) rfl (by kernel_rfl) (by kernel_rfl) (by kernel_rfl) (by kernel_rfl) (by kernel_rfl) (fun _ _ _ h => h) hS (.inl ⟨by rfl, ?_⟩) ?_
      rotate_left 1
      · intro w' hS'; go_simp; try with_reducible rfl
      simp only [Act.put]
      refine wpAnyM_take (i := 10) (v := ?_) rfl (by kernel_rfl) (by kernel_rfl) (by kernel_rfl) (by kernel_rfl) (by kernel_rfl) (fun _ _ _ h => h) hS (.inl ⟨by rfl, ?_⟩) ?_
      rotate_left 1
      · intro w' hS'; go_simp; try with_reducible rfl
      simp only [Act.put]
      refine wpAnyM_take (i := 11) (v := ?_) rfl (by kernel_rfl) (by kernel_rfl) (by kernel_rfl) (by kernel_rfl) (by kernel_rfl) (fun _ _ _ h => h) hS (.inl ⟨by rfl, ?_⟩) ?_
      rotate_left 1
      · intro w' hS'; go_simp; try with_reducible rfl
      simp only [Act.put]
      refine wpAnyM_take (i := 12) (v := ?_) rfl (by kernel_rfl) (by kernel_rfl) (by kernel_rfl) (by kernel_rfl) (by kernel_rfl) (fun _ _ _ h => h) hS (.inl ⟨by rfl, ?_⟩) ?_
      rotate_left 1
      · intro w' hS'; go_simp; try with_reducible rfl
      simp only [Act.put]
      refine wpAnyM_take (i := 13) (v := ?_) rfl (by kernel_rfl) (by kernel_rfl) (by kernel_rfl) (by kernel_rfl) (by kernel_rfl) (fun _ _ _ h => h) hS (.inl ⟨by rfl, ?_⟩) ?_
      rotate_left 1
      · intro w' hS'; go_simp; try with_reducible rfl
      simp only [Act.put]
      refine wpAnyM_take (i := 14) (v := ?_) rfl (by kernel_rfl) (by kernel_rfl) (by kernel_rfl) (by kernel_rfl) (by kernel_rfl) (fun _ _ _ h => h) hS (.inl ⟨by rfl, ?_⟩) ?_
      rotate_left 1
      · intro w' hS'; go_simp; try with_reducible rfl
      simp only [Act.put]
      clear kq0 kp0
      refine wpAnyM_one (i := 15) (by kernel_rfl) rfl (by rfl) (fun K hK => ?_)
      go_simp
      replace hS : Below w.heap.size V (V.alloc (.cells #[.bool (decide (B ≤ s)), .bool (s == B - 1)] 51)).drew := ((Below.refl _ _).alloc hsV _).drew
      refine hK _ _ (.inr hS) ?_
      clear hK K
      try simp only [Act.put, List.setIfInBounds_toArray]
      refine wpAnyM_one (i := 16) (by kernel_rfl) rfl (by rfl) (fun K hK => ?_)
      refine wp_appR (.tmp 33) (.tmp 48) 61 51 rfl (.agg #[.bool false, .bool false]) 2 2 Try.underlying61 info_Signal rfl (by omega) (by omega) rfl ((row0.alloc _).drew) ⟨V.heap.size, 0, none⟩ 1 1 (flat sigF [(decide (B ≤ s), s == B - 1)]) rfl rfl (sig_new V _) flat_mem (by omega) (by simp <;> omega) ?_
      intro A' C' w5 row5 ht5
      replace hS : Below w.heap.size V w5 := hS.trans (ht5.below (Nat.le_refl _) (by simp <;> omega))
      refine hK _ _ (.inr hS) ?_
      try simp only [Act.put, List.setIfInBounds_toArray]
      clear hK K
      refine wpAnyM_one (i := 17) (by kernel_rfl) rfl (by rfl) (fun K hK => ?_)
      go_simp
      refine hK _ _ (.inl rfl) ?_
      clear hK K
      refine wpAnyM_done (by kernel_rfl) ?_ _
      have ow5 : OwnF sigF 51 w5 w.heap.size w5.heap.size (.slice A' (k + 1) C') (ms ++ [(decide (B ≤ s), s == B - 1)]) := ownF_row (n := k + 1) (by rw [flat_append]; exact row5) (by have := HN.out; simp; omega) (by have := HN.out; simp; omega)
      have hb5 : Below w.heap.size w w5 := hbV.trans hS
      go_wp2
      go_roundw
      case rel => exact ⟨k + 1, A', C', by omega, rfl, by go_num, by rw [HS.out, HE.out]; exact ow5, hb5⟩
      case measure => (simp [intOf]) <;> omega
    · obtain rfl : k = xs.length := by omega
      have hp1 := kept hbel hp1
      go_wp2
      go_ret
      exact ⟨A, C, rfl, hown, hbel⟩

set_option maxRecDepth 100000 in
set_option maxHeartbeats 1000000 in
theorem specSignalsOf (xB : Int) (xA : Option Addr) (xC : Nat) (xZ : List Int) (yB : Int) (yA : Option Addr) (yC : Nat) (yZ : List Int) (w : World) (ha : Rd w xA xZ) (_ : All64 xZ) (_ : I64 xB) (hb : Rd w yA yZ) (_ : All64 yZ) (_ : I64 yB) :
    Calls Try.prog 39 #[.agg #[.int .i64 xB, .slice xA xZ.length xC], .agg #[.int .i64 yB, .slice yA yZ.length yC]] w (SgC (sgR xB xZ yB yZ) w) := by
  have hx16 := fun h : twoE xB xZ yB yZ = 0 => okB_spec (twoE_zero h).1
  go_enter Try.func39, Try.ntmps39
  go_wp2_with fail
  obtain ⟨u, hu⟩ : ∃ u, u = (w.alloc (.cells #[.int .i64 xB, .slice xA xZ.length xC] 64)).alloc (.cells #[.int .i64 yB, .slice yA yZ.length yC] 64) := ⟨_, rfl⟩
  rw [← hu]
  have hbel : Below w.heap.size w u := by rw [hu]; exact (by repeat (first | exact Below.refl _ _ | refine Below.setCell ?_ (by first | omega | (simp <;> omega)) _ | refine Below.alloc ?_ (by first | omega | (simp <;> omega)) _ | refine Below.drew ?_))
  have c0 : u.cell? ⟨w.heap.size, 0, none⟩ = some (.int .i64 xB) := by rw [hu]; go_simp
  have c1 : u.cell? ⟨w.heap.size, 1, none⟩ = some (.slice xA xZ.length xC) := by rw [hu]; go_simp
  have d0 : u.cell? ⟨w.heap.size + 1, 0, none⟩ = some (.int .i64 yB) := by rw [hu]; go_simp
  have d1 : u.cell? ⟨w.heap.size + 1, 1, none⟩ = some (.slice yA yZ.length yC) := by rw [hu]; go_simp
  replace ha := ha.below hbel
  replace hb := hb.below hbel
  clear hu
  refine (l02Two_any w.heap.size (w.heap.size + 1) xB yB xA yA xC yC xZ yZ u ha hb c0 c1 d0 d1).mono ?_
  rintro e w1 ⟨rfl, n, rfl⟩
  by_cases h : twoE xB xZ yB yZ = 0
  · have HR := Lib.hid (sgR_ok h)
    have HX := Lib.hid (hx16 h)
    have HW := Lib.hid (twoE_zero h)
    have ht : (twoE xB xZ yB yZ != 0) = false := by simp [h]
    clear h hx16
    go_wp2_with (go_at_call 101; refine (l07Of_any w.heap.size (w.heap.size + 1) xB yB xA yA xC yC xZ yZ _ (ha.drewN n) (hb.drewN n) HX.out.1 HX.out.2.1 HX.out.2.2.2.1 HW.out.2.2.2 (digit_of_ok HW.out.1) (by have h1 := HW.out.2.2; intro k hk; have h2 := digit_of_ok HW.out.2.1 k (by omega); omega) c0 c1 d1).mono ?_; rintro e w1 ⟨A, C, rfl, hown, hb1⟩)
    exact bodyPost_ret (v := .tuple #[.slice A xZ.length C, .int .i64 0]) (by simp [results, Try.results39, go_sem]) rfl (sgC_ok HR.out (sgK_len _ _ _ _) rfl hown (by have := hbel.size; simpa using this) (Nat.le_refl _) ((bel_drewN hbel _).trans (hb1.mono (by have := hbel.size; simpa using this))))
  · have HR := Lib.hid (sgR_bad h)
    have ht : (twoE xB xZ yB yZ != 0) = true := by simp [h]
    clear h hx16
    go_wp2
    exact bodyPost_ret (v := .tuple #[.slice none 0 0, .int .i64 (twoE xB xZ yB yZ)]) (by simp [results, Try.results39, go_sem]) rfl (sgC_err HR.out rfl (bel_drewN hbel _))

set_option maxRecDepth 100000 in
set_option maxHeartbeats 4000000 in
theorem implSignalsOf (xB : Int) (xA : Option Addr) (xC : Nat) (xZ : List Int) (yB : Int) (yA : Option Addr) (yC : Nat) (yZ : List Int) (w : World) (ha : Rd w xA xZ) (zx : All64 xZ) (bx : I64 xB) (hb : Rd w yA yZ) (zy : All64 yZ) (by_ : I64 yB) :
    Calls Try.prog 41 #[.agg #[.int .i64 xB, .slice xA xZ.length xC], .agg #[.int .i64 yB, .slice yA yZ.length yC]] w (SgC (sgR xB xZ yB yZ) w) := by
  go_enter Try.func41, Try.ntmps41
  go_wp2_with fail
  obtain ⟨u, hu⟩ : ∃ u, u = (w.alloc (.cells #[.int .i64 xB, .slice xA xZ.length xC] 64)).alloc (.cells #[.int .i64 yB, .slice yA yZ.length yC] 64) := ⟨_, rfl⟩
  rw [← hu]
  obtain ⟨g, hg⟩ : ∃ g, g = w.heap.size := ⟨_, rfl⟩
  have hbel : Below w.heap.size w u := by rw [hu]; exact (by repeat (first | exact Below.refl _ _ | refine Below.setCell ?_ (by first | omega | (simp <;> omega)) _ | refine Below.alloc ?_ (by first | omega | (simp <;> omega)) _ | refine Below.drew ?_))
  have ax : Bx u g 64 #[.int .i64 xB, .slice xA xZ.length xC] := by rw [hu, hg]; exact (Bx.new _ _ _).alloc _
  have ay : Bx u (g + 1) 64 #[.int .i64 yB, .slice yA yZ.length yC] := by rw [hu, hg]; simpa using Bx.new (w.alloc (.cells #[.int .i64 xB, .slice xA xZ.length xC] 64)) #[.int .i64 yB, .slice yA yZ.length yC] 64
  replace ha := ha.below hbel
  replace hb := hb.below hbel
  rw [← hg]
  clear hu hg
  refine (pairCode_any xB xA xC xZ yB yA yC yZ u ha zx bx hb zy by_).mono ?_
  rintro e v ⟨rfl, hb1⟩
  replace ha := ha.below hb1
  replace hb := hb.below hb1
  replace ax := ax.below hb1
  replace ay := ay.below hb1
  replace hbel := hbel.trans (hb1.mono hbel.size)
  clear hb1 u
  have c0 := ax.at_ 0 rfl
  have c1 := ax.at_ 1 rfl
  have d1 := ay.at_ 1 rfl
  by_cases h : twoE xB xZ yB yZ = 0
  · have HR := Lib.hid (sgR_ok h)
    have HX := Lib.hid (okB_spec (twoE_zero h).1)
    have HW := Lib.hid (twoE_zero h)
    have ht : (twoE xB xZ yB yZ != 0) = false := by simp [h]
    have hl := (twoE_zero h).2.2.2
    have hB1 := HX.out.1
    have hB2 := HX.out.2.1
    have hlen := HX.out.2.2.2.1
    have HL := Lib.hid hl
    have Hx := Lib.hid (digit_of_ok (twoE_zero h).1)
    have Hy := Lib.hid (show ∀ k, k < xZ.length → 0 ≤ nth yZ k ∧ nth yZ k < xB by have h1 := (twoE_zero h).2.2; intro k hk; have h2 := digit_of_ok (twoE_zero h).2.1 k (by omega); omega)
    have hsv := hbel.size
    clear h hl
    go_wp2
    go_loopw [7, 8, 9, 19] (fun s _ _ i wr => ∃ (k : Nat) (A : Option Addr) (C : Nat), k ≤ xZ.length ∧ s = .slice A k C ∧ i = .int .i64 k ∧
      OwnF sigF 51 wr v.heap.size wr.heap.size (.slice A k C) (sgK xB xZ yZ k) ∧ Below v.heap.size v wr) (fun _ _ _ i _ => xZ.length - (intOf i).toNat)
    case atStart => exact ⟨0, none, 0, Nat.zero_le _, rfl, rfl, ownF_nil _ _ _ _ _, Below.refl _ _⟩
    case round =>
      obtain ⟨k, A, C, hk, hs, hi, hown, hb1⟩ := hrel
      subst hs hi
      have hsz := hb1.size
      by_cases hlt : k < xZ.length
      · obtain ⟨p1, o1, rfl, hc1⟩ := ha.at_ hlt
        have hlt2 : k < yZ.length := by rw [← HL.out]; exact hlt
        obtain ⟨p2, o2, rfl, hc2⟩ := hb.at_ hlt2
        have hc1' := kept hb1 hc1
        have hx := Hx.out k hlt
        have hy := Hy.out k hlt
        have HS := Lib.hid (show sgK xB xZ yZ (k + 1) = sgK xB xZ yZ k ++ [sg1 xB (nth xZ k) (nth yZ k)] from rfl)
        have HN := Lib.hid (sgK_len xB xZ yZ k)
        have k0 := arg_lo c0 hb1 (Nat.le_refl _)
        have k1 := arg_lo d1 hb1 (Nat.le_refl _)
        have k2 := arg_lo hc2 hb1 (Nat.le_refl _)
        have hv1 : IntKind.i64.wrap (nth xZ k + nth yZ k) = nth xZ k + nth yZ k := IntWalk.i64_in _ (by omega)
        obtain ⟨s, hs⟩ : ∃ s, s = nth xZ k + nth yZ k := ⟨_, rfl⟩
        have HE := Lib.hid (show sg1 xB (nth xZ k) (nth yZ k) = (decide (xB ≤ s), s == xB - 1) by rw [hs]; rfl)
        obtain ⟨ms, hms⟩ : ∃ ms, ms = sgK xB xZ yZ k := ⟨_, rfl⟩
        rw [← hms] at hown HS HN
        rw [← hs] at hv1
        have row0 : Row 51 2 wr v.heap.size wr.heap.size (.slice A k C) k (flat sigF ms) := by have := hown.row; rw [HN.out] at this; exact this
        clear hms
        go_upto_region 8 with fail
        refine wp_region_marked (fun w' => Below v.heap.size wr w') 13 (by kernel_rfl) ?_
        have hS : Below v.heap.size wr wr.drew := (Below.refl _ _).drew
        refine wpAnyM_take (i := 0) (v := ?_) rfl (by kernel_rfl) (by kernel_rfl) (by kernel_rfl) (by kernel_rfl) (by kernel_rfl) (fun _ _ _ h => h) hS (.inl ⟨by rfl, ?_⟩) ?_
        rotate_left 1
        · intro w' hS'; go_simp; try with_reducible rfl
        simp only [Act.put, List.setIfInBounds_toArray]
        refine wpAnyM_take (i := 1) (v := ?_) rfl (by kernel_rfl) (by kernel_rfl) (by kernel_rfl) (by kernel_rfl) (by kernel_rfl) (fun _ _ _ h => h) hS (.inl ⟨by rfl, ?_⟩) ?_
        rotate_left 1
        · intro w' hS'; go_simp; try with_reducible rfl
        simp only [Act.put]
        refine wpAnyM_take (i := 2) (v := ?_) rfl (by kernel_rfl) (by kernel_rfl) (by kernel_rfl) (by kernel_rfl) (by kernel_rfl) (fun _ _ _ h => h) hS (.inl ⟨by rfl, ?_⟩) ?_
        rotate_left 1
        · intro w' hS'; go_simp; try with_reducible rfl
        simp only [Act.put]
        refine wpAnyM_take (i := 3) (v := ?_) rfl (by kernel_rfl) (by kernel_rfl) (by kernel_rfl) (by kernel_rfl) (by kernel_rfl) (fun _ _ _ h => h) hS (.inl ⟨by rfl, ?_⟩) ?_
        rotate_left 1
        · intro w' hS'; go_simp; try with_reducible rfl
        simp only [Act.put]
        refine wpAnyM_take (i := 4) (v := ?_) rfl (by kernel_rfl) (by kernel_rfl) (by kernel_rfl) (by kernel_rfl) (by kernel_rfl) (fun _ _ _ h => h) hS (.inl ⟨by rfl, ?_⟩) ?_
        rotate_left 1
        · intro w' hS'; go_simp; try with_reducible rfl
        simp only [Act.put]
        refine wpAnyM_take (i := 5) (v := ?_) rfl (by kernel_rfl) (by kernel_rfl) (by kernel_rfl) (by kernel_rfl) (by kernel_rfl) (fun _ _ _ h => h) hS (.inl ⟨by rfl, ?_⟩) ?_
        rotate_left 1
        · intro w' hS'; go_simp; try with_reducible rfl
        simp only [Act.put]
        refine wpAnyM_take (i := 6) (v := ?_) rfl (by kernel_rfl) (by kernel_rfl) (by kernel_rfl) (by kernel_rfl) (by kernel_rfl) (fun _ _ _ h => h) hS (.inl ⟨by rfl, ?_⟩) ?_
        rotate_left 1
        · intro w' hS'; go_simp; try with_reducible rfl
        simp only [Act.put]
        refine wpAnyM_take (i := 7) (v := ?_) rfl (by kernel_rfl) (by kernel_rfl) (by kernel_rfl) (by kernel_rfl) (by kernel_rfl) (fun _ _ _ h => h) hS (.inl ⟨by rfl, ?_⟩) ?_
        rotate_left 1
        · intro w' hS'; go_simp; try with_reducible rfl
        simp only [Act.put]
        refine wpAnyM_take (i := 8) (v := ?_) rfl (by kernel_rfl) (by kernel_rfl) (by kernel_rfl) (by kernel_rfl) (by kernel_rfl) (fun _ _ _ h => h) hS (.inl ⟨by rfl, ?_⟩) ?_
        rotate_left 1
        · intro w' hS'; go_simp; try with_reducible rfl
        simp only [Act.put]
        refine wpAnyM_take (i := 9) (v := ?_) rfl (by kernel_rfl) (by kernel_rfl) (by kernel_rfl) (by kernel_rfl) (by kernel_rfl) (fun _ _ _ h => h) hS (.inl ⟨by rfl, ?_⟩) ?_
        rotate_left 1
        · intro w' hS'; go_simp; try with_reducible rfl
        simp only [Act.put]
        clear k0 k1 k2
        rw [← hs]
        clear hs
        refine wpAnyM_one (i := 10) (by kernel_rfl) rfl (by rfl) (fun K hK => ?_)
        go_simp
        refine (digitSignal_any s xB wr.drew hB1 hB2).mono ?_
        rintro e w1 ⟨rfl, hb2⟩
        have hS1 : Below v.heap.size wr w1 := hS.trans (hb2.mono hsz)
        have hs1 := hb2.size
        have row1 : Row 51 2 w1 v.heap.size wr.heap.size (.slice A k C) k (flat sigF ms) := (row0.drew).below hb2
        refine hK _ _ (.inr hS1) ?_
        try simp only [Act.put, List.setIfInBounds_toArray]
        clear hK K
        refine wpAnyM_one (i := 11) (by kernel_rfl) rfl (by rfl) (fun K hK => ?_)
        go_simp
        replace hS1 : Below v.heap.size wr (w1.alloc (.cells #[.bool (decide (xB ≤ s)), .bool (s == xB - 1)] 51)) := hS1.alloc (by have := hS1.size; omega) _
        refine hK _ _ (.inr hS1) ?_
        clear hK K
        try simp only [Act.put, List.setIfInBounds_toArray]
        refine wpAnyM_one (i := 12) (by kernel_rfl) rfl (by rfl) (fun K hK => ?_)
        refine wp_appR (.tmp 24) (.tmp 35) 61 51 rfl (.agg #[.bool false, .bool false]) 2 2 Try.underlying61 info_Signal rfl (by omega) (by omega) rfl (row1.alloc _) ⟨w1.heap.size, 0, none⟩ 1 1 (flat sigF [(decide (xB ≤ s), s == xB - 1)]) rfl rfl (sig_new w1 _) flat_mem (by omega) (by simp; have := hs1; simp at this; omega) ?_
        intro A' C' w5 row5 ht5
        replace hS1 : Below v.heap.size wr w5 := hS1.trans (ht5.below (Nat.le_refl _) (by simp; have := hs1; simp at this; omega))
        refine hK _ _ (.inr hS1) ?_
        try simp only [Act.put, List.setIfInBounds_toArray]
        clear hK K
        refine wpAnyM_one (i := 13) (by kernel_rfl) rfl (by rfl) (fun K hK => ?_)
        go_simp
        refine hK _ _ (.inl rfl) ?_
        clear hK K
        refine wpAnyM_done (by kernel_rfl) ?_ _
        have ow5 : OwnF sigF 51 w5 v.heap.size w5.heap.size (.slice A' (k + 1) C') (ms ++ [(decide (xB ≤ s), s == xB - 1)]) := ownF_row (n := k + 1) (by rw [flat_append]; exact row5) (by have := HN.out; simp; omega) (by have := HN.out; simp; omega)
        have hb5 : Below v.heap.size v w5 := hb1.trans hS1
        go_wp2
        go_roundw
        case rel => exact ⟨k + 1, A', C', by omega, rfl, by go_num, by rw [HS.out, HE.out]; exact ow5, hb5⟩
        case measure => (simp [intOf]) <;> omega
      · obtain rfl : k = xZ.length := by omega
        go_wp2
        exact bodyPost_ret (v := .tuple #[.slice A xZ.length C, .int .i64 0]) (by simp [results, Try.results41, go_sem]) rfl (sgC_ok HR.out (sgK_len _ _ _ _) rfl hown hsv (Nat.le_refl _) (hbel.trans (hb1.mono hsv)))
  · have HR := Lib.hid (sgR_bad h)
    have ht : (twoE xB xZ yB yZ != 0) = true := by simp [h]
    clear h
    go_wp2
    exact bodyPost_ret (v := .tuple #[.slice none 0 0, .int .i64 (twoE xB xZ yB yZ)]) (by simp [results, Try.results41, go_sem]) rfl (sgC_err HR.out rfl hbel)
end Go.Proofs.Ytcfpfhlgcfmioaa
