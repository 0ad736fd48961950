/-
  Several texts in one: AwfAll, ShwAll.
-/
import Derived.Test.YtgfopieojpjddaaDoorFltS
import Derived.Test.YtgfopieojpjddaaDoorAddS
import Derived.Test.YtgfopieojpjddaaDoorTwoS
import Derived.Test.YtgfopieojpjddaaDoorApp
import Derived.Test.YtgfopieojpjddaaDoorFltI
import Derived.Test.YtgfopieojpjddaaDoorOrd
import Derived.Test.YtgfopieojpjddaaDoorPlus
import Derived.Test.YtgfopieojpjddaaDoorOrdC
import Derived.Test.YtgfopieojpjddaaDoorFin
import Derived.Test.YtgfopieojpjddaaDoorArI
import Derived.Test.YtgfopieojpjddaaDoorReg4
import Derived.Test.YtgfopieojpjddaaDoorArS
import Derived.Test.YtgfopieojpjddaaDoorPairI
import Derived.Deep.Cut
import Derived.Maps.OwnOps
import Derived.Maps.Views
import Derived.Laws.EntriesVeiled
import Derived.Test.YtgfopieojpjddaaDoorSameReg
namespace Go.Proofs.YtgfopieojpjddaaDoor
open Go.RowKit

end Go.Proofs.YtgfopieojpjddaaDoor

/- LevA -/
namespace Go.Proofs.YtgfopieojpjddaaDoor
open Go.RowKit

end Go.Proofs.YtgfopieojpjddaaDoor

/- LevP -/
namespace Go.Proofs.YtgfopieojpjddaaDoor
open Go.RowKit Go.Maps

/-- The kinds of the first j faults as a map. -/
def kindD (fs : List (Int × Int)) : Nat → DataW Unit
  | 0 => .map []
  | j + 1 => (kindD fs j).put (.int .i64 (elt pairF fs j).2) (.lit (.int .i64 (elt pairF fs j).1))
theorem kindD_isMap (fs : List (Int × Int)) : ∀ j, IsMap (kindD fs j)
  | 0 => isMap_empty
  | j + 1 => (kindD_isMap fs j).put _ _
theorem kindD_at (fs : List (Int × Int)) (k : Int) : ∀ j, (kindD fs j).atKey (.int .i64 k) (.lit (.int .i64 0)) = .lit (.int .i64 (kindAt fs j k))
  | 0 => rfl
  | j + 1 => by
    unfold kindD kindAt
    by_cases h : k = (elt pairF fs j).2
    · rw [if_pos h, ← h]
      exact atKey_put_same (kindD_isMap fs j) (by constructor) _ _
    · rw [if_neg h, atKey_put_other (by intro e; injection e with _ e; exact h e), kindD_at fs k j]

theorem key_int64 : Keyed Tryd.prog 2 := int_keyed Tryd.underlying2
theorem zero_int64 (w : World) : (zeroValue 2).run Tryd.prog w = .ok (.int .i64 0) w := by kernel_rfl

theorem leverRules_any (w : World) : Calls Tryd.prog 141 #[] w fun e w' => e = .returned (.agg #[.func (.func 158) #[] #[], .func (.func 159) #[] #[], .func (.func 160) #[] #[], .func (.func 161) #[] #[]]) ∧ Below w.heap.size w w' := by
  go_enter Tryd.func141, Tryd.ntmps141
  go_wp2
  refine bodyPost_ret (v := .agg #[.func (.func 158) #[] #[], .func (.func 159) #[] #[], .func (.func 160) #[] #[], .func (.func 161) #[] #[]]) (by simp [results, Tryd.results141, go_sem]) rfl ⟨rfl, (by repeat (first | exact Below.refl _ _ | refine Below.setCell ?_ (by first | omega | (simp <;> omega)) _ | refine Below.alloc ?_ (by first | omega | (simp <;> omega)) _ | refine Below.drew ?_))⟩

/-- What the closure that adds with faults holds: the rules, the kinds, the base. -/
structure FltAdd (w : World) (g1 g2 g3 : Nat) (B : Int) (fs : List (Int × Int)) : Prop where
  rules : Bx w g1 173 #[.func (.func 158) #[] #[], .func (.func 159) #[] #[], .func (.func 160) #[] #[], .func (.func 161) #[] #[]]
  kinds : ∃ M n, Bx w g2 175 #[.map (some M)] ∧ w.ownsMap Tryd.prog 2 (plainElem Tryd.prog 2) M n (kindD fs fs.length)
  base : Bx w g3 2 #[.int .i64 B]
theorem bx_grown {w w' : World} {g M : Nat} {t : TypeId} {cs : Array Value} (h : Bx w g t cs) (hg : w.grownBy w' (some M)) (hne : g ≠ M) : Bx w' g t cs := (hg.block g h.lt (by intro e; cases e; exact hne rfl)).trans h
theorem ownsMap_below {w w' : World} {P : Program} {k : TypeId} {R : Value → Option (DataW Unit × List MemPlace)} {b n : Nat} {D : DataW Unit} (h : w.ownsMap P k R b n D) (hb : Below w.heap.size w w') : w'.ownsMap P k R b n D := by
  have hl := h.lt
  obtain ⟨es, clock, h1, h2⟩ := h
  exact ⟨es, clock, (hb.block b hl).trans h1, h2⟩
theorem FltAdd.below {w w' : World} {g1 g2 g3 : Nat} {B : Int} {fs : List (Int × Int)} (h : FltAdd w g1 g2 g3 B fs) (hb : Below w.heap.size w w') : FltAdd w' g1 g2 g3 B fs := by
  obtain ⟨h1, ⟨M, n, h2, h3⟩, h4⟩ := h
  exact ⟨h1.below hb, ⟨M, n, h2.below hb, ownsMap_below h3 hb⟩, h4.below hb⟩

set_option maxRecDepth 100000 in
set_option maxHeartbeats 4000000 in
theorem placesWithFaults_any (B : Int) (a : Option Addr) (c : Nat) (fs : List (Int × Int)) (w : World) (ha : RdF pairF w a fs) (hz : All2 fs) :
    Calls Tryd.prog 108 #[.int .i64 B, .slice a fs.length c] w fun e w' => ∃ g1 g2 g3, e = .returned (.func (.func 142) #[] #[.pointer (some ⟨g1, 0, none⟩), .pointer (some ⟨g2, 0, none⟩), .pointer (some ⟨g3, 0, none⟩)]) ∧
      FltAdd w' g1 g2 g3 B fs ∧ Below w.heap.size w w' := by
  have hx := ha.len
  have hmm := @run_makeMap Tryd.prog
  go_enter Tryd.func108, Tryd.ntmps108
  go_wp2_with fail
  obtain ⟨u, hu⟩ : ∃ u, u = w.alloc (.cells #[.int .i64 B] 2) := ⟨_, rfl⟩
  obtain ⟨g3, hg3⟩ : ∃ g, g = w.heap.size := ⟨_, rfl⟩
  have b3 : Bx u g3 2 #[.int .i64 B] := by rw [hu, hg3]; exact Bx.new _ _ _
  have hbel : Below w.heap.size w u := by rw [hu]; exact (by repeat (first | exact Below.refl _ _ | refine Below.setCell ?_ (by first | omega | (simp <;> omega)) _ | refine Below.alloc ?_ (by first | omega | (simp <;> omega)) _ | refine Below.drew ?_))
  rw [← hu, ← hg3]
  clear hu hg3
  refine (leverRules_any u).mono ?_
  rintro e v ⟨rfl, hb1⟩
  replace b3 := b3.below hb1
  replace hbel := hbel.trans (hb1.mono hbel.size)
  clear hb1 u
  go_wp2_with fail
  obtain ⟨V, hV⟩ : ∃ V, V = ((v.alloc (.cells #[.func (.func 158) #[] #[], .func (.func 159) #[] #[], .func (.func 160) #[] #[], .func (.func 161) #[] #[]] 173)).alloc (.map #[] 0)).alloc (.cells #[.map (some (v.heap.size + 1))] 175) := ⟨_, rfl⟩
  have b1 : Bx V v.heap.size 173 #[.func (.func 158) #[] #[], .func (.func 159) #[] #[], .func (.func 160) #[] #[], .func (.func 161) #[] #[]] := by rw [hV]; exact ((Bx.new _ _ _).alloc _).alloc _
  have om : V.ownsMap Tryd.prog 2 (plainElem Tryd.prog 2) (v.heap.size + 1) 0 (kindD fs 0) := by
    rw [hV]
    have := World.ownsMap_made (v.alloc (.cells #[.func (.func 158) #[] #[], .func (.func 159) #[] #[], .func (.func 160) #[] #[], .func (.func 161) #[] #[]] 173)) Tryd.prog 2 (plainElem (H := Unit) Tryd.prog 2)
    simpa [kindD] using this.alloc (.cells #[.map (some (v.heap.size + 1))] 175)
  have b2 : Bx V (v.heap.size + 1 + 1) 175 #[.map (some (v.heap.size + 1))] := by rw [hV]; simpa using Bx.new ((v.alloc (.cells #[.func (.func 158) #[] #[], .func (.func 159) #[] #[], .func (.func 160) #[] #[], .func (.func 161) #[] #[]] 173)).alloc (.map #[] 0)) #[.map (some (v.heap.size + 1))] 175
  have hb1 : Below v.heap.size v V := by rw [hV]; exact (by repeat (first | exact Below.refl _ _ | refine Below.setCell ?_ (by first | omega | (simp <;> omega)) _ | refine Below.alloc ?_ (by first | omega | (simp <;> omega)) _ | refine Below.drew ?_))
  have hwv := hbel.size
  have h3v := b3.lt
  replace b3 := b3.below hb1
  replace hbel := hbel.trans (hb1.mono hbel.size)
  have hl3 := b3.lt
  obtain ⟨g1, hg1⟩ : ∃ g1, g1 = v.heap.size := ⟨_, rfl⟩
  have hwg : w.heap.size ≤ g1 := by rw [hg1]; exact hwv
  have hg31 : g3 < g1 := by rw [hg1]; exact h3v
  rw [← hV, ← hg1]
  rw [← hg1] at b1 b2 om
  clear hV hb1 hg1 hwv h3v v
  have ha0 := ha
  clear ha
  go_loopw [8, 13] (fun _ i wr => ∃ j : Nat, j ≤ fs.length ∧ i = .int .i64 j ∧ wr.ownsMap Tryd.prog 2 (plainElem Tryd.prog 2) (g1 + 1) j (kindD fs j) ∧ Bx wr g1 173 #[.func (.func 158) #[] #[], .func (.func 159) #[] #[], .func (.func 160) #[] #[], .func (.func 161) #[] #[]] ∧
      Bx wr (g1 + 1 + 1) 175 #[.map (some (g1 + 1))] ∧ Bx wr g3 2 #[.int .i64 B] ∧ Below w.heap.size w wr) (fun _ i _ => fs.length - (intOf i).toNat)
  case atStart => exact ⟨0, Nat.zero_le _, rfl, om, b1, b2, b3, hbel⟩
  case round =>
    obtain ⟨j, hj, rfl, hown, b1, b2, b3, hbel⟩ := hrel
    have hsz := hbel.size
    have hl1 := b2.lt
    by_cases hlt : j < fs.length
    · obtain ⟨b, off, rfl, p0, p1⟩ := (ha0.below hbel).at2 hlt
      have c2 := b2.at_ 0 rfl
      have hI := hz _ (elt_mem (F := pairF) hlt)
      have HD := Lib.hid (show kindD fs (j + 1) = (kindD fs j).put (.int .i64 (elt pairF fs j).2) (.lit (.int .i64 (elt pairF fs j).1)) from rfl)
      go_wp2_with (at_mapUpdate; refine wpList_mapUpdate_own _ rfl _ _ _ 175 rfl 2 2 key_int64 Tryd.underlying175 _ (g1 + 1) j _ rfl (hown.alloc _) (by unfold maxLen; omega) _ _ _ rfl rfl (keyOf_int_mk Tryd.underlying2 hI.2) _ [] (plainElem_int Tryd.underlying2 hI.1) ?_; intro w1 hown1 hgrow1)
      go_roundw
      case rel => exact ⟨j + 1, by omega, by go_num, by rw [HD.out]; exact hown1, bx_grown (b1.alloc _) hgrow1 (by omega), bx_grown (b2.alloc _) hgrow1 (by omega), bx_grown (b3.alloc _) hgrow1 (by omega), (hbel.alloc hsz _).grown hgrow1 (by simp; omega) (fun k hk => by cases hk; omega)⟩
      case measure => (simp [intOf]) <;> omega
    · obtain rfl : j = fs.length := by omega
      go_wp2
      go_ret
      exact ⟨g1, g1 + 1 + 1, g3, rfl, ⟨b1, ⟨_, _, b2, hown⟩, b3⟩, hbel⟩
end Go.Proofs.YtgfopieojpjddaaDoor

/- LevQ -/
namespace Go.Proofs.YtgfopieojpjddaaDoor
open Go.RowKit Go.Maps

theorem ruleRight_any {B s c : Int} (hB : 2 ≤ B) (hB2 : B ≤ 16) (hs : 0 ≤ s) (hs2 : s ≤ 2 * (B - 1)) (hc : 0 ≤ c) (hc2 : c ≤ 1) (w : World) :
    Calls Tryd.prog 158 #[.int .i64 s, .int .i64 c, .int .i64 B] w fun e w' => e = .returned (.int .i64 (lcar B s c 0)) ∧ Below w.heap.size w w' := by
  have hb0 : ¬ B = 0 := by omega
  have hq : (s + c).tdiv B = (s + c) / B := Int.tdiv_eq_ediv_of_nonneg (by omega)
  have hw1 : IntKind.i64.wrap (s + c) = s + c := IntWalk.i64_in _ (by omega)
  have hb := carry_div hB hs hs2 hc hc2
  have hw2 : IntKind.i64.wrap ((s + c) / B) = (s + c) / B := IntWalk.i64_in _ (by rw [hb]; split <;> omega)
  have HR := Lib.hid (lcar_none hB hs hs2 hc hc2)
  clear hb
  go_enter Tryd.func158, Tryd.ntmps158
  go_wp2
  go_ret
  exact ⟨ret_int HR.out.symm, Below.refl _ _⟩
theorem ruleLate_any {B s c : Int} (hB : 2 ≤ B) (hB2 : B ≤ 16) (hs : 0 ≤ s) (hs2 : s ≤ 2 * (B - 1)) (hc : 0 ≤ c) (_ : c ≤ 1) (w : World) :
    Calls Tryd.prog 161 #[.int .i64 s, .int .i64 c, .int .i64 B] w fun e w' => e = .returned (.int .i64 (lcar B s c 3)) ∧ Below w.heap.size w w' := by
  have hb0 : ¬ B = 0 := by omega
  have hq : s.tdiv B = s / B := Int.tdiv_eq_ediv_of_nonneg (by omega)
  have hb := carry_div (c := 0) hB hs hs2 (by omega) (by omega)
  rw [Int.add_zero] at hb
  have hw2 : IntKind.i64.wrap (s / B) = s / B := IntWalk.i64_in _ (by rw [hb]; split <;> omega)
  have HR := Lib.hid (lcar_late hB hs hs2 hc)
  clear hb
  go_enter Tryd.func161, Tryd.ntmps161
  go_wp2
  go_ret
  exact ⟨ret_int HR.out.symm, Below.refl _ _⟩
theorem ruleNever_any (B s c : Int) (w : World) :
    Calls Tryd.prog 159 #[.int .i64 s, .int .i64 c, .int .i64 B] w fun e w' => e = .returned (.int .i64 (lcar B s c 1)) ∧ Below w.heap.size w w' := by
  have HR := Lib.hid (lcar_missing B s c)
  go_enter Tryd.func159, Tryd.ntmps159
  go_wp2
  go_ret
  exact ⟨ret_int HR.out.symm, Below.refl _ _⟩
theorem ruleAlways_any (B s c : Int) (w : World) :
    Calls Tryd.prog 160 #[.int .i64 s, .int .i64 c, .int .i64 B] w fun e w' => e = .returned (.int .i64 (lcar B s c 2)) ∧ Below w.heap.size w w' := by
  have HR := Lib.hid (lcar_stuck B s c)
  go_enter Tryd.func160, Tryd.ntmps160
  go_wp2
  go_ret
  exact ⟨ret_int HR.out.symm, Below.refl _ _⟩

set_option maxRecDepth 100000 in
set_option maxHeartbeats 4000000 in
theorem fltPlace_any (w : World) (g1 g2 g3 : Nat) (B : Int) (fs : List (Int × Int)) (hF : FltAdd w g1 g2 g3 B fs) (hB : 2 ≤ B) (hB2 : B ≤ 16) (k : Nat) (hk : k ≤ 16) (c x y : Int) (hc : 0 ≤ c ∧ c ≤ 1) (hx : 0 ≤ x ∧ x < B) (hy : 0 ≤ y ∧ y < B) (hkd : 0 ≤ kds fs k ∧ kds fs k ≤ 3) :
    Calls Tryd.prog 142 #[.int .i64 (k : Int), .int .i64 c, .int .i64 x, .int .i64 y, .pointer (some ⟨g1, 0, none⟩), .pointer (some ⟨g2, 0, none⟩), .pointer (some ⟨g3, 0, none⟩)] w fun e w' =>
      e = .returned (.tuple #[.int .i64 ((x + y + c) % B), .int .i64 (lcar B (x + y) c (kds fs k))]) ∧ Below w.heap.size w w' := by
  obtain ⟨h1, ⟨M, n, h2, hown⟩, h3⟩ := hF
  have c2 := h2.at_ 0 rfl
  have r0 := h1.at_ 0 rfl
  have r1 := h1.at_ 1 rfl
  have r2 := h1.at_ 2 rfl
  have r3 := h1.at_ 3 rfl
  have q3 := kept_after (h3.at_ 0 rfl)
  have hat0 := kindD_at fs (k : Int) fs.length
  rw [show kindAt fs fs.length (k : Int) = kds fs k from rfl] at hat0
  obtain ⟨kd, hkk⟩ : ∃ kd, kd = kds fs k := ⟨_, rfl⟩
  rw [← hkk] at hat0 hkd ⊢
  have hI : I64 (k : Int) := i64_of (by omega) (by omega)
  have H0 := Lib.hid hat0
  have hb0 : ¬ B = 0 := by omega
  have hrem : (x + y + c).tmod B = (x + y + c) % B := Int.tmod_eq_emod_of_nonneg (by omega)
  have hw1 : IntKind.i64.wrap (x + y) = x + y := IntWalk.i64_in _ (by omega)
  have hw2 : IntKind.i64.wrap (x + y + c) = x + y + c := IntWalk.i64_in _ (by omega)
  have hk' : kd = 0 ∨ kd = 1 ∨ kd = 2 ∨ kd = 3 := by omega
  have HC0 := Lib.hid (ruleRight_any hB hB2 (s := x + y) (by omega) (by omega) hc.1 hc.2)
  have HC3 := Lib.hid (ruleLate_any hB hB2 (s := x + y) (by omega) (by omega) hc.1 hc.2)
  have HC1 := Lib.hid (ruleNever_any B (x + y) c)
  have HC2 := Lib.hid (ruleAlways_any B (x + y) c)
  clear h1 h2 h3 hat0 hkk hkd hx hy hc
  rcases hk' with rfl | rfl | rfl | rfl
  all_goals
    go_enter Tryd.func142, Tryd.ntmps142
    go_wp2_with (at_lookup; refine wpList_lookup_own_int _ rfl _ _ 175 rfl 2 2 .i64 key_int64 Tryd.underlying175 Tryd.underlying2 (zero_int64 _) M n _ rfl hown _ _ rfl (keyOf_int_mk Tryd.underlying2 hI) ?_; intro cc hat hwc; rw [H0.out] at hat; injection hat with hat; injection hat with _ hat; subst hat)
    refine wp_region_after (by kernel_rfl) (by kernel_rfl) ?_
    repeat (go_big_quiet_step (first | (go_at_call 158; exact calls_after (HC0.out _)) | (go_at_call 159; exact calls_after (HC1.out _)) | (go_at_call 160; exact calls_after (HC2.out _)) | (go_at_call 161; exact calls_after (HC3.out _))))
    refine wpQuiet_nil ?_
    intro u
    go_wp2
    first
      | exact bodyPost_ret (v := .tuple #[.int .i64 ((x + y + c) % B), .int .i64 (lcar B (x + y) c 0)]) (by simp [results, Tryd.results142, go_sem]) rfl ⟨rfl, u.ok⟩
      | exact bodyPost_ret (v := .tuple #[.int .i64 ((x + y + c) % B), .int .i64 (lcar B (x + y) c 1)]) (by simp [results, Tryd.results142, go_sem]) rfl ⟨rfl, u.ok⟩
      | exact bodyPost_ret (v := .tuple #[.int .i64 ((x + y + c) % B), .int .i64 (lcar B (x + y) c 2)]) (by simp [results, Tryd.results142, go_sem]) rfl ⟨rfl, u.ok⟩
      | exact bodyPost_ret (v := .tuple #[.int .i64 ((x + y + c) % B), .int .i64 (lcar B (x + y) c 3)]) (by simp [results, Tryd.results142, go_sem]) rfl ⟨rfl, u.ok⟩
end Go.Proofs.YtgfopieojpjddaaDoor

/- PlusF -/
namespace Go.Proofs.YtgfopieojpjddaaDoor
open Go.RowKit

set_option maxRecDepth 100000 in
set_option maxHeartbeats 4000000 in
theorem plusByF_any (g1 g2 g3 : Nat) (B : Int) (a b : Option Addr) (c d : Nat) (xs ys : List Int) (w : World) (ha : Rd w a xs) (hb : Rd w b ys) (fs : List (Int × Int)) (hF : FltAdd w g1 g2 g3 B fs) (hK : ∀ k, 0 ≤ kds fs k ∧ kds fs k ≤ 3) (hB1 : 2 ≤ B) (hB2 : B ≤ 16) (hlen : xs.length ≤ 16) (hl : xs.length = ys.length)
    (hx : ∀ k, k < xs.length → 0 ≤ nth xs k ∧ nth xs k < B) (hy : ∀ k, k < xs.length → 0 ≤ nth ys k ∧ nth ys k < B) :
    Calls Tryd.prog 140 #[.slice a xs.length c, .slice b ys.length d, .func (.func 142) #[] #[.pointer (some ⟨g1, 0, none⟩), .pointer (some ⟨g2, 0, none⟩), .pointer (some ⟨g3, 0, none⟩)]] w fun e w' => ∃ A C, e = .returned (.tuple #[.slice A xs.length C, .int .i64 ((lcK B xs ys (kds fs)) xs.length)]) ∧
      Own 2 w' w.heap.size w'.heap.size (.slice A xs.length C) (tab (levD B xs ys (kds fs)) xs.length) ∧ Below w.heap.size w w' := by
  have HL := Lib.hid hl
  have HX := Lib.hid hx
  have HY := Lib.hid hy
  clear hl hx hy
  obtain ⟨g, hg⟩ : ∃ g, g = w.heap.size := ⟨_, rfl⟩
  have HG := Lib.hid hg
  go_enter Tryd.func140, Tryd.ntmps140
  go_wp2_with (at_make; refine wpList_makeI rfl (.tmp 12) (.tmp 12) 112 2 rfl Tryd.underlying112 info_int64 xs.length rfl rfl (by omega) ?_; intro w1 hown1 hb1)
  rw [← hg] at hown1 hb1 ⊢
  have hl1 := hown1.block
  have ow1 : Own 2 w1 g (g + 1) (.slice (some ⟨g, 0, none⟩) xs.length xs.length) (pad xs.length (tab (levD B xs ys (kds fs)) 0)) := ⟨hown1.row, fun k hk => by simp [Value.ownBlock] at hk; omega, hown1.len⟩
  clear hg hown1
  go_loopw [9, 10, 16] (fun cr _ i wr => ∃ k : Nat, k ≤ xs.length ∧ cr = .int .i64 ((lcK B xs ys (kds fs)) k) ∧ i = .int .i64 k ∧ Own 2 wr g (g + 1) (.slice (some ⟨g, 0, none⟩) xs.length xs.length) (pad xs.length (tab (levD B xs ys (kds fs)) k)) ∧ Below g w wr ∧ g < wr.heap.size) (fun _ _ i _ => xs.length - (intOf i).toNat)
  case atStart => exact ⟨0, Nat.zero_le _, rfl, rfl, ow1, hb1, hl1.2.2⟩
  case round =>
    obtain ⟨k, hk, hcr, hi, own, hbel, hgs⟩ := hrel
    subst hcr hi
    have hbw : Below w.heap.size w wr := by rw [← HG.out]; exact hbel
    by_cases hlt : k < xs.length
    · obtain ⟨p1, o1, rfl, hc1⟩ := ha.at_ hlt
      have hlt2 : k < ys.length := by rw [← HL.out]; exact hlt
      obtain ⟨p2, o2, rfl, hc2⟩ := hb.at_ hlt2
      have k1 := kept_all (kept hbw hc1)
      have k2 := kept_all (kept hbw hc2)
      have hx := HX.out k hlt
      have hy := HY.out k hlt
      have hcb := lcK_bd B xs ys (kds fs) k
      have HD := Lib.hid (show levD B xs ys (kds fs) k = (nth xs k + nth ys k + lcK B xs ys (kds fs) k) % B from rfl)
      have HC := Lib.hid (show lcK B xs ys (kds fs) (k + 1) = lcar B (nth xs k + nth ys k) (lcK B xs ys (kds fs) k) (kds fs k) from rfl)
      have HP := Lib.hid (fltPlace_any wr.drew g1 g2 g3 B fs (hF.below hbw.drew) hB1 hB2 k (by omega) (lcK B xs ys (kds fs) k) (nth xs k) (nth ys k) hcb hx hy (hK k))
      obtain ⟨dv, hdv⟩ : ∃ dv, dv = (nth xs k + nth ys k + lcK B xs ys (kds fs) k) % B := ⟨_, rfl⟩
      obtain ⟨cv, hcv⟩ : ∃ cv, cv = lcar B (nth xs k + nth ys k) (lcK B xs ys (kds fs) k) (kds fs k) := ⟨_, rfl⟩
      rw [← hdv] at HD HP
      rw [← hcv] at HC HP
      clear hdv hcv
      go_wp2
      refine wp_region_marked (fun w' => Below wr.heap.size wr w') 18 (by kernel_rfl) ?_
      have hS : Below wr.heap.size wr wr.drew := (Below.refl _ _).drew
      refine wpAnyM_take (i := 0) (v := ?_) rfl (by kernel_rfl) (by kernel_rfl) (by kernel_rfl) (by kernel_rfl) (by kernel_rfl) (fun _ _ _ h => h) hS (.inl ⟨by rfl, ?_⟩) ?_
      rotate_left 1
      · intro w' hS'; go_simp; try with_reducible rfl
      simp only [Act.put, List.setIfInBounds_toArray]
      refine wpAnyM_take (i := 1) (v := ?_) rfl (by kernel_rfl) (by kernel_rfl) (by kernel_rfl) (by kernel_rfl) (by kernel_rfl) (fun _ _ _ h => h) hS (.inl ⟨by rfl, ?_⟩) ?_
      rotate_left 1
      · intro w' hS'; go_simp; try with_reducible rfl
      simp only [Act.put]
      refine wpAnyM_take (i := 2) (v := ?_) rfl (by kernel_rfl) (by kernel_rfl) (by kernel_rfl) (by kernel_rfl) (by kernel_rfl) (fun _ _ _ h => h) hS (.inl ⟨by rfl, ?_⟩) ?_
      rotate_left 1
      · intro w' hS'; go_simp; try with_reducible rfl
      simp only [Act.put]
      refine wpAnyM_take (i := 3) (v := ?_) rfl (by kernel_rfl) (by kernel_rfl) (by kernel_rfl) (by kernel_rfl) (by kernel_rfl) (fun _ _ _ h => h) hS (.inl ⟨by rfl, ?_⟩) ?_
      rotate_left 1
      · intro w' hS'; go_simp; try with_reducible rfl
      simp only [Act.put]
      refine wpAnyM_take (i := 4) (v := ?_) rfl (by kernel_rfl) (by kernel_rfl) (by kernel_rfl) (by kernel_rfl) (by kernel_rfl) (fun _ _ _ h => h) hS (.inl ⟨by rfl, ?_⟩) ?_
      rotate_left 1
      · intro w' hS'; go_simp; try with_reducible rfl
      simp only [Act.put]
      refine wpAnyM_take (i := 5) (v := ?_) rfl (by kernel_rfl) (by kernel_rfl) (by kernel_rfl) (by kernel_rfl) (by kernel_rfl) (fun _ _ _ h => h) hS (.inl ⟨by rfl, ?_⟩) ?_
      rotate_left 1
      · intro w' hS'; go_simp; try with_reducible rfl
      simp only [Act.put]
      refine wpAnyM_take (i := 6) (v := ?_) rfl (by kernel_rfl) (by kernel_rfl) (by kernel_rfl) (by kernel_rfl) (by kernel_rfl) (fun _ _ _ h => h) hS (.inl ⟨by rfl, ?_⟩) ?_
      rotate_left 1
      · intro w' hS'; go_simp; try with_reducible rfl
      simp only [Act.put]
      refine wpAnyM_take (i := 7) (v := ?_) rfl (by kernel_rfl) (by kernel_rfl) (by kernel_rfl) (by kernel_rfl) (by kernel_rfl) (fun _ _ _ h => h) hS (.inl ⟨by rfl, ?_⟩) ?_
      rotate_left 1
      · intro w' hS'; go_simp; try with_reducible rfl
      simp only [Act.put]
      refine wpAnyM_take (i := 8) (v := ?_) rfl (by kernel_rfl) (by kernel_rfl) (by kernel_rfl) (by kernel_rfl) (by kernel_rfl) (fun _ _ _ h => h) hS (.inl ⟨by rfl, ?_⟩) ?_
      rotate_left 1
      · intro w' hS'; go_simp; try with_reducible rfl
      simp only [Act.put]
      refine wpAnyM_take (i := 9) (v := ?_) rfl (by kernel_rfl) (by kernel_rfl) (by kernel_rfl) (by kernel_rfl) (by kernel_rfl) (fun _ _ _ h => h) hS (.inl ⟨by rfl, ?_⟩) ?_
      rotate_left 1
      · intro w' hS'; go_simp; try with_reducible rfl
      simp only [Act.put]
      refine wpAnyM_take (i := 10) (v := ?_) rfl (by kernel_rfl) (by kernel_rfl) (by kernel_rfl) (by kernel_rfl) (by kernel_rfl) (fun _ _ _ h => h) hS (.inl ⟨by rfl, ?_⟩) ?_
      rotate_left 1
      · intro w' hS'; go_simp; try with_reducible rfl
      simp only [Act.put]
      refine wpAnyM_take (i := 11) (v := ?_) rfl (by kernel_rfl) (by kernel_rfl) (by kernel_rfl) (by kernel_rfl) (by kernel_rfl) (fun _ _ _ h => h) hS (.inl ⟨by rfl, ?_⟩) ?_
      rotate_left 1
      · intro w' hS'; go_simp; try with_reducible rfl
      simp only [Act.put]
      refine wpAnyM_take (i := 12) (v := ?_) rfl (by kernel_rfl) (by kernel_rfl) (by kernel_rfl) (by kernel_rfl) (by kernel_rfl) (fun _ _ _ h => h) hS (.inl ⟨by rfl, ?_⟩) ?_
      rotate_left 1
      · intro w' hS'; go_simp; try with_reducible rfl
      simp only [Act.put]
      clear k1 k2
      refine wpAnyM_one (i := 13) (by kernel_rfl) rfl (by rfl) (fun K hK => ?_)
      go_simp
      refine HP.out.mono ?_
      rintro e w2 ⟨rfl, hb2⟩
      have hS1 : Below wr.heap.size wr w2 := hS.trans hb2
      have own2 := own.below hS1
      have hbel2 := hbel.trans (hS1.mono (Nat.le_of_lt hgs))
      have hgs2 : g < w2.heap.size := Nat.lt_of_lt_of_le hgs hS1.size
      have c1 := own2.get (j := k) (by rw [pad_tab_len (by omega)]; omega)
      have t1 := own2.thaw k
      have q1 := own2.put k dv
      rw [pad_tab_set hlt dv HD.out] at q1
      have Q1 := Lib.hid q1
      clear own own2 q1 hS hb2
      refine hK _ _ (.inr hS1) ?_
      try simp only [Act.put, List.setIfInBounds_toArray]
      clear hK K
      refine wpAnyM_take (i := 14) (v := ?_) rfl (by kernel_rfl) (by kernel_rfl) (by kernel_rfl) (by kernel_rfl) (by kernel_rfl) (fun _ _ _ h => h) hS1 (.inl ⟨by rfl, ?_⟩) ?_
      rotate_left 1
      · intro w' hS'; go_simp; try with_reducible rfl
      simp only [Act.put, List.setIfInBounds_toArray]
      refine wpAnyM_take (i := 15) (v := ?_) rfl (by kernel_rfl) (by kernel_rfl) (by kernel_rfl) (by kernel_rfl) (by kernel_rfl) (fun _ _ _ h => h) hS1 (.inl ⟨by rfl, ?_⟩) ?_
      rotate_left 1
      · intro w' hS'; go_simp; try with_reducible rfl
      simp only [Act.put]
      refine wpAnyM_take (i := 17) (v := ?_) rfl (by kernel_rfl) (by kernel_rfl) (by kernel_rfl) (by kernel_rfl) (by kernel_rfl) (fun _ _ _ h => h) hS1 (.inl ⟨by rfl, ?_⟩) ?_
      rotate_left 1
      · intro w' hS'; go_simp; try with_reducible rfl
      simp only [Act.put]
      refine wpAnyM_two (i := 16) (j := 18) (by kernel_rfl) rfl rfl (by rfl) (by rfl) (fun K hK => ?_) (fun K hK => ?_)
      · go_simp
        refine hK _ _ (.inr hS1) ?_
        try simp only [Act.put, List.setIfInBounds_toArray]
        clear hK K
        refine wpAnyM_one (i := 18) (by kernel_rfl) rfl (by rfl) (fun K hK => ?_)
        go_simp
        refine hK _ _ (.inl rfl) ?_
        clear hK K
        try simp only [Act.put, List.setIfInBounds_toArray]
        refine wpAnyM_one (i := 19) (by kernel_rfl) rfl (by rfl) (fun K hK => ?_)
        go_simp
        refine hK _ _ (.inl rfl) ?_
        clear hK K
        try simp only [Act.put, List.setIfInBounds_toArray]
        refine wpAnyM_done (by kernel_rfl) ?_ _
        go_wp2
        go_roundw
        case rel => exact ⟨k + 1, by omega, by rw [HC.out], by go_num, Q1.out, hbel2.setCell (p := ⟨g, k, none⟩) (Nat.le_refl _) _, by simpa using hgs2⟩
        case measure => (simp [intOf]) <;> omega
      · go_simp
        refine hK _ _ (.inl rfl) ?_
        try simp only [Act.put, List.setIfInBounds_toArray]
        clear hK K
        refine wpAnyM_one (i := 16) (by kernel_rfl) rfl (by rfl) (fun K hK => ?_)
        go_simp
        refine hK _ _ (.inl rfl) ?_
        clear hK K
        try simp only [Act.put, List.setIfInBounds_toArray]
        refine wpAnyM_one (i := 19) (by kernel_rfl) rfl (by rfl) (fun K hK => ?_)
        go_simp
        refine hK _ _ (.inl rfl) ?_
        clear hK K
        try simp only [Act.put, List.setIfInBounds_toArray]
        refine wpAnyM_done (by kernel_rfl) ?_ _
        go_wp2
        go_roundw
        case rel => exact ⟨k + 1, by omega, by rw [HC.out], by go_num, Q1.out, hbel2.setCell (p := ⟨g, k, none⟩) (Nat.le_refl _) _, by simpa using hgs2⟩
        case measure => (simp [intOf]) <;> omega
    · obtain rfl : k = xs.length := by omega
      rw [pad_tab_all] at own
      go_wp2
      refine bodyPost_ret (v := .tuple #[.slice (some ⟨g, 0, none⟩) xs.length xs.length, .int .i64 ((lcK B xs ys (kds fs)) xs.length)]) (by simp [results, Tryd.results140, go_sem]) rfl ?_
      exact ⟨_, _, rfl, own.wide (by rw [← HG.out]; exact Nat.le_refl _) (by omega), hbw⟩
end Go.Proofs.YtgfopieojpjddaaDoor

/- AddByF -/
namespace Go.Proofs.YtgfopieojpjddaaDoor
open Go.RowKit

set_option maxRecDepth 100000 in
set_option maxHeartbeats 4000000 in
theorem addByF_any (g1 g2 g3 : Nat) (B D : Int) (a b : Option Addr) (c d : Nat) (xs ys : List Int) (w : World) (ha : Rd w a xs) (hb : Rd w b ys) (fs : List (Int × Int)) (hF : FltAdd w g1 g2 g3 B fs) (hK : ∀ k, 0 ≤ kds fs k ∧ kds fs k ≤ 3) (hB1 : 2 ≤ B) (hB2 : B ≤ 16) (hlen : xs.length ≤ 16) (hl : xs.length = ys.length)
    (hx : ∀ k, k < xs.length → 0 ≤ nth xs k ∧ nth xs k < B) (hy : ∀ k, k < xs.length → 0 ≤ nth ys k ∧ nth ys k < B) (bB : I64 B) :
    Calls Tryd.prog 107 #[.agg #[.int .i64 B, .slice a xs.length c], .agg #[.int .i64 D, .slice b ys.length d], .func (.func 142) #[] #[.pointer (some ⟨g1, 0, none⟩), .pointer (some ⟨g2, 0, none⟩), .pointer (some ⟨g3, 0, none⟩)]] w (reg4Post (finR4 B (tab (levD B xs ys (kds fs)) xs.length) ((lcK B xs ys (kds fs)) xs.length)) w) := by
  have HX := Lib.hid hx
  have HY := Lib.hid hy
  have HL := Lib.hid hl
  clear hx hy hl
  go_enter Tryd.func107, Tryd.ntmps107
  go_wp2_with fail
  obtain ⟨u, hu⟩ : ∃ u, u = ((w.alloc (.cells #[.int .i64 B, .slice a xs.length c] 47)).alloc (.cells #[.int .i64 D, .slice b ys.length d] 47)).alloc (.cells #[.int .i64 0, .slice none 0 0] 47) := ⟨_, rfl⟩
  rw [← hu]
  have hbel : Below w.heap.size w u := by rw [hu]; exact (by repeat (first | exact Below.refl _ _ | refine Below.setCell ?_ (by first | omega | (simp <;> omega)) _ | refine Below.alloc ?_ (by first | omega | (simp <;> omega)) _ | refine Below.drew ?_))
  have ax : Bx u w.heap.size 47 #[.int .i64 B, .slice a xs.length c] := by rw [hu]; exact ((Bx.new _ _ _).alloc _).alloc _
  have ar : Bx u (w.heap.size + 1 + 1) 47 #[.int .i64 0, .slice none 0 0] := by rw [hu]; simpa using Bx.new ((w.alloc (.cells #[.int .i64 B, .slice a xs.length c] 47)).alloc (.cells #[.int .i64 D, .slice b ys.length d] 47)) #[.int .i64 0, .slice none 0 0] 47
  replace ha := ha.below hbel
  replace hb := hb.below hbel
  replace hF := hF.below hbel
  clear hu
  refine (plusByF_any g1 g2 g3 B a b c d xs ys u ha hb fs hF hK hB1 hB2 hlen HL.out HX.out HY.out).mono ?_
  rintro e w2 ⟨A1, C1, rfl, own1, hb2⟩
  have hA : All64 (tab (levD B xs ys (kds fs)) xs.length) := all64_tab hB2 (fun k _ => ⟨Int.emod_nonneg _ (by omega), Int.emod_lt_of_pos _ (by omega)⟩)
  have hvs := ar.lt
  replace ax := ax.below hb2
  replace ar := ar.below hb2
  replace hbel := hbel.trans (hb2.mono hbel.size)
  have c0 := ax.at_ 0 rfl
  clear hb2
  cases hk : okB B (tab (levD B xs ys (kds fs)) xs.length) with
  | true =>
    have HR := Lib.hid (finR4_ok (c := (lcK B xs ys (kds fs)) xs.length) hk)
    have hfin := finish_ok B A1 C1 (tab (levD B xs ys (kds fs)) xs.length) w2 own1.rd hA bB hk
    rw [tab_len] at hfin
    go_wp2_with fail
    refine hfin.mono ?_
    rintro e w3 ⟨rfl, hb2⟩
    replace ar := ar.below hb2
    replace own1 := own1.below hb2
    replace hbel := hbel.trans (hb2.mono hbel.size)
    have hs2 := hb2.size
    have hws := ar.lt
    have r0 := ar.at_ 0 rfl
    have r1 := ar.at_ 1 rfl
    have f0 := ar.thaw 0
    have f1 := ar.thaw 1
    have zz := ar.put2 (.int .i64 B) (.slice A1 xs.length C1) (.cells #[.int .i64 B, .slice A1 xs.length C1] 47)
    clear hb2 hk hfin
    go_wp2
    exact bodyPost_ret (v := .tuple #[.agg #[.int .i64 B, .slice A1 xs.length C1], .int .i64 ((lcK B xs ys (kds fs)) xs.length), .int .i64 0]) (by simp [results, Tryd.results107, go_sem, zz.1, zz.2]) rfl
      (reg4_ok HR.out (tab_len _ _) rfl (lo := u.heap.size) (hi := w2.heap.size) (((own1.setCell (p := ⟨w.heap.size + 1 + 1, 0, none⟩) (.inl (by simp; omega)) _).setCell (p := ⟨w.heap.size + 1 + 1, 1, none⟩) (.inl (by simp; omega)) _).alloc _) (by omega) (by simp; omega) (by repeat (first | exact hbel | refine Below.setCell ?_ (by first | omega | (simp <;> omega)) _ | refine Below.alloc ?_ (by first | omega | (simp <;> omega)) _ | refine Below.drew ?_)))
  | false =>
    have HR := Lib.hid (finR4_bad (c := (lcK B xs ys (kds fs)) xs.length) hk)
    have hfin := finish_full B A1 C1 (tab (levD B xs ys (kds fs)) xs.length) w2 own1.rd hA bB hk
    rw [tab_len] at hfin
    go_wp2_with fail
    refine hfin.mono ?_
    rintro e w3 ⟨rfl, hb2⟩
    replace ar := ar.below hb2
    replace hbel := hbel.trans (hb2.mono hbel.size)
    clear hb2 hk hfin
    have r0 := ar.at_ 0 rfl
    have r1 := ar.at_ 1 rfl
    have f0 := ar.thaw 0
    have f1 := ar.thaw 1
    have hws := ar.lt
    have zz := ar.put2 (.int .i64 0) (.slice none 0 0) (.cells #[.int .i64 0, .slice none 0 0] 47)
    go_wp2
    exact bodyPost_ret (v := .tuple #[.agg #[.int .i64 0, .slice none 0 0], .int .i64 0, .int .i64 5]) (by simp [results, Tryd.results107, go_sem, zz.1, zz.2]) rfl
      (reg4_err HR.out rfl (by repeat (first | exact hbel | refine Below.setCell ?_ (by first | omega | (simp <;> omega)) _ | refine Below.alloc ?_ (by first | omega | (simp <;> omega)) _ | refine Below.drew ?_)))
end Go.Proofs.YtgfopieojpjddaaDoor

/- AwfS -/
namespace Go.Proofs.YtgfopieojpjddaaDoor
open Go.RowKit

theorem awf_bad {b d : Int} {xs ys : List Int} {fs : List (Int × Int)} (h : ¬ twoE b xs d ys = 0) : awfR b xs d ys fs = (0, [], 0, twoE b xs d ys) := by simp [awfR, h]
theorem awf_form {b d : Int} {xs ys : List Int} {fs : List (Int × Int)} (h : twoE b xs d ys = 0) (h2 : faultsB (xs.length : Int) fs = false) : awfR b xs d ys fs = (0, [], 0, 8) := by simp [awfR, h, h2]
theorem awf_fin {b d : Int} {xs ys : List Int} {fs : List (Int × Int)} (h : twoE b xs d ys = 0) (h2 : faultsB (xs.length : Int) fs = true) : awfR b xs d ys fs = finR4 b (tab (levD b xs ys (kds fs)) xs.length) (lcK b xs ys (kds fs) xs.length) := by simp [awfR, h, h2, finR4]

end Go.Proofs.YtgfopieojpjddaaDoor

/- AwfI -/
namespace Go.Proofs.YtgfopieojpjddaaDoor
open Go.RowKit

set_option maxRecDepth 100000 in
set_option maxHeartbeats 4000000 in
theorem implAddWithFaults (xB : Int) (xA : Option Addr) (xC : Nat) (xZ : List Int) (yB : Int) (yA : Option Addr) (yC : Nat) (yZ : List Int) (f : Option Addr) (fc : Nat) (fs : List (Int × Int)) (w : World) (ha : Rd w xA xZ) (zx : All64 xZ) (bx : I64 xB) (hb : Rd w yA yZ) (zy : All64 yZ) (by_ : I64 yB) (hf : RdF pairF w f fs) (hz : All2 fs) :
    Calls Tryd.prog 55 #[.agg #[.int .i64 xB, .slice xA xZ.length xC], .agg #[.int .i64 yB, .slice yA yZ.length yC], .slice f fs.length fc] w (reg4Post (awfR xB xZ yB yZ fs) w) := by
  go_enter Tryd.func55, Tryd.ntmps55
  go_wp2_with fail
  obtain ⟨u, hu⟩ : ∃ u, u = ((w.alloc (.cells #[.int .i64 xB, .slice xA xZ.length xC] 47)).alloc (.cells #[.int .i64 yB, .slice yA yZ.length yC] 47)).alloc (.cells #[.int .i64 0, .slice none 0 0] 47) := ⟨_, rfl⟩
  rw [← hu]
  obtain ⟨g, hg⟩ : ∃ g, g = w.heap.size := ⟨_, rfl⟩
  have hbel : Below w.heap.size w u := by rw [hu]; exact (by repeat (first | exact Below.refl _ _ | refine Below.setCell ?_ (by first | omega | (simp <;> omega)) _ | refine Below.alloc ?_ (by first | omega | (simp <;> omega)) _ | refine Below.drew ?_))
  have ax : Bx u w.heap.size 47 #[.int .i64 xB, .slice xA xZ.length xC] := by rw [hu]; exact ((Bx.new _ _ _).alloc _).alloc _
  have ay : Bx u (w.heap.size + 1) 47 #[.int .i64 yB, .slice yA yZ.length yC] := by rw [hu]; exact Bx.alloc (by simpa using Bx.new (w.alloc (.cells #[.int .i64 xB, .slice xA xZ.length xC] 47)) #[.int .i64 yB, .slice yA yZ.length yC] 47) _
  have ar : Bx u (w.heap.size + 1 + 1) 47 #[.int .i64 0, .slice none 0 0] := by rw [hu]; simpa using Bx.new ((w.alloc (.cells #[.int .i64 xB, .slice xA xZ.length xC] 47)).alloc (.cells #[.int .i64 yB, .slice yA yZ.length yC] 47)) #[.int .i64 0, .slice none 0 0] 47
  replace ha := ha.below hbel
  replace hb := hb.below hbel
  replace hf := hf.below hbel
  rw [← hg] at ax ay ar ⊢
  have HG := Lib.hid hg
  have hgl := hbel.size
  rw [← hg] at hgl
  clear hu hg
  refine (pairCode_any xB xA xC xZ yB yA yC yZ u ha zx bx hb zy by_).mono ?_
  rintro e v ⟨rfl, hb1⟩
  replace ha := ha.below hb1
  replace hb := hb.below hb1
  replace hf := hf.below hb1
  replace ax := ax.below hb1
  replace ay := ay.below hb1
  replace ar := ar.below hb1
  replace hbel := hbel.trans (hb1.mono hbel.size)
  clear hb1 hgl u
  have c0 := ax.at_ 0 rfl
  have c1 := ax.at_ 1 rfl
  have d0 := ay.at_ 0 rfl
  have d1 := ay.at_ 1 rfl
  by_cases h : twoE xB xZ yB yZ = 0
  · have HX := Lib.hid (okB_spec (twoE_zero h).1)
    have HW := Lib.hid (twoE_zero h)
    have ht : (twoE xB xZ yB yZ != 0) = false := by simp [h]
    have HY := Lib.hid (show ∀ k, k < xZ.length → 0 ≤ nth yZ k ∧ nth yZ k < xB by have h1 := HW.out.2.2; intro k hk; have h2 := digit_of_ok HW.out.2.1 k (by omega); omega)
    have hI : I64 (xZ.length : Int) := i64_of (by omega) (by have := ha.len; omega)
    cases hv : faultsB (xZ.length : Int) fs with
    | false =>
      have HR := Lib.hid (awf_form h hv)
      have HC := Lib.hid (implValidFaults_at (xZ.length : Int) f fc fs v hv hI hf hz)
      clear h hv
      go_wp2_with fail
      refine HC.out.mono ?_
      rintro e w2 ⟨rfl, hb2⟩
      replace ar := ar.below hb2
      replace hbel := hbel.trans (hb2.mono hbel.size)
      clear hb2 HC
      have r0 := ar.at_ 0 rfl
      have r1 := ar.at_ 1 rfl
      have f0 := ar.thaw 0
      have f1 := ar.thaw 1
      go_wp2
      have hg := HG.out
      exact bodyPost_ret (v := .tuple #[.agg #[.int .i64 0, .slice none 0 0], .int .i64 0, .int .i64 8]) (by simp [results, Tryd.results55, go_sem, r0, r1]) rfl (reg4_err HR.out rfl (by repeat (first | exact hbel | refine Below.setCell ?_ (by first | omega | (simp <;> omega)) _ | refine Below.alloc ?_ (by first | omega | (simp <;> omega)) _ | refine Below.drew ?_)))
    | true =>
      have HF := Lib.hid (awf_fin h hv)
      have HC := Lib.hid (implValidFaults_at (xZ.length : Int) f fc fs v hv hI hf hz)
      have HV := Lib.hid (kds_bd hv)
      clear h hv
      go_wp2_with fail
      refine HC.out.mono ?_
      rintro e w2 ⟨rfl, hb2⟩
      replace ha := ha.below hb2
      replace hb := hb.below hb2
      replace hf := hf.below hb2
      replace ax := ax.below hb2
      replace ay := ay.below hb2
      replace ar := ar.below hb2
      replace hbel := hbel.trans (hb2.mono hbel.size)
      clear hb2 HC c0 c1 d0 d1 v
      have c0 := kept_all (ax.at_ 0 rfl)
      have c1 := kept_all (ax.at_ 1 rfl)
      have d0 := kept_all (ay.at_ 0 rfl)
      have d1 := kept_all (ay.at_ 1 rfl)
      have hws := ar.lt
      have hI3 : ∀ k, 0 ≤ kds fs k ∧ kds fs k ≤ 3 := HV.out
      go_upto_region 6 with fail
      refine wp_region_marked (fun w' => Below w2.heap.size w2 w') 10 (by kernel_rfl) ?_
      have hS : Below w2.heap.size w2 w2.drew := (Below.refl _ _).drew
      refine wpAnyM_take (i := 0) (v := ?_) rfl (by kernel_rfl) (by kernel_rfl) (by kernel_rfl) (by kernel_rfl) (by kernel_rfl) (fun _ _ _ h => h) hS (.inl ⟨by rfl, ?_⟩) ?_
      rotate_left 1
      · intro w' hS'; go_simp; try with_reducible rfl
      simp only [Act.put, List.setIfInBounds_toArray]
      refine wpAnyM_take (i := 1) (v := ?_) rfl (by kernel_rfl) (by kernel_rfl) (by kernel_rfl) (by kernel_rfl) (by kernel_rfl) (fun _ _ _ h => h) hS (.inl ⟨by rfl, ?_⟩) ?_
      rotate_left 1
      · intro w' hS'; go_simp; try with_reducible rfl
      simp only [Act.put]
      refine wpAnyM_take (i := 2) (v := ?_) rfl (by kernel_rfl) (by kernel_rfl) (by kernel_rfl) (by kernel_rfl) (by kernel_rfl) (fun _ _ _ h => h) hS (.inl ⟨by rfl, ?_⟩) ?_
      rotate_left 1
      · intro w' hS'; go_simp; try with_reducible rfl
      simp only [Act.put]
      refine wpAnyM_take (i := 3) (v := ?_) rfl (by kernel_rfl) (by kernel_rfl) (by kernel_rfl) (by kernel_rfl) (by kernel_rfl) (fun _ _ _ h => h) hS (.inl ⟨by rfl, ?_⟩) ?_
      rotate_left 1
      · intro w' hS'; go_simp; try with_reducible rfl
      simp only [Act.put]
      refine wpAnyM_take (i := 4) (v := ?_) rfl (by kernel_rfl) (by kernel_rfl) (by kernel_rfl) (by kernel_rfl) (by kernel_rfl) (fun _ _ _ h => h) hS (.inl ⟨by rfl, ?_⟩) ?_
      rotate_left 1
      · intro w' hS'; go_simp; try with_reducible rfl
      simp only [Act.put]
      clear c0 c1 d0 d1
      refine wpAnyM_one (i := 5) (by kernel_rfl) rfl (by rfl) (fun K hK => ?_)
      go_simp
      refine (placesWithFaults_any xB f fc fs w2.drew hf.drew hz).mono ?_
      rintro e w3 ⟨g1, g2, g3, rfl, hF, hb3⟩
      have hS1 : Below w2.heap.size w2 w3 := hS.trans hb3
      refine hK _ _ (.inr hS1) ?_
      try simp only [Act.put, List.setIfInBounds_toArray]
      clear hK K
      refine wpAnyM_one (i := 6) (by kernel_rfl) rfl (by rfl) (fun K hK => ?_)
      go_simp
      refine (addByF_any g1 g2 g3 xB yB xA yA xC yC xZ yZ w3 (ha.below hS1) (hb.below hS1) fs hF hI3 HX.out.1 HX.out.2.1 HX.out.2.2.2.1 HW.out.2.2.2 (digit_of_ok HW.out.1) HY.out bx).mono ?_
      rintro e w4 ⟨A, C, rfl, own, hb4⟩
      have hS2 : Below w2.heap.size w2 w4 := hS1.trans (hb4.mono hS1.size)
      obtain ⟨R, hR⟩ : ∃ R, R = finR4 xB (tab (levD xB xZ yZ (kds fs)) xZ.length) (lcK xB xZ yZ (kds fs) xZ.length) := ⟨_, rfl⟩
      have HR := Lib.hid (HF.out.trans hR.symm)
      rw [← hR] at own ⊢
      have hs4 := hb4.size
      have hs3 := hS1.size
      clear hR
      refine hK _ _ (.inr hS2) ?_
      try simp only [Act.put, List.setIfInBounds_toArray]
      clear hK K
      refine wpAnyM_take (i := 7) (v := ?_) rfl (by kernel_rfl) (by kernel_rfl) (by kernel_rfl) (by kernel_rfl) (by kernel_rfl) (fun _ _ _ h => h) hS2 (.inl ⟨by rfl, ?_⟩) ?_
      rotate_left 1
      · intro w' hS'; go_simp; try with_reducible rfl
      simp only [Act.put, List.setIfInBounds_toArray]
      refine wpAnyM_take (i := 8) (v := ?_) rfl (by kernel_rfl) (by kernel_rfl) (by kernel_rfl) (by kernel_rfl) (by kernel_rfl) (fun _ _ _ h => h) hS2 (.inl ⟨by rfl, ?_⟩) ?_
      rotate_left 1
      · intro w' hS'; go_simp; try with_reducible rfl
      simp only [Act.put]
      refine wpAnyM_take (i := 9) (v := ?_) rfl (by kernel_rfl) (by kernel_rfl) (by kernel_rfl) (by kernel_rfl) (by kernel_rfl) (fun _ _ _ h => h) hS2 (.inl ⟨by rfl, ?_⟩) ?_
      rotate_left 1
      · intro w' hS'; go_simp; try with_reducible rfl
      simp only [Act.put]
      replace ar := ar.below hS2
      have hl4 := ar.lt
      have r0 := ar.at_ 0 rfl
      have r1 := ar.at_ 1 rfl
      have f0 := ar.thaw 0
      have f1 := ar.thaw 1
      refine wpAnyM_one (i := 10) (by kernel_rfl) rfl (by rfl) (fun K hK => ?_)
      go_simp
      refine hK _ _ (.inl rfl) ?_
      clear hK K
      try simp only [Act.put, List.setIfInBounds_toArray]
      refine wpAnyM_one (i := 11) (by kernel_rfl) rfl (by rfl) (fun K hK => ?_)
      go_simp
      refine hK _ _ (.inl rfl) ?_
      clear hK K
      try simp only [Act.put, List.setIfInBounds_toArray]
      refine wpAnyM_one (i := 12) (by kernel_rfl) rfl (by rfl) (fun K hK => ?_)
      go_simp
      refine hK _ _ (.inl rfl) ?_
      clear hK K
      refine wpAnyM_done (by kernel_rfl) ?_ _
      go_wp2
      have hg := HG.out
      have hbF := hbel.trans (hS2.mono hbel.size)
      exact bodyPost_ret (v := .tuple #[.agg #[.int .i64 R.1, .slice A R.2.1.length C], .int .i64 R.2.2.1, .int .i64 R.2.2.2]) (by simp [results, Tryd.results55, go_sem, r0, r1]) rfl
        (by rw [HR.out]; exact ⟨A, C, rfl, ((own.setCell (p := ⟨g + 1 + 1, 0, none⟩) (.inl (by simp; omega)) _).setCell (p := ⟨g + 1 + 1, 1, none⟩) (.inl (by simp; omega)) _).wide (by have := hbel.size; omega) (by simp), (by repeat (first | exact hbF | refine Below.setCell ?_ (by first | omega | (simp <;> omega)) _ | refine Below.alloc ?_ (by first | omega | (simp <;> omega)) _ | refine Below.drew ?_))⟩)
  · have ht : (twoE xB xZ yB yZ != 0) = true := by simp [h]
    have HR := Lib.hid (awf_bad (fs := fs) h)
    have r0 := ar.at_ 0 rfl
    have r1 := ar.at_ 1 rfl
    have f0 := ar.thaw 0
    have f1 := ar.thaw 1
    clear h
    go_wp2
    have hg := HG.out
    exact bodyPost_ret (v := .tuple #[.agg #[.int .i64 0, .slice none 0 0], .int .i64 0, .int .i64 (twoE xB xZ yB yZ)]) (by simp [results, Tryd.results55, go_sem, r0, r1]) rfl (reg4_err HR.out rfl (by repeat (first | exact hbel | refine Below.setCell ?_ (by first | omega | (simp <;> omega)) _ | refine Below.alloc ?_ (by first | omega | (simp <;> omega)) _ | refine Below.drew ?_)))

/-- Do two sums part? -/
def sh2 (X Y : List Int) (c d : Int) : Bool := !(decide (X = Y) && decide (c = d))
theorem sh2_ne {X Y : List Int} {c d : Int} (h : ¬ X = Y) : sh2 X Y c d = true := by simp [sh2, h]
theorem sh2_eq {X Y : List Int} {c d : Int} (h : X = Y) : sh2 X Y c d = (c != d) := by
  by_cases h2 : c = d <;> simp [sh2, h, h2]
theorem shw_code {b d : Int} {xs ys : List Int} {fs : List (Int × Int)} (h : ¬ twoE b xs d ys = 0) : shwB b xs d ys fs = false := by
  unfold shwB; rw [awf_bad h]; simp [h]
theorem shw_form {b d : Int} {xs ys : List Int} {fs : List (Int × Int)} (h : twoE b xs d ys = 0) (h2 : faultsB (xs.length : Int) fs = false) : shwB b xs d ys fs = false := by
  unfold shwB; rw [awf_form h h2]; simp
theorem shw_fin {b d : Int} {xs ys : List Int} {fs : List (Int × Int)} (h : twoE b xs d ys = 0) (h2 : faultsB (xs.length : Int) fs = true) :
    shwB b xs d ys fs = (sh2 (tab (levD b xs ys (kds fs)) xs.length) (tab (sumD b xs ys) xs.length) (lcK b xs ys (kds fs) xs.length) (cK b xs ys xs.length) && (okB b (tab (levD b xs ys (kds fs)) xs.length) && okB b (tab (sumD b xs ys) xs.length))) := by
  unfold shwB
  rw [awf_fin h h2]
  have hA : addR b xs d ys = finR4 b (tab (sumD b xs ys) xs.length) (cK b xs ys xs.length) := by simp [addR, h, finR4]
  rw [hA]
  cases h3 : okB b (tab (levD b xs ys (kds fs)) xs.length) <;> cases h4 : okB b (tab (sumD b xs ys) xs.length) <;> simp [finR4, h3, h4, sh2, Bool.and_comm]

end Go.Proofs.YtgfopieojpjddaaDoor

/- ArJ -/
namespace Go.Proofs.YtgfopieojpjddaaDoor
open Go.RowKit

set_option maxRecDepth 100000 in
set_option maxHeartbeats 2000000 in
theorem implAddRegisters (xB : Int) (xA : Option Addr) (xC : Nat) (xZ : List Int) (yB : Int) (yA : Option Addr) (yC : Nat) (yZ : List Int) (w : World) (ha : Rd w xA xZ) (zx : All64 xZ) (bx : I64 xB) (hb : Rd w yA yZ) (zy : All64 yZ) (by_ : I64 yB) :
    Calls Tryd.prog 48 #[.agg #[.int .i64 xB, .slice xA xZ.length xC], .agg #[.int .i64 yB, .slice yA yZ.length yC]] w (addRPost xB xZ yB yZ w) := by
  go_enter Tryd.func48, Tryd.ntmps48
  go_wp2_with fail
  obtain ⟨u, hu⟩ : ∃ u, u = ((w.alloc (.cells #[.int .i64 xB, .slice xA xZ.length xC] 47)).alloc (.cells #[.int .i64 yB, .slice yA yZ.length yC] 47)).alloc (.cells #[.int .i64 0, .slice none 0 0] 47) := ⟨_, rfl⟩
  rw [← hu]
  have hbel : Below w.heap.size w u := by rw [hu]; exact (by repeat (first | exact Below.refl _ _ | refine Below.setCell ?_ (by first | omega | (simp <;> omega)) _ | refine Below.alloc ?_ (by first | omega | (simp <;> omega)) _ | refine Below.drew ?_))
  have ax : Bx u w.heap.size 47 #[.int .i64 xB, .slice xA xZ.length xC] := by rw [hu]; exact ((Bx.new _ _ _).alloc _).alloc _
  have ay : Bx u (w.heap.size + 1) 47 #[.int .i64 yB, .slice yA yZ.length yC] := by rw [hu]; exact Bx.alloc (by simpa using Bx.new (w.alloc (.cells #[.int .i64 xB, .slice xA xZ.length xC] 47)) #[.int .i64 yB, .slice yA yZ.length yC] 47) _
  have ar : Bx u (w.heap.size + 1 + 1) 47 #[.int .i64 0, .slice none 0 0] := by rw [hu]; simpa using Bx.new ((w.alloc (.cells #[.int .i64 xB, .slice xA xZ.length xC] 47)).alloc (.cells #[.int .i64 yB, .slice yA yZ.length yC] 47)) #[.int .i64 0, .slice none 0 0] 47
  replace ha := ha.below hbel
  replace hb := hb.below hbel
  clear hu
  refine (pairCode_any xB xA xC xZ yB yA yC yZ u ha zx bx hb zy by_).mono ?_
  rintro e v ⟨rfl, hb1⟩
  replace ha := ha.below hb1
  replace hb := hb.below hb1
  replace ax := ax.below hb1
  replace ay := ay.below hb1
  replace ar := ar.below hb1
  replace hbel := hbel.trans (hb1.mono hbel.size)
  clear hb1 u
  have c0 := ax.at_ 0 rfl
  have c1 := ax.at_ 1 rfl
  have d0 := ay.at_ 0 rfl
  have d1 := ay.at_ 1 rfl
  by_cases h : twoE xB xZ yB yZ = 0
  · have HX := Lib.hid (okB_spec (twoE_zero h).1)
    have HW := Lib.hid (twoE_zero h)
    have H := Lib.hid h
    have ht : (twoE xB xZ yB yZ != 0) = false := by simp [h]
    have HY := Lib.hid (show ∀ k, k < xZ.length → 0 ≤ nth yZ k ∧ nth yZ k < xB by have h1 := HW.out.2.2; intro k hk; have h2 := digit_of_ok HW.out.2.1 k (by omega); omega)
    clear h
    go_wp2_with fail
    refine (plus_any xB xA yA xC yC xZ yZ v ha hb HX.out.1 HX.out.2.1 HX.out.2.2.2.1 HW.out.2.2.2 (digit_of_ok HW.out.1) HY.out).mono ?_
    rintro e w2 ⟨A1, C1, A2, C2, rfl, own1, own2, hb2⟩
    have hA := all64_tab (HX.out.2.1) (sumD_bd HX.out.1 (digit_of_ok HW.out.1) HY.out)
    have c0 := kept hb2 c0
    have hvs := ar.lt
    replace ar := ar.below hb2
    replace hbel := hbel.trans (hb2.mono hbel.size)
    clear hb2
    cases hk : okB xB (tab (sumD xB xZ yZ) xZ.length) with
    | true =>
      have HR := Lib.hid (show addR xB xZ yB yZ = (xB, tab (sumD xB xZ yZ) xZ.length, cK xB xZ yZ xZ.length, 0) by simp [addR, H.out, hk])
      have hfin := finish_ok xB A1 C1 (tab (sumD xB xZ yZ) xZ.length) w2 own1.rd hA bx hk
      rw [tab_len] at hfin
      go_wp2_with fail
      refine hfin.mono ?_
      rintro e w3 ⟨rfl, hb2⟩
      replace ar := ar.below hb2
      replace own1 := own1.below hb2
      replace own2 := own2.below hb2
      replace hbel := hbel.trans (hb2.mono hbel.size)
      have hs2 := hb2.size
      have hws := ar.lt
      clear hb2 hk hfin
      go_wp2
      obtain ⟨w4, hw4⟩ : ∃ w4, w4 = w3.alloc (.cells #[.int .i64 xB, .slice A1 xZ.length C1] 47) := ⟨_, rfl⟩
      have hb4 : Below w3.heap.size w3 w4 := by rw [hw4]; exact (Below.refl _ _).alloc (Nat.le_refl _) _
      have at_ : Bx w4 w3.heap.size 47 #[.int .i64 xB, .slice A1 xZ.length C1] := by rw [hw4]; exact Bx.new _ _ _
      rw [← hw4]
      replace ar := ar.below hb4
      replace own1 := own1.below hb4
      replace own2 := own2.below hb4
      replace hbel := hbel.trans (hb4.mono hbel.size)
      have hs4 := hb4.size
      clear hb4 hw4
      have b0 := at_.at_ 0 rfl
      have b1 := at_.at_ 1 rfl
      have r0 := ar.at_ 0 rfl
      have r1 := ar.at_ 1 rfl
      have f0 := ar.thaw 0
      have f1 := ar.thaw 1
      obtain ⟨p3, o3, rfl, hc3⟩ := own2.rd.at_ (k := xZ.length) (by rw [tab_len]; omega)
      rw [tab_nth (by omega)] at hc3
      have hi3 : (xZ.length : Int) < (xZ.length : Int) + 1 := by omega
      have hne : w3.heap.size ≠ w.heap.size + 1 + 1 := by omega
      have hp3 : p3 ≠ w.heap.size + 1 + 1 := by
        have hrow := own2.row.lt p3 rfl
        omega
      refine wp_region_marked (fun w' => w'.cell? ⟨w3.heap.size, 0, none⟩ = some (.int .i64 xB) ∧ w'.cell? ⟨w3.heap.size, 1, none⟩ = some (.slice A1 xZ.length C1) ∧ w'.cell? ⟨p3, o3 + xZ.length, none⟩ = some (.int .i64 (cK xB xZ yZ xZ.length))) 7 (by kernel_rfl) ?_
      have hS := And.intro b0 (And.intro b1 hc3)
      refine wpAnyM_take (i := 0) (v := ?_) rfl (by kernel_rfl) (by kernel_rfl) (by kernel_rfl) (by kernel_rfl) (by kernel_rfl) (fun _ _ _ h => h) hS (.inl ⟨by rfl, ?_⟩) ?_
      rotate_left 1
      · intro w' hS'; go_simp; try with_reducible rfl
      simp only [Act.put, List.setIfInBounds_toArray]
      refine wpAnyM_take (i := 1) (v := ?_) rfl (by kernel_rfl) (by kernel_rfl) (by kernel_rfl) (by kernel_rfl) (by kernel_rfl) (fun _ _ _ h => h) hS (.inl ⟨by rfl, ?_⟩) ?_
      rotate_left 1
      · intro w' hS'; go_simp; try with_reducible rfl
      simp only [Act.put]
      refine wpAnyM_take (i := 2) (v := ?_) rfl (by kernel_rfl) (by kernel_rfl) (by kernel_rfl) (by kernel_rfl) (by kernel_rfl) (fun _ _ _ h => h) hS (.inl ⟨by rfl, ?_⟩) ?_
      rotate_left 1
      · intro w' hS'; go_simp; try with_reducible rfl
      simp only [Act.put]
      refine wpAnyM_take (i := 3) (v := ?_) rfl (by kernel_rfl) (by kernel_rfl) (by kernel_rfl) (by kernel_rfl) (by kernel_rfl) (fun _ _ _ h => h) hS (.inl ⟨by rfl, ?_⟩) ?_
      rotate_left 1
      · intro w' hS'; go_simp; try with_reducible rfl
      simp only [Act.put]
      refine wpAnyM_take (i := 4) (v := ?_) rfl (by kernel_rfl) (by kernel_rfl) (by kernel_rfl) (by kernel_rfl) (by kernel_rfl) (fun _ _ _ h => h) hS (.inl ⟨by rfl, ?_⟩) ?_
      rotate_left 1
      · intro w' hS'; go_simp; try with_reducible rfl
      simp only [Act.put]
      refine wpAnyM_take (i := 5) (v := ?_) rfl (by kernel_rfl) (by kernel_rfl) (by kernel_rfl) (by kernel_rfl) (by kernel_rfl) (fun _ _ _ h => h) hS (.inl ⟨by rfl, ?_⟩) ?_
      rotate_left 1
      · intro w' hS'; go_simp; try with_reducible rfl
      simp only [Act.put]
      refine wpAnyM_one (i := 6) (by kernel_rfl) rfl (by rfl) (fun K hK => ?_)
      go_simp
      refine hK _ _ (.inr ⟨cell_far (cell_far b0 hne _) hne _, cell_far (cell_far b1 hne _) hne _, cell_far (cell_far hc3 hp3 _) hp3 _⟩) ?_
      try simp only [Act.put, List.setIfInBounds_toArray]
      clear hK K
      refine wpAnyM_one (i := 7) (by kernel_rfl) rfl (by rfl) (fun K hK => ?_)
      go_simp
      refine hK _ _ (.inl rfl) ?_
      try simp only [Act.put, List.setIfInBounds_toArray]
      clear hK K
      refine wpAnyM_one (i := 8) (by kernel_rfl) rfl (by rfl) (fun K hK => ?_)
      go_simp
      refine hK _ _ (.inl rfl) ?_
      clear hK K
      refine wpAnyM_done (by kernel_rfl) ?_ _
      go_wp2
      exact bodyPost_ret (v := .tuple #[.agg #[.int .i64 xB, .slice A1 xZ.length C1], .int .i64 (cK xB xZ yZ xZ.length), .int .i64 0]) (by simp [results, Tryd.results48, go_sem, r0, r1]) rfl
        (addRPost_ok HR.out (tab_len _ _) rfl (lo := v.heap.size) (hi := w2.heap.size) ((own1.drew.setCell (p := ⟨w.heap.size + 1 + 1, 0, none⟩) (.inl (by simp; omega)) _).setCell (p := ⟨w.heap.size + 1 + 1, 1, none⟩) (.inl (by simp; omega)) _) (by omega) (by simp; omega) (by repeat (first | exact hbel | refine Below.setCell ?_ (by first | omega | (simp <;> omega)) _ | refine Below.alloc ?_ (by first | omega | (simp <;> omega)) _ | refine Below.drew ?_)))
    | false =>
      have HR := Lib.hid (show addR xB xZ yB yZ = (0, [], 0, 5) by simp [addR, H.out, hk])
      have hfin := finish_full xB A1 C1 (tab (sumD xB xZ yZ) xZ.length) w2 own1.rd hA bx hk
      rw [tab_len] at hfin
      go_wp2_with fail
      refine hfin.mono ?_
      rintro e w3 ⟨rfl, hb2⟩
      replace ar := ar.below hb2
      replace hbel := hbel.trans (hb2.mono hbel.size)
      clear hb2 hk hfin
      have r0 := ar.at_ 0 rfl
      have r1 := ar.at_ 1 rfl
      have f0 := ar.thaw 0
      have f1 := ar.thaw 1
      have hws := ar.lt
      have zz := ar.put2 (.int .i64 0) (.slice none 0 0) (.cells #[.int .i64 0, .slice none 0 0] 47)
      go_wp2
      exact bodyPost_ret (v := .tuple #[.agg #[.int .i64 0, .slice none 0 0], .int .i64 0, .int .i64 5]) (by simp [results, Tryd.results48, go_sem, zz.1, zz.2]) rfl
        (addRPost_err HR.out rfl (by repeat (first | exact hbel | refine Below.setCell ?_ (by first | omega | (simp <;> omega)) _ | refine Below.alloc ?_ (by first | omega | (simp <;> omega)) _ | refine Below.drew ?_)))
  · have ht : (twoE xB xZ yB yZ != 0) = true := by simp [h]
    have HR := Lib.hid (show addR xB xZ yB yZ = (0, [], 0, twoE xB xZ yB yZ) by simp [addR, h])
    have r0 := ar.at_ 0 rfl
    have r1 := ar.at_ 1 rfl
    have f0 := ar.thaw 0
    have f1 := ar.thaw 1
    clear h
    go_wp2
    exact bodyPost_ret (v := .tuple #[.agg #[.int .i64 0, .slice none 0 0], .int .i64 0, .int .i64 (twoE xB xZ yB yZ)]) (by simp [results, Tryd.results48, go_sem, r0, r1]) rfl
      (addRPost_err HR.out rfl (by repeat (first | exact hbel | refine Below.setCell ?_ (by first | omega | (simp <;> omega)) _ | refine Below.alloc ?_ (by first | omega | (simp <;> omega)) _ | refine Below.drew ?_)))
end Go.Proofs.YtgfopieojpjddaaDoor

/- ShwI -/
namespace Go.Proofs.YtgfopieojpjddaaDoor
open Go.RowKit

theorem shw_no1 {b d : Int} {xs ys : List Int} {fs : List (Int × Int)} (h : ¬ (awfR b xs d ys fs).2.2.2 = 0) : shwB b xs d ys fs = false := by simp [shwB, h]
theorem shw_no2 {b d : Int} {xs ys : List Int} {fs : List (Int × Int)} (h : ¬ (addR b xs d ys).2.2.2 = 0) : shwB b xs d ys fs = false := by simp [shwB, h]
theorem shw_yes {b d : Int} {xs ys : List Int} {fs : List (Int × Int)} (h1 : (awfR b xs d ys fs).2.2.2 = 0) (h2 : (addR b xs d ys).2.2.2 = 0) (h : ¬ (awfR b xs d ys fs).2.2.1 = (addR b xs d ys).2.2.1) : shwB b xs d ys fs = true := by simp [shwB, h, h1, h2]
theorem awf_base {b d : Int} {xs ys : List Int} {fs : List (Int × Int)} (h1 : (awfR b xs d ys fs).2.2.2 = 0) : (awfR b xs d ys fs).1 = b := by
  unfold awfR at h1 ⊢
  by_cases h : twoE b xs d ys = 0
  · rw [if_pos h] at h1 ⊢
    split at h1
    · split at h1
      · rename_i h2 h3; rw [if_pos h2, if_pos h3]
      · simp at h1
    · simp at h1
  · rw [if_neg h] at h1; exact absurd h1 h
theorem add_base {b d : Int} {xs ys : List Int} (h1 : (addR b xs d ys).2.2.2 = 0) : (addR b xs d ys).1 = b := by
  unfold addR at h1 ⊢
  by_cases h : twoE b xs d ys = 0
  · rw [if_pos h] at h1 ⊢
    split at h1
    · rename_i h3; rw [if_pos h3]
    · simp at h1
  · rw [if_neg h] at h1; exact absurd h1 h
theorem shw_rest {b d : Int} {xs ys : List Int} {fs : List (Int × Int)} (h1 : (awfR b xs d ys fs).2.2.2 = 0) (h2 : (addR b xs d ys).2.2.2 = 0) (h : (awfR b xs d ys fs).2.2.1 = (addR b xs d ys).2.2.1) :
    shwB b xs d ys fs = !(regEqB (awfR b xs d ys fs).1 (addR b xs d ys).1 (awfR b xs d ys fs).2.1 (addR b xs d ys).2.1) := by
  rw [awf_base h1, add_base h2]; simp [shwB, h, h1, h2, regEqB]

set_option maxRecDepth 100000 in
set_option maxHeartbeats 4000000 in
theorem implShowsFaults (xB : Int) (xA : Option Addr) (xC : Nat) (xZ : List Int) (yB : Int) (yA : Option Addr) (yC : Nat) (yZ : List Int) (f : Option Addr) (fc : Nat) (fs : List (Int × Int)) (w : World) (ha : Rd w xA xZ) (zx : All64 xZ) (bx : I64 xB) (hb : Rd w yA yZ) (zy : All64 yZ) (by_ : I64 yB) (hf : RdF pairF w f fs) (hz : All2 fs) :
    Calls Tryd.prog 56 #[.agg #[.int .i64 xB, .slice xA xZ.length xC], .agg #[.int .i64 yB, .slice yA yZ.length yC], .slice f fs.length fc] w fun e w' => e = .returned (.bool (shwB xB xZ yB yZ fs)) ∧ Below w.heap.size w w' := by
  have S1 := Lib.hid (@shw_no1 xB yB xZ yZ fs)
  have S2 := Lib.hid (@shw_no2 xB yB xZ yZ fs)
  have S3 := Lib.hid (@shw_yes xB yB xZ yZ fs)
  have S4 := Lib.hid (@shw_rest xB yB xZ yZ fs)
  have HI := Lib.hid fun v (k : Below w.heap.size w v) => implAddWithFaults xB xA xC xZ yB yA yC yZ f fc fs v (ha.below k) zx bx (hb.below k) zy by_ (hf.below k) hz
  have HJ := Lib.hid fun v (k : Below w.heap.size w v) => implAddRegisters xB xA xC xZ yB yA yC yZ v (ha.below k) zx bx (hb.below k) zy by_
  unfold reg4Post at HI
  unfold addRPost at HJ
  obtain ⟨R, hR⟩ : ∃ R, R = awfR xB xZ yB yZ fs := ⟨_, rfl⟩
  obtain ⟨T, hT⟩ : ∃ T, T = addR xB xZ yB yZ := ⟨_, rfl⟩
  rw [← hR, ← hT] at S3 S4
  rw [← hR] at S1 HI
  rw [← hT] at S2 HJ
  clear hR hT ha hb hf
  go_enter Tryd.func56, Tryd.ntmps56
  go_wp2_with fail
  obtain ⟨u, hu⟩ : ∃ u, u = (w.alloc (.cells #[.int .i64 xB, .slice xA xZ.length xC] 47)).alloc (.cells #[.int .i64 yB, .slice yA yZ.length yC] 47) := ⟨_, rfl⟩
  rw [← hu]
  have hbel : Below w.heap.size w u := by rw [hu]; exact (by repeat (first | exact Below.refl _ _ | refine Below.setCell ?_ (by first | omega | (simp <;> omega)) _ | refine Below.alloc ?_ (by first | omega | (simp <;> omega)) _ | refine Below.drew ?_))
  have ax : Bx u w.heap.size 47 #[.int .i64 xB, .slice xA xZ.length xC] := by rw [hu]; exact (Bx.new _ _ _).alloc _
  have ay : Bx u (w.heap.size + 1) 47 #[.int .i64 yB, .slice yA yZ.length yC] := by rw [hu]; simpa using Bx.new (w.alloc (.cells #[.int .i64 xB, .slice xA xZ.length xC] 47)) #[.int .i64 yB, .slice yA yZ.length yC] 47
  clear hu
  refine (HI.out u hbel).mono ?_
  rintro e w1 ⟨A1, C1, rfl, own0, hb1⟩
  have own1 := own0.rd
  clear own0
  replace ax := ax.below hb1
  replace ay := ay.below hb1
  replace hbel := hbel.trans (hb1.mono hbel.size)
  clear hb1 u
  have hl1 := ay.lt
  obtain ⟨v, hv⟩ : ∃ v, v = w1.alloc (.cells #[.int .i64 R.1, .slice A1 R.2.1.length C1] 47) := ⟨_, rfl⟩
  obtain ⟨g1, hg1⟩ : ∃ g1, g1 = w1.heap.size := ⟨_, rfl⟩
  have hb1 : Below w1.heap.size w1 v := by rw [hv]; exact (Below.refl _ _).alloc (Nat.le_refl _) _
  have x1 : Bx v g1 47 #[.int .i64 R.1, .slice A1 R.2.1.length C1] := by rw [hv, hg1]; exact Bx.new _ _ _
  replace ax := ax.below hb1
  replace ay := ay.below hb1
  replace own1 := own1.below hb1
  replace hbel := hbel.trans (hb1.mono hbel.size)
  by_cases h1 : R.2.2.2 = 0
  · have ht1 : (R.2.2.2 != 0) = false := by simp [h1]
    have H1 := Lib.hid h1
    clear h1
    have a0 := ax.at_ 0 rfl
    have a1 := ax.at_ 1 rfl
    have b0 := ay.at_ 0 rfl
    have b1 := ay.at_ 1 rfl
    go_upto_region 4 with fail
    rw [← hv, ← hg1]
    clear hv hb1 hg1 hl1 w1
    go_wp2_with fail
    refine (HJ.out v hbel).mono ?_
    rintro e w2 ⟨A2, C2, rfl, own0, hb1⟩
    have own2 := own0.rd
    clear own0
    replace x1 := x1.below hb1
    replace own1 := own1.below hb1
    replace hbel := hbel.trans (hb1.mono hbel.size)
    have hl1 := x1.lt
    clear hb1 ax ay a0 a1 b0 b1 v
    obtain ⟨v, hv⟩ : ∃ v, v = w2.alloc (.cells #[.int .i64 T.1, .slice A2 T.2.1.length C2] 47) := ⟨_, rfl⟩
    obtain ⟨g2, hg2⟩ : ∃ g2, g2 = w2.heap.size := ⟨_, rfl⟩
    have hb1 : Below w2.heap.size w2 v := by rw [hv]; exact (Below.refl _ _).alloc (Nat.le_refl _) _
    have x2 : Bx v g2 47 #[.int .i64 T.1, .slice A2 T.2.1.length C2] := by rw [hv, hg2]; exact Bx.new _ _ _
    replace x1 := x1.below hb1
    replace own1 := own1.below hb1
    replace own2 := own2.below hb1
    replace hbel := hbel.trans (hb1.mono hbel.size)
    by_cases h2 : T.2.2.2 = 0
    · have ht2 : (T.2.2.2 != 0) = false := by simp [h2]
      have H2 := Lib.hid h2
      clear h2
      have c0 := x1.at_ 0 rfl
      have c1 := x1.at_ 1 rfl
      have d0 := x2.at_ 0 rfl
      have d1 := x2.at_ 1 rfl
      by_cases h3 : R.2.2.1 = T.2.2.1
      · have ht3 : (R.2.2.1 != T.2.2.1) = false := by simp [h3]
        have HF := Lib.hid (S4.out H1.out H2.out h3)
        clear h3
        go_upto_region 7 with fail
        rw [← hv, ← hg2]
        clear hv hb1 hg2 hl1 w2
        go_wp2_with fail
        refine (implSameRegister_any R.1 T.1 A1 A2 C1 C2 R.2.1 T.2.1 v own1 own2).mono ?_
        rintro e w3 ⟨rfl, hb1⟩
        go_wp2
        go_ret
        exact ⟨ret_bool HF.out.symm, hbel.trans (hb1.mono hbel.size)⟩
      · have ht3 : (R.2.2.1 != T.2.2.1) = true := by simp [h3]
        have HF := Lib.hid (S3.out H1.out H2.out h3)
        clear h3
        go_upto_region 7 with fail
        rw [← hv, ← hg2]
        clear hv hb1 hg2 hl1 w2
        go_wp2
        go_ret
        exact ⟨ret_bool HF.out.symm, hbel⟩
    · have ht2 : (T.2.2.2 != 0) = true := by simp [h2]
      have HF := Lib.hid (S2.out h2)
      clear h2
      go_wp2
      go_ret
      exact ⟨ret_bool HF.out.symm, by rw [← hv]; exact hbel⟩
  · have ht1 : (R.2.2.2 != 0) = true := by simp [h1]
    have HF := Lib.hid (S1.out h1)
    clear h1
    go_wp2
    go_ret
    exact ⟨ret_bool HF.out.symm, by rw [← hv]; exact hbel⟩
end Go.Proofs.YtgfopieojpjddaaDoor
