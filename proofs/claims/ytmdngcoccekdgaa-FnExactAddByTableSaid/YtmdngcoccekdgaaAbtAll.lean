/-
  Several texts in one: Reg4, AbtM, TabQ, PlusT, PairI, Fin, ArS, ArI, AddByT, AbtI, AbtS.
-/
import Derived.Test.YtmdngcoccekdgaaFwAll
import Derived.Test.YtmdngcoccekdgaaAr
import Derived.Test.YtmdngcoccekdgaaApp
import Derived.Test.YtmdngcoccekdgaaTabM
import Derived.Test.YtmdngcoccekdgaaOrd
import Derived.Test.YtmdngcoccekdgaaOrdC
import Derived.Test.YtmdngcoccekdgaaKnob
import Derived.Test.YtmdngcoccekdgaaPlus
import Derived.Test.YtmdngcoccekdgaaSameReg
import Derived.Test.YtmdngcoccekdgaaOkI
import Derived.Test.YtmdngcoccekdgaaMinus
import Derived.Test.YtmdngcoccekdgaaAddS
import Derived.Test.YtmdngcoccekdgaaSubS
import Derived.Maps.OwnOps
import Derived.Maps.Views
import Derived.DeepKeys4
import Derived.Laws.EntriesVeiled

/- Reg4 -/
namespace Go.Proofs.Ytmdngcoccekdgaa
open Go.RowKit

def reg4Post (R : Int × List Int × Int × Int) (w : World) (e : Ending) (w' : World) : Prop := ∃ A C,
  e = .returned (.tuple #[.agg #[.int .i64 R.1, .slice A R.2.1.length C], .int .i64 R.2.2.1, .int .i64 R.2.2.2]) ∧ Own 2 w' w.heap.size w'.heap.size (.slice A R.2.1.length C) R.2.1 ∧ Below w.heap.size w w'
theorem reg4_err {R : Int × List Int × Int × Int} {c : Int} {w w' : World} {e : Ending} (h : R = (0, [], 0, c)) (he : e = .returned (.tuple #[.agg #[.int .i64 0, .slice none 0 0], .int .i64 0, .int .i64 c])) (hb : Below w.heap.size w w') : reg4Post R w e w' := by
  subst h; exact ⟨none, 0, he, own_nil _ _ _ _, hb⟩
theorem reg4_ok {R : Int × List Int × Int × Int} {b k : Int} {zs : List Int} {m : Nat} {w w' : World} {A : Option Addr} {C lo hi : Nat} {e : Ending} (h : R = (b, zs, k, 0)) (hm : zs.length = m) (he : e = .returned (.tuple #[.agg #[.int .i64 b, .slice A m C], .int .i64 k, .int .i64 0]))
    (ho : Own 2 w' lo hi (.slice A m C) zs) (hl : w.heap.size ≤ lo) (hh : hi ≤ w'.heap.size) (hb : Below w.heap.size w w') : reg4Post R w e w' := by
  subst h hm; exact ⟨A, C, he, ho.wide hl hh, hb⟩
/-- What becomes of computed digits and a carry. -/
def finR4 (b : Int) (zs : List Int) (c : Int) : Int × List Int × Int × Int := if okB b zs = true then (b, zs, c, 0) else (0, [], 0, 5)
theorem finR4_ok {b c : Int} {zs : List Int} (h : okB b zs = true) : finR4 b zs c = (b, zs, c, 0) := by simp [finR4, h]
theorem finR4_bad {b c : Int} {zs : List Int} (h : okB b zs = false) : finR4 b zs c = (0, [], 0, 5) := by simp [finR4, h]
end Go.Proofs.Ytmdngcoccekdgaa

/- AbtM -/
namespace Go.Proofs.Ytmdngcoccekdgaa
open Go.RowKit

theorem abt_bad {b d : Int} {xs ys : List Int} {rs : List Row5} (h : ¬ twoE b xs d ys = 0) : abtR rs b xs d ys = (0, [], 0, twoE b xs d ys) := by simp [abtR, h]
theorem abt_form {m : Nat} {d : Int} {xs ys : List Int} {rs : List Row5} (h : twoE (m : Int) xs d ys = 0) (h2 : formB m rs = false) : abtR rs (m : Int) xs d ys = (0, [], 0, 8) := by simp [abtR, h, h2]
theorem abt_fin {m : Nat} {d : Int} {xs ys : List Int} {rs : List Row5} (h : twoE (m : Int) xs d ys = 0) (h2 : formB m rs = true) : abtR rs (m : Int) xs d ys = finR4 (m : Int) (tab (tabD (m : Int) rs xs ys) xs.length) (tabC (m : Int) rs xs ys xs.length) := by simp [abtR, h, h2, finR4]
end Go.Proofs.Ytmdngcoccekdgaa

/- TabQ -/
namespace Go.Proofs.Ytmdngcoccekdgaa
open Go.RowKit Go.Maps

/-- How a row in the map reads. -/
def rowElem (v : Value) : Option (DataW Unit × List MemPlace) :=
  match v with
  | .agg xs => (match xs.toList with | [.int .i64 a, .int .i64 b, .int .i64 c, .int .i64 d, .int .i64 e] => some (.agg [.lit (.int .i64 a), .lit (.int .i64 b), .lit (.int .i64 c), .lit (.int .i64 d), .lit (.int .i64 e)], []) | _ => none)
  | _ => none
def rowVq (x : Row5) : Value := .agg #[.int .i64 x.1, .int .i64 x.2.1, .int .i64 x.2.2.1, .int .i64 x.2.2.2.1, .int .i64 x.2.2.2.2]
def rowD (x : Row5) : DataW Unit := .agg [.lit (.int .i64 x.1), .lit (.int .i64 x.2.1), .lit (.int .i64 x.2.2.1), .lit (.int .i64 x.2.2.2.1), .lit (.int .i64 x.2.2.2.2)]
theorem rowElem_mk (x : Row5) : rowElem (rowVq x) = some (rowD x, []) := rfl
theorem rowElem_inv {v : Value} {x : Row5} {ps : List MemPlace} (h : rowElem v = some (rowD x, ps)) : v = rowVq x := by
  cases v with
  | agg xs =>
    obtain ⟨l⟩ := xs
    match l, h with
    | [.int .i64 a, .int .i64 b, .int .i64 c, .int .i64 d, .int .i64 e], h =>
      have h2 := congrArg Prod.fst (Option.some.inj h)
      simp only [rowD, DataW.agg.injEq, List.cons.injEq, DataW.lit.injEq, Lit.int.injEq, true_and, and_true] at h2
      obtain ⟨rfl, rfl, rfl, rfl, rfl⟩ := h2
      rfl
  | _ => simp [rowElem] at h
theorem key_row : Keyed Try.prog 145 := Keyed.of_law (deep_law_laid laid_out (m := 2) (by omega) (of_decide_eq_true (by kernel_rfl)) (by kernel_rfl) (by rw [Try.underlying145]))
theorem zero_row (w : World) : (zeroValue 88).run Try.prog w = .ok (rowVq (0, 0, 0, 0, 0)) w := by kernel_rfl
def inpV (c x y : Int) : Value := .agg #[.int .i64 c, .int .i64 x, .int .i64 y]
noncomputable def inpK (c x y : Int) : Lit := (keyOf Try.prog 145 (inpV c x y)).getD (.int .i64 0)
theorem inp_some : ∀ (c : Fin 2) (x y : Fin 16), (keyOf Try.prog 145 (inpV (c.1 : Int) (x.1 : Int) (y.1 : Int))).isSome = true := by decide +kernel
theorem inpK_is {c x y : Int} (hc : 0 ≤ c ∧ c ≤ 1) (hx : 0 ≤ x ∧ x ≤ 15) (hy : 0 ≤ y ∧ y ≤ 15) : keyOf Try.prog 145 (inpV c x y) = some (inpK c x y) := by
  obtain ⟨c, rfl⟩ := Int.eq_ofNat_of_zero_le hc.1
  obtain ⟨x, rfl⟩ := Int.eq_ofNat_of_zero_le hx.1
  obtain ⟨y, rfl⟩ := Int.eq_ofNat_of_zero_le hy.1
  have := inp_some ⟨c, by omega⟩ ⟨x, by omega⟩ ⟨y, by omega⟩
  obtain ⟨k, hk⟩ := Option.isSome_iff_exists.1 this
  unfold inpK
  simp only at hk
  rw [hk]; rfl
theorem inpK_inj {c x y c' x' y' : Int} (hc : 0 ≤ c ∧ c ≤ 1) (hx : 0 ≤ x ∧ x ≤ 15) (hy : 0 ≤ y ∧ y ≤ 15) (hc' : 0 ≤ c' ∧ c' ≤ 1) (hx' : 0 ≤ x' ∧ x' ≤ 15) (hy' : 0 ≤ y' ∧ y' ≤ 15) (h : inpK c x y = inpK c' x' y') : c = c' ∧ x = x' ∧ y = y' := by
  have h1 := inpK_is hc hx hy
  have h2 := inpK_is hc' hx' hy'
  rw [h] at h1
  have := key_row.inj h1 h2
  simp only [inpV, Value.agg.injEq, Array.mk.injEq, List.cons.injEq, Value.int.injEq, true_and, and_true] at this
  exact this
/-- The first j rows as a map. -/
noncomputable def tabDw (rs : List Row5) : Nat → DataW Unit
  | 0 => .map []
  | j + 1 => (tabDw rs j).put (inpK (elt quinF rs j).1 (elt quinF rs j).2.1 (elt quinF rs j).2.2.1) (rowD (elt quinF rs j))
theorem tabDw_isMap (rs : List Row5) : ∀ j, IsMap (tabDw rs j)
  | 0 => isMap_empty
  | j + 1 => (tabDw_isMap rs j).put _ _
/-- A row's input, in a table. -/
theorem row_small {b : Int} {rs : List Row5} (h : TabOk b rs) {k : Nat} (hk : k < rs.length) : (0 ≤ (elt quinF rs k).1 ∧ (elt quinF rs k).1 ≤ 1) ∧ (0 ≤ (elt quinF rs k).2.1 ∧ (elt quinF rs k).2.1 ≤ 15) ∧ (0 ≤ (elt quinF rs k).2.2.1 ∧ (elt quinF rs k).2.2.1 ≤ 15) := by
  obtain ⟨r1, r2, r3, _⟩ := formAt_row (h.at_ hk)
  have h1 := h.b1
  have h2 := h.b2
  have hl := h.len
  rw [r1, r2, r3]
  simp only [rowN, mkRow]
  have e1 : k / b.toNat / b.toNat < 2 := by
    rw [Nat.div_div_eq_div_mul]
    exact Nat.div_lt_of_lt_mul (by rw [Nat.mul_comm]; rw [Nat.mul_assoc] at hl; omega)
  have e2 : k / b.toNat % b.toNat < b.toNat := Nat.mod_lt _ (by omega)
  have e3 : k % b.toNat < b.toNat := Nat.mod_lt _ (by omega)
  generalize k / b.toNat / b.toNat = q1 at e1 ⊢
  generalize k / b.toNat % b.toNat = q2 at e2 ⊢
  generalize k % b.toNat = q3 at e3 ⊢
  omega
theorem row_other {b : Int} {rs : List Row5} (h : TabOk b rs) {k i : Nat} (hk : k < rs.length) (hi : i < rs.length) (e1 : (elt quinF rs k).1 = (elt quinF rs i).1) (e2 : (elt quinF rs k).2.1 = (elt quinF rs i).2.1) (e3 : (elt quinF rs k).2.2.1 = (elt quinF rs i).2.2.1) : k = i := by
  obtain ⟨r1, r2, r3, _⟩ := formAt_row (h.at_ hk)
  obtain ⟨s1, s2, s3, _⟩ := formAt_row (h.at_ hi)
  rw [r1, s1] at e1
  rw [r2, s2] at e2
  rw [r3, s3] at e3
  simp only [rowN, mkRow] at e1 e2 e3
  have a1 := Nat.div_add_mod k b.toNat
  have a2 := Nat.div_add_mod i b.toNat
  have a3 := Nat.div_add_mod (k / b.toNat) b.toNat
  have a4 := Nat.div_add_mod (i / b.toNat) b.toNat
  have f1 : k / b.toNat / b.toNat = i / b.toNat / b.toNat := Int.ofNat.inj e1
  have f2 : k / b.toNat % b.toNat = i / b.toNat % b.toNat := Int.ofNat.inj e2
  have f3 : k % b.toNat = i % b.toNat := Int.ofNat.inj e3
  rw [← a1, ← a3, ← a2, ← a4, f1, f2, f3]
set_option maxRecDepth 100000 in
theorem tabDw_at {b : Int} {rs : List Row5} (h : TabOk b rs) {i : Nat} (hi : i < rs.length) (z : DataW Unit) : ∀ j, j ≤ rs.length → (tabDw rs j).atKey (inpK (elt quinF rs i).1 (elt quinF rs i).2.1 (elt quinF rs i).2.2.1) z = if i < j then rowD (elt quinF rs i) else z
  | 0, _ => by
    rw [if_neg (by omega)]
    unfold tabDw
    generalize inpK _ _ _ = K
    rfl
  | j + 1, hj => by
    unfold tabDw
    by_cases he : j = i
    · subst he
      rw [if_pos (by omega)]
      exact atKey_put_same (tabDw_isMap rs j) (key_row.key (inpK_is (row_small h (by omega)).1 (row_small h (by omega)).2.1 (row_small h (by omega)).2.2)) _ _
    · rw [atKey_put_other (fun e => he (row_other h (by omega) hi (inpK_inj (row_small h hi).1 (row_small h hi).2.1 (row_small h hi).2.2 (row_small h (by omega)).1 (row_small h (by omega)).2.1 (row_small h (by omega)).2.2 e).1.symm
        (inpK_inj (row_small h hi).1 (row_small h hi).2.1 (row_small h hi).2.2 (row_small h (by omega)).1 (row_small h (by omega)).2.1 (row_small h (by omega)).2.2 e).2.1.symm (inpK_inj (row_small h hi).1 (row_small h hi).2.1 (row_small h hi).2.2 (row_small h (by omega)).1 (row_small h (by omega)).2.1 (row_small h (by omega)).2.2 e).2.2.symm)), tabDw_at h hi z j (by omega)]
      by_cases hij : i < j
      · rw [if_pos hij, if_pos (by omega)]
      · rw [if_neg hij, if_neg (by omega)]

/-- What the closure that adds by a table holds: the rows. -/
def TabAdd (w : World) (g1 : Nat) (rs : List Row5) : Prop := ∃ M n, Bx w g1 143 #[.map (some M)] ∧ w.ownsMap Try.prog 145 rowElem M n (tabDw rs rs.length)
theorem bx_grownT {w w' : World} {g M : Nat} {t : TypeId} {cs : Array Value} (h : Bx w g t cs) (hg : w.grownBy w' (some M)) (hne : g ≠ M) : Bx w' g t cs := (hg.block g h.lt (by intro e; cases e; exact hne rfl)).trans h
theorem ownsMapT_below {w w' : World} {P : Program} {k : TypeId} {R : Value → Option (DataW Unit × List MemPlace)} {b n : Nat} {D : DataW Unit} (h : w.ownsMap P k R b n D) (hb : Below w.heap.size w w') : w'.ownsMap P k R b n D := by
  have hl := h.lt
  obtain ⟨es, clock, h1, h2⟩ := h
  exact ⟨es, clock, (hb.block b hl).trans h1, h2⟩
theorem TabAdd.below {w w' : World} {g1 : Nat} {rs : List Row5} (h : TabAdd w g1 rs) (hb : Below w.heap.size w w') : TabAdd w' g1 rs := by
  obtain ⟨M, n, h2, h3⟩ := h
  exact ⟨M, n, h2.below hb, ownsMapT_below h3 hb⟩

set_option maxRecDepth 100000 in
set_option maxHeartbeats 4000000 in
theorem tabPlace_any (w : World) (g1 : Nat) (B : Int) (rs : List Row5) (hF : TabAdd w g1 rs) (hK : TabOk B rs) (hB1 : 2 ≤ B) (hB2 : B ≤ 16) (k : Nat) (c x y : Int) (hc : 0 ≤ c ∧ c ≤ 1) (hx : 0 ≤ x ∧ x < B) (hy : 0 ≤ y ∧ y < B) :
    Calls Try.prog 109 #[.int .i64 (k : Int), .int .i64 c, .int .i64 x, .int .i64 y, .pointer (some ⟨g1, 0, none⟩)] w fun e w' => e = .returned (.tuple #[.int .i64 (rowFor B rs c x y).2.2.2.1, .int .i64 (rowFor B rs c x y).2.2.2.2]) ∧ Below w.heap.size w w' := by
  obtain ⟨M, n, hbx, hown⟩ := hF
  have hidx := row_idx hB1 hc hx hy
  have hil : ((c * B + x) * B + y).toNat < rs.length := by rw [hK.len]; exact hidx.2
  obtain ⟨f1, f2, f3, _⟩ := rowFor_is hK hc hx hy
  have hat := tabDw_at hK hil (rowD (0, 0, 0, 0, 0)) rs.length (Nat.le_refl _)
  rw [if_pos hil] at hat
  rw [show elt quinF rs ((c * B + x) * B + y).toNat = rowFor B rs c x y from rfl, f1, f2, f3] at hat
  obtain ⟨v, ps, hrun, hv⟩ := hown.lookup key_row Try.underlying143 (zero_row w) (rowElem_mk (0, 0, 0, 0, 0)) (inpK_is hc ⟨hx.1, by omega⟩ ⟨hy.1, by omega⟩)
  rw [hat] at hv
  obtain rfl := rowElem_inv hv
  obtain ⟨z, hz⟩ : ∃ z, z = rowFor B rs c x y := ⟨_, rfl⟩
  rw [← hz] at hrun ⊢
  have c0 := hbx.at_ 0 rfl
  unfold inpV rowVq at hrun
  clear hz hv hat f1 f2 f3 hidx hil hown
  go_enter Try.func109, Try.ntmps109
  go_wp2
  obtain ⟨u, hu⟩ : ∃ u, u = w.alloc (.cells #[.int .i64 z.1, .int .i64 z.2.1, .int .i64 z.2.2.1, .int .i64 z.2.2.2.1, .int .i64 z.2.2.2.2] 88) := ⟨_, rfl⟩
  have bu : Bx u w.heap.size 88 #[.int .i64 z.1, .int .i64 z.2.1, .int .i64 z.2.2.1, .int .i64 z.2.2.2.1, .int .i64 z.2.2.2.2] := by rw [hu]; exact Bx.new _ _ _
  have hbel : Below w.heap.size w u := by rw [hu]; exact (Below.refl _ _).alloc (Nat.le_refl _) _
  rw [← hu]
  clear hu
  have k3 := kept_all (bu.at_ 3 rfl)
  have k4 := kept_all (bu.at_ 4 rfl)
  refine wp_region_marked (fun w' => Below u.heap.size u w') 5 (by kernel_rfl) ?_
  have hS : Below u.heap.size u u.drew := (Below.refl _ _).drew
  refine wpAnyM_takeC (i := 0) (v := ?_) 8 rfl (by kernel_rfl) (by kernel_rfl) (by kernel_rfl) (by kernel_rfl) (by kernel_rfl) (by kernel_rfl) (fun _ _ _ h => h) hS (.inl ⟨by rfl, ?_⟩) ?_
  rotate_left 1
  · intro w' hS'; go_simp; try with_reducible rfl
  simp only [Act.put, List.setIfInBounds_toArray]
  refine wpAnyM_takeC (i := 1) (v := ?_) 8 rfl (by kernel_rfl) (by kernel_rfl) (by kernel_rfl) (by kernel_rfl) (by kernel_rfl) (by kernel_rfl) (fun _ _ _ h => h) hS (.inl ⟨by rfl, ?_⟩) ?_
  rotate_left 1
  · intro w' hS'; go_simp; try with_reducible rfl
  simp only [Act.put]
  refine wpAnyM_takeC (i := 2) (v := ?_) 8 rfl (by kernel_rfl) (by kernel_rfl) (by kernel_rfl) (by kernel_rfl) (by kernel_rfl) (by kernel_rfl) (fun _ _ _ h => h) hS (.inl ⟨by rfl, ?_⟩) ?_
  rotate_left 1
  · intro w' hS'; go_simp; try with_reducible rfl
  simp only [Act.put]
  refine wpAnyM_takeC (i := 3) (v := ?_) 8 rfl (by kernel_rfl) (by kernel_rfl) (by kernel_rfl) (by kernel_rfl) (by kernel_rfl) (by kernel_rfl) (fun _ _ _ h => h) hS (.inl ⟨by rfl, ?_⟩) ?_
  rotate_left 1
  · intro w' hS'; go_simp; try with_reducible rfl
  simp only [Act.put]
  refine wpAnyM_one (i := 4) (by kernel_rfl) rfl (by rfl) (fun K hK => ?_)
  go_simp
  refine hK _ _ (.inr hS) ?_
  try simp only [Act.put, List.setIfInBounds_toArray]
  clear hK K
  refine wpAnyM_one (i := 5) (by kernel_rfl) rfl (by rfl) (fun K hK => ?_)
  go_simp
  refine hK _ _ (.inl rfl) ?_
  try simp only [Act.put, List.setIfInBounds_toArray]
  refine wpAnyM_done (by kernel_rfl) ?_ _
  go_wp2
  exact bodyPost_ret (v := .tuple #[.int .i64 z.2.2.2.1, .int .i64 z.2.2.2.2]) (by simp [results, Try.results109, go_sem]) rfl ⟨rfl, hbel.trans (hS.mono hbel.size)⟩

set_option maxRecDepth 100000 in
set_option maxHeartbeats 4000000 in
theorem placesByTable_any (b : Int) (a : Option Addr) (c : Nat) (rs : List Row5) (w : World) (ha : RdF quinF w a rs) (hT : TabOk b rs) :
    Calls Try.prog 65 #[.slice a rs.length c] w fun e w' => ∃ g1, e = .returned (.func (.func 109) #[] #[.pointer (some ⟨g1, 0, none⟩)]) ∧ TabAdd w' g1 rs ∧ Below w.heap.size w w' := by
  have hx := ha.len
  have hmm := @run_makeMap Try.prog
  go_enter Try.func65, Try.ntmps65
  go_wp2_with fail
  obtain ⟨V, hV⟩ : ∃ V, V = (w.alloc (.map #[] 0)).alloc (.cells #[.map (some w.heap.size)] 143) := ⟨_, rfl⟩
  obtain ⟨g, hg⟩ : ∃ g, g = w.heap.size := ⟨_, rfl⟩
  have om : V.ownsMap Try.prog 145 rowElem g 0 (tabDw rs 0) := by
    rw [hV, hg]
    have := World.ownsMap_made w Try.prog 145 rowElem
    simpa [tabDw] using this.alloc (.cells #[.map (some w.heap.size)] 143)
  have b2 : Bx V (g + 1) 143 #[.map (some g)] := by rw [hV, hg]; simpa using Bx.new (w.alloc (.map #[] 0)) #[.map (some w.heap.size)] 143
  have hbel : Below w.heap.size w V := by rw [hV]; exact (by repeat (first | exact Below.refl _ _ | refine Below.setCell ?_ (by first | omega | (simp <;> omega)) _ | refine Below.alloc ?_ (by first | omega | (simp <;> omega)) _ | refine Below.drew ?_))
  have hg1 : w.heap.size ≤ g := by omega
  rw [← hV, ← hg]
  clear hV hg
  have ha0 := ha
  clear ha
  go_loopw [9] (fun i wr => ∃ j : Nat, j ≤ rs.length ∧ i = .int .i64 j ∧ wr.ownsMap Try.prog 145 rowElem g j (tabDw rs j) ∧ Bx wr (g + 1) 143 #[.map (some g)] ∧ Below w.heap.size w wr) (fun i _ => rs.length - (intOf i).toNat)
  case atStart => exact ⟨0, Nat.zero_le _, rfl, om, b2, hbel⟩
  case round =>
    clear om b2 hbel
    obtain ⟨j, hj, rfl, hown, b2, hbel⟩ := hrel
    have hsz := hbel.size
    have hl1 := b2.lt
    by_cases hlt : j < rs.length
    · obtain ⟨b', off, rfl, p0, p1, p2, p3, p4⟩ := (ha0.below hbel).at5 hlt
      have HS := Lib.hid (row_small hT hlt)
      have HD := Lib.hid (show tabDw rs (j + 1) = (tabDw rs j).put (inpK (elt quinF rs j).1 (elt quinF rs j).2.1 (elt quinF rs j).2.2.1) (rowD (elt quinF rs j)) from rfl)
      obtain ⟨y, hy⟩ : ∃ y, y = elt quinF rs j := ⟨_, rfl⟩
      rw [← hy] at p0 p1 p2 p3 p4 HS HD
      clear hy
      go_upto_region 5 with fail
      obtain ⟨u, hu⟩ : ∃ u, u = wr.alloc (.cells #[.int .i64 y.1, .int .i64 y.2.1, .int .i64 y.2.2.1, .int .i64 y.2.2.2.1, .int .i64 y.2.2.2.2] 88) := ⟨_, rfl⟩
      have bu : Bx u wr.heap.size 88 #[.int .i64 y.1, .int .i64 y.2.1, .int .i64 y.2.2.1, .int .i64 y.2.2.2.1, .int .i64 y.2.2.2.2] := by rw [hu]; exact Bx.new _ _ _
      have hbu : Below wr.heap.size wr u := by rw [hu]; exact (Below.refl _ _).alloc (Nat.le_refl _) _
      rw [← hu]
      clear hu p0 p1 p2 p3 p4
      have hownU := ownsMapT_below hown hbu
      have b2U := b2.below hbu
      have hsu := hbu.size
      have k0 := kept_all (b2U.at_ 0 rfl)
      have d0 := kept_all (bu.at_ 0 rfl)
      have d1 := kept_all (bu.at_ 1 rfl)
      have d2 := kept_all (bu.at_ 2 rfl)
      have d3 := kept_all (bu.at_ 3 rfl)
      have d4 := kept_all (bu.at_ 4 rfl)
      refine wp_region_marked (fun w' => Below u.heap.size u w') 4 (by kernel_rfl) ?_
      have hS : Below u.heap.size u u.drew := (Below.refl _ _).drew
      refine wpAnyM_takeC (i := 0) (v := ?_) 8 rfl (by kernel_rfl) (by kernel_rfl) (by kernel_rfl) (by kernel_rfl) (by kernel_rfl) (by kernel_rfl) (fun _ _ _ h => h) hS (.inl ⟨by rfl, ?_⟩) ?_
      rotate_left 1
      · intro w' hS'; go_simp; try with_reducible rfl
      simp only [Act.put, List.setIfInBounds_toArray]
      refine wpAnyM_takeC (i := 1) (v := ?_) 8 rfl (by kernel_rfl) (by kernel_rfl) (by kernel_rfl) (by kernel_rfl) (by kernel_rfl) (by kernel_rfl) (fun _ _ _ h => h) hS (.inl ⟨by rfl, ?_⟩) ?_
      rotate_left 1
      · intro w' hS'; go_simp; try with_reducible rfl
      simp only [Act.put]
      refine wpAnyM_takeC (i := 3) (v := ?_) 8 rfl (by kernel_rfl) (by kernel_rfl) (by kernel_rfl) (by kernel_rfl) (by kernel_rfl) (by kernel_rfl) (fun _ _ _ h => h) hS (.inl ⟨by rfl, ?_⟩) ?_
      rotate_left 1
      · intro w' hS'; go_simp; try with_reducible rfl
      simp only [Act.put]
      refine wpAnyM_one (i := 2) (by kernel_rfl) rfl (by rfl) (fun K hK => ?_)
      go_simp
      refine (input_any y u.drew).mono ?_
      rintro e w2 ⟨rfl, hb2⟩
      replace hS : Below u.heap.size u w2 := hS.trans (hb2.mono (by simp))
      refine hK _ _ (.inr hS) ?_
      try simp only [Act.put, List.setIfInBounds_toArray]
      clear hK K
      have hown2 := ownsMapT_below hownU hS
      obtain ⟨w3, hrun, hown3, hgrow⟩ := hown2.update key_row Try.underlying143 (by unfold maxLen; omega) (inpK_is HS.out.1 HS.out.2.1 HS.out.2.2) (rowElem_mk y)
      rw [← HD.out] at hown3
      unfold inpV rowVq at hrun
      refine wpAnyM_one (i := 4) (by kernel_rfl) rfl (by rfl) (fun K hK => ?_)
      go_simp
      refine hK _ _ (.inl rfl) ?_
      try simp only [Act.put, List.setIfInBounds_toArray]
      clear hK K
      refine wpAnyM_done (by kernel_rfl) ?_ _
      have b23 := bx_grownT (b2U.below hS) hgrow (by omega)
      have hbel3 : Below w.heap.size w w3 := ((hbel.trans (hbu.mono hsz)).trans (hS.mono (by omega))).grown hgrow (by have := hS.size; omega) (fun k hk => by cases hk; omega)
      go_wp2
      go_roundw
      case rel => exact ⟨j + 1, by omega, by go_num, hown3, b23, hbel3⟩
      case measure => (simp [intOf]) <;> omega
    · obtain rfl : j = rs.length := by omega
      go_wp2
      go_ret
      exact ⟨g + 1, rfl, ⟨_, _, b2, hown⟩, hbel⟩
end Go.Proofs.Ytmdngcoccekdgaa

/- PlusT -/
namespace Go.Proofs.Ytmdngcoccekdgaa
open Go.RowKit

set_option maxRecDepth 100000 in
set_option maxHeartbeats 4000000 in
theorem plusByT_any (g1 : Nat) (B : Int) (a b : Option Addr) (c d : Nat) (xs ys : List Int) (w : World) (ha : Rd w a xs) (hb : Rd w b ys) (rs : List (Int × Int × Int × Int × Int)) (hF : TabAdd w g1 rs) (hK : TabOk B rs) (hB1 : 2 ≤ B) (hB2 : B ≤ 16) (hlen : xs.length ≤ 16) (hl : xs.length = ys.length)
    (hx : ∀ k, k < xs.length → 0 ≤ nth xs k ∧ nth xs k < B) (hy : ∀ k, k < xs.length → 0 ≤ nth ys k ∧ nth ys k < B) :
    Calls Try.prog 106 #[.slice a xs.length c, .slice b ys.length d, .func (.func 109) #[] #[.pointer (some ⟨g1, 0, none⟩)]] w fun e w' => ∃ A C, e = .returned (.tuple #[.slice A xs.length C, .int .i64 ((tabC B rs xs ys) xs.length)]) ∧
      Own 2 w' w.heap.size w'.heap.size (.slice A xs.length C) (tab (tabD B rs xs ys) xs.length) ∧ Below w.heap.size w w' := by
  have HL := Lib.hid hl
  have HX := Lib.hid hx
  have HY := Lib.hid hy
  clear hl hx hy
  obtain ⟨g, hg⟩ : ∃ g, g = w.heap.size := ⟨_, rfl⟩
  have HG := Lib.hid hg
  go_enter Try.func106, Try.ntmps106
  go_wp2_with (at_make; refine wpList_makeI rfl (.tmp 12) (.tmp 12) 89 2 rfl Try.underlying89 info_int64 xs.length rfl rfl (by omega) ?_; intro w1 hown1 hb1)
  rw [← hg] at hown1 hb1 ⊢
  have hl1 := hown1.block
  have ow1 : Own 2 w1 g (g + 1) (.slice (some ⟨g, 0, none⟩) xs.length xs.length) (pad xs.length (tab (tabD B rs xs ys) 0)) := ⟨hown1.row, fun k hk => by simp [Value.ownBlock] at hk; omega, hown1.len⟩
  clear hg hown1
  go_loopw [9, 10, 16] (fun cr _ i wr => ∃ k : Nat, k ≤ xs.length ∧ cr = .int .i64 ((tabC B rs xs ys) k) ∧ i = .int .i64 k ∧ Own 2 wr g (g + 1) (.slice (some ⟨g, 0, none⟩) xs.length xs.length) (pad xs.length (tab (tabD B rs xs ys) k)) ∧ Below g w wr ∧ g < wr.heap.size) (fun _ _ i _ => xs.length - (intOf i).toNat)
  case atStart => exact ⟨0, Nat.zero_le _, rfl, rfl, ow1, hb1, hl1.2.2⟩
  case round =>
    obtain ⟨k, hk, hcr, hi, own, hbel, hgs⟩ := hrel
    subst hcr hi
    have hbw : Below w.heap.size w wr := by rw [← HG.out]; exact hbel
    by_cases hlt : k < xs.length
    · obtain ⟨p1, o1, rfl, hc1⟩ := ha.at_ hlt
      have hlt2 : k < ys.length := by rw [← HL.out]; exact hlt
      obtain ⟨p2, o2, rfl, hc2⟩ := hb.at_ hlt2
      have k1 := kept_all (kept hbw hc1)
      have k2 := kept_all (kept hbw hc2)
      have hx := HX.out k hlt
      have hy := HY.out k hlt
      have hcb := tabC_bd hK HX.out HY.out k (by omega)
      have HD := Lib.hid (show tabD B rs xs ys k = (rowFor B rs (tabC B rs xs ys k) (nth xs k) (nth ys k)).2.2.2.1 from rfl)
      have HC := Lib.hid (show tabC B rs xs ys (k + 1) = (rowFor B rs (tabC B rs xs ys k) (nth xs k) (nth ys k)).2.2.2.2 from rfl)
      have HP := Lib.hid (tabPlace_any wr.drew g1 B rs (hF.below hbw.drew) hK hB1 hB2 k (tabC B rs xs ys k) (nth xs k) (nth ys k) hcb hx hy)
      obtain ⟨dv, hdv⟩ : ∃ dv, dv = (rowFor B rs (tabC B rs xs ys k) (nth xs k) (nth ys k)).2.2.2.1 := ⟨_, rfl⟩
      obtain ⟨cv, hcv⟩ : ∃ cv, cv = (rowFor B rs (tabC B rs xs ys k) (nth xs k) (nth ys k)).2.2.2.2 := ⟨_, rfl⟩
      rw [← hdv] at HD HP
      rw [← hcv] at HC HP
      clear hdv hcv
      go_wp2
      refine wp_region_marked (fun w' => Below wr.heap.size wr w') 18 (by kernel_rfl) ?_
      have hS : Below wr.heap.size wr wr.drew := (Below.refl _ _).drew
      refine wpAnyM_take (i := 0) (v := ?_) rfl (by kernel_rfl) (by kernel_rfl) (by kernel_rfl) (by kernel_rfl) (by kernel_rfl) (fun _ _ _ h => h) hS (.inl ⟨by rfl, ?_⟩) ?_
      rotate_left 1
      · intro w' hS'; go_simp; try with_reducible rfl
      simp only [Act.put, List.setIfInBounds_toArray]
      refine wpAnyM_take (i := 1) (v := ?_) rfl (by kernel_rfl) (by kernel_rfl) (by kernel_rfl) (by kernel_rfl) (by kernel_rfl) (fun _ _ _ h => h) hS (.inl ⟨by rfl, ?_⟩) ?_
      rotate_left 1
      · intro w' hS'; go_simp; try with_reducible rfl
      simp only [Act.put]
      refine wpAnyM_take (i := 2) (v := ?_) rfl (by kernel_rfl) (by kernel_rfl) (by kernel_rfl) (by kernel_rfl) (by kernel_rfl) (fun _ _ _ h => h) hS (.inl ⟨by rfl, ?_⟩) ?_
      rotate_left 1
      · intro w' hS'; go_simp; try with_reducible rfl
      simp only [Act.put]
      refine wpAnyM_take (i := 3) (v := ?_) rfl (by kernel_rfl) (by kernel_rfl) (by kernel_rfl) (by kernel_rfl) (by kernel_rfl) (fun _ _ _ h => h) hS (.inl ⟨by rfl, ?_⟩) ?_
      rotate_left 1
      · intro w' hS'; go_simp; try with_reducible rfl
      simp only [Act.put]
      refine wpAnyM_take (i := 4) (v := ?_) rfl (by kernel_rfl) (by kernel_rfl) (by kernel_rfl) (by kernel_rfl) (by kernel_rfl) (fun _ _ _ h => h) hS (.inl ⟨by rfl, ?_⟩) ?_
      rotate_left 1
      · intro w' hS'; go_simp; try with_reducible rfl
      simp only [Act.put]
      refine wpAnyM_take (i := 5) (v := ?_) rfl (by kernel_rfl) (by kernel_rfl) (by kernel_rfl) (by kernel_rfl) (by kernel_rfl) (fun _ _ _ h => h) hS (.inl ⟨by rfl, ?_⟩) ?_
      rotate_left 1
      · intro w' hS'; go_simp; try with_reducible rfl
      simp only [Act.put]
      refine wpAnyM_take (i := 6) (v := ?_) rfl (by kernel_rfl) (by kernel_rfl) (by kernel_rfl) (by kernel_rfl) (by kernel_rfl) (fun _ _ _ h => h) hS (.inl ⟨by rfl, ?_⟩) ?_
      rotate_left 1
      · intro w' hS'; go_simp; try with_reducible rfl
      simp only [Act.put]
      refine wpAnyM_take (i := 7) (v := ?_) rfl (by kernel_rfl) (by kernel_rfl) (by kernel_rfl) (by kernel_rfl) (by kernel_rfl) (fun _ _ _ h => h) hS (.inl ⟨by rfl, ?_⟩) ?_
      rotate_left 1
      · intro w' hS'; go_simp; try with_reducible rfl
      simp only [Act.put]
      refine wpAnyM_take (i := 8) (v := ?_) rfl (by kernel_rfl) (by kernel_rfl) (by kernel_rfl) (by kernel_rfl) (by kernel_rfl) (fun _ _ _ h => h) hS (.inl ⟨by rfl, ?_⟩) ?_
      rotate_left 1
      · intro w' hS'; go_simp; try with_reducible rfl
      simp only [Act.put]
      refine wpAnyM_take (i := 9) (v := ?_) rfl (by kernel_rfl) (by kernel_rfl) (by kernel_rfl) (by kernel_rfl) (by kernel_rfl) (fun _ _ _ h => h) hS (.inl ⟨by rfl, ?_⟩) ?_
      rotate_left 1
      · intro w' hS'; go_simp; try with_reducible rfl
      simp only [Act.put]
      refine wpAnyM_take (i := 10) (v := ?_) rfl (by kernel_rfl) (by kernel_rfl) (by kernel_rfl) (by kernel_rfl) (by kernel_rfl) (fun _ _ _ h => h) hS (.inl ⟨by rfl, ?_⟩) ?_
      rotate_left 1
      · intro w' hS'; go_simp; try with_reducible rfl
      simp only [Act.put]
      refine wpAnyM_take (i := 11) (v := ?_) rfl (by kernel_rfl) (by kernel_rfl) (by kernel_rfl) (by kernel_rfl) (by kernel_rfl) (fun _ _ _ h => h) hS (.inl ⟨by rfl, ?_⟩) ?_
      rotate_left 1
      · intro w' hS'; go_simp; try with_reducible rfl
      simp only [Act.put]
      refine wpAnyM_take (i := 12) (v := ?_) rfl (by kernel_rfl) (by kernel_rfl) (by kernel_rfl) (by kernel_rfl) (by kernel_rfl) (fun _ _ _ h => h) hS (.inl ⟨by rfl, ?_⟩) ?_
      rotate_left 1
      · intro w' hS'; go_simp; try with_reducible rfl
      simp only [Act.put]
      clear k1 k2
      refine wpAnyM_one (i := 13) (by kernel_rfl) rfl (by rfl) (fun K hK => ?_)
      go_simp
      refine HP.out.mono ?_
      rintro e w2 ⟨rfl, hb2⟩
      have hS1 : Below wr.heap.size wr w2 := hS.trans hb2
      have own2 := own.below hS1
      have hbel2 := hbel.trans (hS1.mono (Nat.le_of_lt hgs))
      have hgs2 : g < w2.heap.size := Nat.lt_of_lt_of_le hgs hS1.size
      have c1 := own2.get (j := k) (by rw [pad_tab_len (by omega)]; omega)
      have t1 := own2.thaw k
      have q1 := own2.put k dv
      rw [pad_tab_set hlt dv HD.out] at q1
      have Q1 := Lib.hid q1
      clear own own2 q1 hS hb2
      refine hK _ _ (.inr hS1) ?_
      try simp only [Act.put, List.setIfInBounds_toArray]
      clear hK K
      refine wpAnyM_take (i := 14) (v := ?_) rfl (by kernel_rfl) (by kernel_rfl) (by kernel_rfl) (by kernel_rfl) (by kernel_rfl) (fun _ _ _ h => h) hS1 (.inl ⟨by rfl, ?_⟩) ?_
      rotate_left 1
      · intro w' hS'; go_simp; try with_reducible rfl
      simp only [Act.put, List.setIfInBounds_toArray]
      refine wpAnyM_take (i := 15) (v := ?_) rfl (by kernel_rfl) (by kernel_rfl) (by kernel_rfl) (by kernel_rfl) (by kernel_rfl) (fun _ _ _ h => h) hS1 (.inl ⟨by rfl, ?_⟩) ?_
      rotate_left 1
      · intro w' hS'; go_simp; try with_reducible rfl
      simp only [Act.put]
      refine wpAnyM_take (i := 17) (v := ?_) rfl (by kernel_rfl) (by kernel_rfl) (by kernel_rfl) (by kernel_rfl) (by kernel_rfl) (fun _ _ _ h => h) hS1 (.inl ⟨by rfl, ?_⟩) ?_
      rotate_left 1
      · intro w' hS'; go_simp; try with_reducible rfl
      simp only [Act.put]
      refine wpAnyM_two (i := 16) (j := 18) (by kernel_rfl) rfl rfl (by rfl) (by rfl) (fun K hK => ?_) (fun K hK => ?_)
      · go_simp
        refine hK _ _ (.inr hS1) ?_
        try simp only [Act.put, List.setIfInBounds_toArray]
        clear hK K
        refine wpAnyM_one (i := 18) (by kernel_rfl) rfl (by rfl) (fun K hK => ?_)
        go_simp
        refine hK _ _ (.inl rfl) ?_
        clear hK K
        try simp only [Act.put, List.setIfInBounds_toArray]
        refine wpAnyM_one (i := 19) (by kernel_rfl) rfl (by rfl) (fun K hK => ?_)
        go_simp
        refine hK _ _ (.inl rfl) ?_
        clear hK K
        try simp only [Act.put, List.setIfInBounds_toArray]
        refine wpAnyM_done (by kernel_rfl) ?_ _
        go_wp2
        go_roundw
        case rel => exact ⟨k + 1, by omega, by rw [HC.out], by go_num, Q1.out, hbel2.setCell (p := ⟨g, k, none⟩) (Nat.le_refl _) _, by simpa using hgs2⟩
        case measure => (simp [intOf]) <;> omega
      · go_simp
        refine hK _ _ (.inl rfl) ?_
        try simp only [Act.put, List.setIfInBounds_toArray]
        clear hK K
        refine wpAnyM_one (i := 16) (by kernel_rfl) rfl (by rfl) (fun K hK => ?_)
        go_simp
        refine hK _ _ (.inl rfl) ?_
        clear hK K
        try simp only [Act.put, List.setIfInBounds_toArray]
        refine wpAnyM_one (i := 19) (by kernel_rfl) rfl (by rfl) (fun K hK => ?_)
        go_simp
        refine hK _ _ (.inl rfl) ?_
        clear hK K
        try simp only [Act.put, List.setIfInBounds_toArray]
        refine wpAnyM_done (by kernel_rfl) ?_ _
        go_wp2
        go_roundw
        case rel => exact ⟨k + 1, by omega, by rw [HC.out], by go_num, Q1.out, hbel2.setCell (p := ⟨g, k, none⟩) (Nat.le_refl _) _, by simpa using hgs2⟩
        case measure => (simp [intOf]) <;> omega
    · obtain rfl : k = xs.length := by omega
      rw [pad_tab_all] at own
      go_wp2
      refine bodyPost_ret (v := .tuple #[.slice (some ⟨g, 0, none⟩) xs.length xs.length, .int .i64 ((tabC B rs xs ys) xs.length)]) (by simp [results, Try.results106, go_sem]) rfl ?_
      exact ⟨_, _, rfl, own.wide (by rw [← HG.out]; exact Nat.le_refl _) (by omega), hbw⟩
end Go.Proofs.Ytmdngcoccekdgaa

/- PairI -/
namespace Go.Proofs.Ytmdngcoccekdgaa
open Go.RowKit

set_option maxRecDepth 100000 in
set_option maxHeartbeats 1000000 in
theorem pairCode_any (xB : Int) (xA : Option Addr) (xC : Nat) (xZ : List Int) (yB : Int) (yA : Option Addr) (yC : Nat) (yZ : List Int) (w : World) (ha : Rd w xA xZ) (zx : All64 xZ) (bx : I64 xB) (hb : Rd w yA yZ) (zy : All64 yZ) (by_ : I64 yB) :
    Calls Try.prog 63 #[.agg #[.int .i64 xB, .slice xA xZ.length xC], .agg #[.int .i64 yB, .slice yA yZ.length yC]] w fun e w' => e = .returned (.int .i64 (twoE xB xZ yB yZ)) ∧ Below w.heap.size w w' := by
  go_enter Try.func63, Try.ntmps63
  go_wp2_with fail
  obtain ⟨u, hu⟩ : ∃ u, u = (w.alloc (.cells #[.int .i64 xB, .slice xA xZ.length xC] 31)).alloc (.cells #[.int .i64 yB, .slice yA yZ.length yC] 31) := ⟨_, rfl⟩
  rw [← hu]
  have hbel : Below w.heap.size w u := by rw [hu]; exact (by repeat (first | exact Below.refl _ _ | refine Below.setCell ?_ (by first | omega | (simp <;> omega)) _ | refine Below.alloc ?_ (by first | omega | (simp <;> omega)) _ | refine Below.drew ?_))
  have c0 : u.cell? ⟨w.heap.size, 0, none⟩ = some (.int .i64 xB) := by rw [hu]; go_simp
  have c1 : u.cell? ⟨w.heap.size, 1, none⟩ = some (.slice xA xZ.length xC) := by rw [hu]; go_simp
  have d0 : u.cell? ⟨w.heap.size + 1, 0, none⟩ = some (.int .i64 yB) := by rw [hu]; go_simp
  have d1 : u.cell? ⟨w.heap.size + 1, 1, none⟩ = some (.slice yA yZ.length yC) := by rw [hu]; go_simp
  replace ha := ha.below hbel
  replace hb := hb.below hbel
  clear hu
  cases h1 : okB xB xZ with
  | false =>
    have HT := Lib.hid (show twoE xB xZ yB yZ = 1 by simp [twoE, h1])
    refine (implValidRegister xB xA xC xZ u ha zx bx).mono ?_
    rintro e w1 ⟨rfl, hb1⟩
    rw [h1]
    go_wp2
    go_ret
    exact ⟨ret_int HT.out.symm, hbel.trans (hb1.mono hbel.size)⟩
  | true =>
    refine (implValidRegister xB xA xC xZ u ha zx bx).mono ?_
    rintro e w1 ⟨rfl, hb1⟩
    rw [h1]
    replace ha := ha.below hb1
    replace hb := hb.below hb1
    replace c0 := kept hb1 c0
    replace c1 := kept hb1 c1
    replace d0 := kept hb1 d0
    replace d1 := kept hb1 d1
    replace hbel := hbel.trans (hb1.mono hbel.size)
    have H1 := Lib.hid h1
    clear hb1 h1 u
    go_wp2_with fail
    refine (implValidRegister yB yA yC yZ w1 hb zy by_).mono ?_
    rintro e w2 ⟨rfl, hb1⟩
    cases h2 : okB yB yZ with
    | false =>
      have HT := Lib.hid (show twoE xB xZ yB yZ = 1 by simp [twoE, h2])
      go_wp2
      go_ret
      exact ⟨ret_int HT.out.symm, hbel.trans (hb1.mono hbel.size)⟩
    | true =>
      replace c0 := kept hb1 c0
      replace c1 := kept hb1 c1
      replace d0 := kept hb1 d0
      replace d1 := kept hb1 d1
      replace hbel := hbel.trans (hb1.mono hbel.size)
      have HT : Hid (twoE xB xZ yB yZ = if xB = yB ∧ xZ.length = yZ.length then 0 else 6) := Lib.hid (by simp [twoE, H1.out, h2])
      clear hb1 h2 H1 ha hb w1
      have e1 := kept_after c0
      have e2 := kept_after c1
      have e3 := kept_after d0
      have e4 := kept_after d1
      by_cases h : xB = yB ∧ xZ.length = yZ.length
      · rw [if_pos h] at HT
        have hbe : (xB == yB) = true := by simp [h.1]
        have hle : ((xZ.length : Int) == (yZ.length : Int)) = true := by simp [h.2]
        clear h
        go_wp2
        refine wp_region_after (by kernel_rfl) (by kernel_rfl) ?_
        repeat (go_big_quiet_step ((go_at_call 105; exact calls_after (shapeOf_any _ _ _ _ _))))
        refine wpQuiet_nil ?_
        intro u
        go_wp2
        go_ret
        exact ⟨ret_int HT.out.symm, hbel.trans (u.ok.mono hbel.size)⟩
      · rw [if_neg h] at HT
        by_cases h1 : xB = yB
        · have hbe : (xB == yB) = true := by simp [h1]
          have hle : ((xZ.length : Int) == (yZ.length : Int)) = false := by simp; omega
          clear h h1
          go_wp2
          refine wp_region_after (by kernel_rfl) (by kernel_rfl) ?_
          repeat (go_big_quiet_step ((go_at_call 105; exact calls_after (shapeOf_any _ _ _ _ _))))
          refine wpQuiet_nil ?_
          intro u
          go_wp2
          go_ret
          exact ⟨ret_int HT.out.symm, hbel.trans (u.ok.mono hbel.size)⟩
        · have hbe : (xB == yB) = false := by simp [h1]
          clear h h1
          go_wp2
          refine wp_region_after (by kernel_rfl) (by kernel_rfl) ?_
          repeat (go_big_quiet_step ((go_at_call 105; exact calls_after (shapeOf_any _ _ _ _ _))))
          refine wpQuiet_nil ?_
          intro u
          go_wp2
          go_ret
          exact ⟨ret_int HT.out.symm, hbel.trans (u.ok.mono hbel.size)⟩
end Go.Proofs.Ytmdngcoccekdgaa

/- Fin -/
namespace Go.Proofs.Ytmdngcoccekdgaa
open Go.RowKit

set_option maxRecDepth 100000 in
set_option maxHeartbeats 1000000 in
theorem finish_ok (xB : Int) (xA : Option Addr) (xC : Nat) (xZ : List Int) (w : World) (ha : Rd w xA xZ) (z : All64 xZ) (b : I64 xB) (h : okB xB xZ = true) :
    Calls Try.prog 107 #[.int .i64 xB, .slice xA xZ.length xC] w fun e w' => e = .returned (.tuple #[.agg #[.int .i64 xB, .slice xA xZ.length xC], .int .i64 0]) ∧ Below w.heap.size w w' := by
  have H := Lib.hid h
  clear h
  go_enter Try.func107, Try.ntmps107
  go_wp2_with fail
  obtain ⟨u, hu⟩ : ∃ u, u = (w.alloc (.cells #[.int .i64 0, .slice none 0 0] 31)).alloc (.cells #[.int .i64 xB, .slice xA xZ.length xC] 31) := ⟨_, rfl⟩
  rw [← hu]
  have hbel : Below w.heap.size w u := by rw [hu]; exact (by repeat (first | exact Below.refl _ _ | refine Below.setCell ?_ (by first | omega | (simp <;> omega)) _ | refine Below.alloc ?_ (by first | omega | (simp <;> omega)) _ | refine Below.drew ?_))
  have ax : Bx u w.heap.size 31 #[.int .i64 0, .slice none 0 0] := by rw [hu]; exact (Bx.new _ _ _).alloc _
  have bx : Bx u (w.heap.size + 1) 31 #[.int .i64 xB, .slice xA xZ.length xC] := by rw [hu]; simpa using Bx.new (w.alloc (.cells #[.int .i64 0, .slice none 0 0] 31)) #[.int .i64 xB, .slice xA xZ.length xC] 31
  clear hu
  refine (implValidRegister xB xA xC xZ u (ha.below hbel) z b).mono ?_
  rintro e v ⟨rfl, hb1⟩
  rw [H.out]
  replace ax := ax.below hb1
  replace bx := bx.below hb1
  replace hbel := hbel.trans (hb1.mono hbel.size)
  clear hb1 u
  have c0 := ax.at_ 0 rfl
  have c1 := ax.at_ 1 rfl
  have f0 := ax.thaw 0
  have f1 := ax.thaw 1
  have d0 := bx.at_ 0 rfl
  have d1 := bx.at_ 1 rfl
  have hsz := bx.lt
  go_wp2
  exact bodyPost_ret (v := .tuple #[.agg #[.int .i64 xB, .slice xA xZ.length xC], .int .i64 0]) (by simp [results, Try.results107, go_sem, c0, c1]) rfl
    ⟨rfl, (by repeat (first | exact hbel | refine Below.setCell ?_ (by first | omega | (simp <;> omega)) _ | refine Below.alloc ?_ (by first | omega | (simp <;> omega)) _ | refine Below.drew ?_))⟩

set_option maxRecDepth 100000 in
set_option maxHeartbeats 1000000 in
theorem finish_full (xB : Int) (xA : Option Addr) (xC : Nat) (xZ : List Int) (w : World) (ha : Rd w xA xZ) (z : All64 xZ) (b : I64 xB) (h : okB xB xZ = false) :
    Calls Try.prog 107 #[.int .i64 xB, .slice xA xZ.length xC] w fun e w' => e = .returned (.tuple #[.agg #[.int .i64 0, .slice none 0 0], .int .i64 5]) ∧ Below w.heap.size w w' := by
  have H := Lib.hid h
  clear h
  go_enter Try.func107, Try.ntmps107
  go_wp2_with fail
  obtain ⟨u, hu⟩ : ∃ u, u = (w.alloc (.cells #[.int .i64 0, .slice none 0 0] 31)).alloc (.cells #[.int .i64 xB, .slice xA xZ.length xC] 31) := ⟨_, rfl⟩
  rw [← hu]
  have hbel : Below w.heap.size w u := by rw [hu]; exact (by repeat (first | exact Below.refl _ _ | refine Below.setCell ?_ (by first | omega | (simp <;> omega)) _ | refine Below.alloc ?_ (by first | omega | (simp <;> omega)) _ | refine Below.drew ?_))
  have ax : Bx u w.heap.size 31 #[.int .i64 0, .slice none 0 0] := by rw [hu]; exact (Bx.new _ _ _).alloc _
  clear hu
  refine (implValidRegister xB xA xC xZ u (ha.below hbel) z b).mono ?_
  rintro e v ⟨rfl, hb1⟩
  rw [H.out]
  replace ax := ax.below hb1
  replace hbel := hbel.trans (hb1.mono hbel.size)
  clear hb1 u
  have c0 := ax.at_ 0 rfl
  have c1 := ax.at_ 1 rfl
  have f0 := ax.thaw 0
  have f1 := ax.thaw 1
  go_wp2
  exact bodyPost_ret (v := .tuple #[.agg #[.int .i64 0, .slice none 0 0], .int .i64 5]) (by simp [results, Try.results107, go_sem, c0, c1]) rfl
    ⟨rfl, (by repeat (first | exact hbel | refine Below.setCell ?_ (by first | omega | (simp <;> omega)) _ | refine Below.alloc ?_ (by first | omega | (simp <;> omega)) _ | refine Below.drew ?_))⟩

end Go.Proofs.Ytmdngcoccekdgaa

/- ArS -/
namespace Go.Proofs.Ytmdngcoccekdgaa
open Go.RowKit

/-- What a call of AddRegisters leaves. -/
def addRPost (b : Int) (xs : List Int) (d : Int) (ys : List Int) (w : World) (e : Ending) (w' : World) : Prop := ∃ A C,
  e = .returned (.tuple #[.agg #[.int .i64 (addR b xs d ys).1, .slice A (addR b xs d ys).2.1.length C], .int .i64 (addR b xs d ys).2.2.1, .int .i64 (addR b xs d ys).2.2.2]) ∧ Own 2 w' w.heap.size w'.heap.size (.slice A (addR b xs d ys).2.1.length C) (addR b xs d ys).2.1 ∧ Below w.heap.size w w'
theorem addRPost_err {b d c : Int} {xs ys : List Int} {w w' : World} {e : Ending} (h : addR b xs d ys = (0, [], 0, c)) (he : e = .returned (.tuple #[.agg #[.int .i64 0, .slice none 0 0], .int .i64 0, .int .i64 c])) (hb : Below w.heap.size w w') : addRPost b xs d ys w e w' := by
  refine ⟨none, 0, ?_, ?_, hb⟩
  · rw [h]; exact he
  · rw [h]; exact own_nil _ _ _ _
theorem addRPost_ok {b d k : Int} {xs ys zs : List Int} {m : Nat} {w w' : World} {A : Option Addr} {C lo hi : Nat} {e : Ending} (h : addR b xs d ys = (b, zs, k, 0)) (hm : zs.length = m) (he : e = .returned (.tuple #[.agg #[.int .i64 b, .slice A m C], .int .i64 k, .int .i64 0]))
    (ho : Own 2 w' lo hi (.slice A m C) zs) (hl : w.heap.size ≤ lo) (hh : hi ≤ w'.heap.size) (hb : Below w.heap.size w w') : addRPost b xs d ys w e w' := by
  subst hm
  refine ⟨A, C, ?_, ?_, hb⟩
  · rw [h]; exact he
  · rw [h]; exact ho.wide hl hh

set_option maxRecDepth 100000 in
set_option maxHeartbeats 1000000 in
theorem specAddRegisters (xB : Int) (xA : Option Addr) (xC : Nat) (xZ : List Int) (yB : Int) (yA : Option Addr) (yC : Nat) (yZ : List Int) (w : World) (ha : Rd w xA xZ) (_ : All64 xZ) (_ : I64 xB) (hb : Rd w yA yZ) (_ : All64 yZ) (_ : I64 yB) :
    Calls Try.prog 19 #[.agg #[.int .i64 xB, .slice xA xZ.length xC], .agg #[.int .i64 yB, .slice yA yZ.length yC]] w (addRPost xB xZ yB yZ w) := by
  have hx16 := fun h : twoE xB xZ yB yZ = 0 => okB_spec (twoE_zero h).1
  go_enter Try.func19, Try.ntmps19
  go_wp2_with fail
  obtain ⟨u, hu⟩ : ∃ u, u = ((w.alloc (.cells #[.int .i64 xB, .slice xA xZ.length xC] 31)).alloc (.cells #[.int .i64 yB, .slice yA yZ.length yC] 31)).alloc (.cells #[.int .i64 0, .slice none 0 0] 31) := ⟨_, rfl⟩
  rw [← hu]
  have hbel : Below w.heap.size w u := by rw [hu]; exact (by repeat (first | exact Below.refl _ _ | refine Below.setCell ?_ (by first | omega | (simp <;> omega)) _ | refine Below.alloc ?_ (by first | omega | (simp <;> omega)) _ | refine Below.drew ?_))
  have c0 : u.cell? ⟨w.heap.size, 0, none⟩ = some (.int .i64 xB) := by rw [hu]; go_simp
  have c1 : u.cell? ⟨w.heap.size, 1, none⟩ = some (.slice xA xZ.length xC) := by rw [hu]; go_simp
  have d0 : u.cell? ⟨w.heap.size + 1, 0, none⟩ = some (.int .i64 yB) := by rw [hu]; go_simp
  have d1 : u.cell? ⟨w.heap.size + 1, 1, none⟩ = some (.slice yA yZ.length yC) := by rw [hu]; go_simp
  have bx : Bx u (w.heap.size + 2) 31 #[.int .i64 0, .slice none 0 0] := by rw [hu]; simpa using Bx.new ((w.alloc (.cells #[.int .i64 xB, .slice xA xZ.length xC] 31)).alloc (.cells #[.int .i64 yB, .slice yA yZ.length yC] 31)) #[.int .i64 0, .slice none 0 0] 31
  have r0 := bx.at_ 0 rfl
  have r1 := bx.at_ 1 rfl
  have f0 := bx.thaw 0
  have f1 := bx.thaw 1
  have hus := bx.lt
  replace ha := ha.below hbel
  replace hb := hb.below hbel
  clear hu
  refine (l02Two_any w.heap.size (w.heap.size + 1) xB yB xA yA xC yC xZ yZ u ha hb c0 c1 d0 d1).mono ?_
  rintro e w1 ⟨rfl, n, rfl⟩
  by_cases h : twoE xB xZ yB yZ = 0
  · have HX := Lib.hid (hx16 h)
    have HW := Lib.hid (twoE_zero h)
    have ht : (twoE xB xZ yB yZ != 0) = false := by simp [h]
    have H := Lib.hid h
    clear h hx16
    go_wp2_with fail
    refine (l02Add_any w.heap.size (w.heap.size + 1) xB yB xA yA xC yC xZ yZ _ (ha.drewN n) (hb.drewN n) HX.out.1 HX.out.2.1 HX.out.2.2.2.1 HW.out.2.2.2 (digit_of_ok HW.out.1) (by have h1 := HW.out.2.2; intro k hk; have h2 := digit_of_ok HW.out.2.1 k (by omega); omega) c0 c1 d0 d1).mono ?_
    rintro e w1 ⟨A, C, rfl, hown, hb1⟩
    have bx1 := (bx.drewN n).below hb1
    have hb2 := (bel_drewN hbel n).trans (hb1.mono (by have := hbel.size; simpa using this))
    have hs1 := bx1.lt
    have r0 := bx1.at_ 0 rfl
    have r1 := bx1.at_ 1 rfl
    have f0 := bx1.thaw 0
    have f1 := bx1.thaw 1
    go_wp2_with fail
    obtain ⟨v, hv⟩ : ∃ v, v = w1.alloc (.cells #[.int .i64 xB, .slice A xZ.length C] 31) := ⟨_, rfl⟩
    have hb3 : Below w1.heap.size w1 v := by rw [hv]; exact (Below.refl _ _).alloc (Nat.le_refl _) _
    have bx2 := bx1.below hb3
    have by2 : Bx v w1.heap.size 31 #[.int .i64 xB, .slice A xZ.length C] := by rw [hv]; exact Bx.new _ _ _
    have hown2 : Own 2 v u.heap.size w1.heap.size (.slice A (tab (sumD xB xZ yZ) xZ.length).length C) (tab (sumD xB xZ yZ) xZ.length) := by rw [hv, tab_len]; exact hown.alloc _
    have hb4 := hb2.trans (hb3.mono hb2.size)
    rw [← hv]
    clear hv hb3 hown
    have hs2 := by2.lt
    have r0 := bx2.at_ 0 rfl
    have r1 := bx2.at_ 1 rfl
    have f0 := bx2.thaw 0
    have f1 := bx2.thaw 1
    have o0 := by2.at_ 0 rfl
    have o1 := by2.at_ 1 rfl
    have hR := hown2.rd
    rw [show (#[Value.int .i64 xB, .slice A xZ.length C] : Array Value)[1] = .slice A (tab (sumD xB xZ yZ) xZ.length).length C by rw [tab_len]; rfl] at o1
    by_cases hk : okB xB (tab (sumD xB xZ yZ) xZ.length) = true
    · have HR := Lib.hid (show addR xB xZ yB yZ = (xB, tab (sumD xB xZ yZ) xZ.length, cK xB xZ yZ xZ.length, 0) by simp [addR, H.out, hk])
      refine (l02Ok_at0 w1.heap.size xB A C (tab (sumD xB xZ yZ) xZ.length) v hk hR o0 o1).mono ?_
      rintro e w2 ⟨rfl, n', rfl⟩
      have HK := Lib.hid hk
      clear hk H hR
      go_wp2
      exact bodyPost_ret (v := .tuple #[.agg #[.int .i64 xB, .slice A (tab (sumD xB xZ yZ) xZ.length).length C], .int .i64 (cK xB xZ yZ xZ.length), .int .i64 0]) (by simp [results, Try.results19, go_sem, r0, r1]) rfl
        (addRPost_ok HR.out rfl rfl (lo := u.heap.size) (hi := w1.heap.size) (((hown2.drewN n').setCell (p := ⟨w.heap.size + 1 + 1, 0, none⟩) (.inl hus) _).setCell (p := ⟨w.heap.size + 1 + 1, 1, none⟩) (.inl hus) _) hbel.size (by simp; omega) (by repeat (first | exact bel_drewN hb4 n' | refine Below.setCell ?_ (by first | omega | (simp <;> omega)) _ | refine Below.alloc ?_ (by first | omega | (simp <;> omega)) _ | refine Below.drew ?_)))
    · have HR := Lib.hid (show addR xB xZ yB yZ = (0, [], 0, 5) by simp [addR, H.out, hk])
      refine (l02Ok_at0 (v := false) w1.heap.size xB A C (tab (sumD xB xZ yZ) xZ.length) v (by simpa using hk) hR o0 o1).mono ?_
      rintro e w2 ⟨rfl, n', rfl⟩
      clear hk H hR
      go_wp2
      exact bodyPost_ret (v := .tuple #[.agg #[.int .i64 0, .slice none 0 0], .int .i64 0, .int .i64 5]) (by simp [results, Try.results19, go_sem, r0, r1]) rfl
        (addRPost_err HR.out rfl (by repeat (first | exact bel_drewN hb4 n' | refine Below.setCell ?_ (by first | omega | (simp <;> omega)) _ | refine Below.alloc ?_ (by first | omega | (simp <;> omega)) _ | refine Below.drew ?_)))
  · have ht : (twoE xB xZ yB yZ != 0) = true := by simp [h]
    have HR := Lib.hid (show addR xB xZ yB yZ = (0, [], 0, twoE xB xZ yB yZ) by simp [addR, h])
    clear h hx16
    go_wp2
    exact bodyPost_ret (v := .tuple #[.agg #[.int .i64 0, .slice none 0 0], .int .i64 0, .int .i64 (twoE xB xZ yB yZ)]) (by simp [results, Try.results19, go_sem, r0, r1]) rfl
      (addRPost_err HR.out rfl (by repeat (first | exact bel_drewN hbel n | refine Below.setCell ?_ (by first | omega | (simp <;> omega)) _ | refine Below.alloc ?_ (by first | omega | (simp <;> omega)) _ | refine Below.drew ?_)))

/-- What a call of SubRegisters leaves. -/
def subRPost (b : Int) (xs : List Int) (d : Int) (ys : List Int) (w : World) (e : Ending) (w' : World) : Prop := ∃ A C,
  e = .returned (.tuple #[.agg #[.int .i64 (subR b xs d ys).1, .slice A (subR b xs d ys).2.1.length C], .int .i64 (subR b xs d ys).2.2.1, .int .i64 (subR b xs d ys).2.2.2]) ∧ Own 2 w' w.heap.size w'.heap.size (.slice A (subR b xs d ys).2.1.length C) (subR b xs d ys).2.1 ∧ Below w.heap.size w w'
theorem subRPost_err {b d c : Int} {xs ys : List Int} {w w' : World} {e : Ending} (h : subR b xs d ys = (0, [], 0, c)) (he : e = .returned (.tuple #[.agg #[.int .i64 0, .slice none 0 0], .int .i64 0, .int .i64 c])) (hb : Below w.heap.size w w') : subRPost b xs d ys w e w' := by
  refine ⟨none, 0, ?_, ?_, hb⟩
  · rw [h]; exact he
  · rw [h]; exact own_nil _ _ _ _
theorem subRPost_ok {b d k : Int} {xs ys zs : List Int} {m : Nat} {w w' : World} {A : Option Addr} {C lo hi : Nat} {e : Ending} (h : subR b xs d ys = (b, zs, k, 0)) (hm : zs.length = m) (he : e = .returned (.tuple #[.agg #[.int .i64 b, .slice A m C], .int .i64 k, .int .i64 0]))
    (ho : Own 2 w' lo hi (.slice A m C) zs) (hl : w.heap.size ≤ lo) (hh : hi ≤ w'.heap.size) (hb : Below w.heap.size w w') : subRPost b xs d ys w e w' := by
  subst hm
  refine ⟨A, C, ?_, ?_, hb⟩
  · rw [h]; exact he
  · rw [h]; exact ho.wide hl hh

end Go.Proofs.Ytmdngcoccekdgaa

/- ArI -/
namespace Go.Proofs.Ytmdngcoccekdgaa
open Go.RowKit

/-- A box of two cells that is written, and then a new block. -/
theorem Bx.put2 {w : World} {g : Nat} {t : TypeId} {a b : Value} (h : Bx w g t #[a, b]) (u v : Value) (o : Obj) :
    (((w.setCell ⟨g, 0, none⟩ u).setCell ⟨g, 1, none⟩ v).alloc o).cell? ⟨g, 0, none⟩ = some u ∧ (((w.setCell ⟨g, 0, none⟩ u).setCell ⟨g, 1, none⟩ v).alloc o).cell? ⟨g, 1, none⟩ = some v := by
  have := ((h.set_ 0 u).set_ 1 v).alloc o
  exact ⟨this.at_ 0 rfl, this.at_ 1 rfl⟩
theorem i64_small {z : Int} (h1 : -1000000000000000000 ≤ z) (h2 : z ≤ 1000000000000000000) : I64 z := by
  have e1 : IntKind.i64.min = -9223372036854775808 := by decide
  have e2 : IntKind.i64.max = 9223372036854775807 := by decide
  simp [I64, Lit.wf, e1, e2]
  omega
theorem all64_tab {B : Int} {f : Nat → Int} {n : Nat} (hB : B ≤ 16) (h : ∀ k, k < n → 0 ≤ f k ∧ f k < B) : All64 (tab f n) := by
  intro z hz
  obtain ⟨k, hk, rfl⟩ := List.getElem_of_mem hz
  rw [tab_len] at hk
  have e := tab_nth (f := f) (n := n) (i := k) hk
  rw [nth_get (by rw [tab_len]; exact hk)] at e
  rw [e]
  have := h k hk
  exact i64_small (by omega) (by omega)
theorem sumD_bd {B : Int} {xs ys : List Int} (hB : 2 ≤ B) (_ : ∀ k, k < xs.length → 0 ≤ nth xs k ∧ nth xs k < B) (_ : ∀ k, k < xs.length → 0 ≤ nth ys k ∧ nth ys k < B) : ∀ k, k < xs.length → 0 ≤ sumD B xs ys k ∧ sumD B xs ys k < B :=
  fun _ _ => ⟨Int.emod_nonneg _ (by omega), Int.emod_lt_of_pos _ (by omega)⟩
theorem subD_bd {B : Int} {xs ys : List Int} (_ : 2 ≤ B) (hx : ∀ k, k < xs.length → 0 ≤ nth xs k ∧ nth xs k < B) (hy : ∀ k, k < xs.length → 0 ≤ nth ys k ∧ nth ys k < B) : ∀ k, k < xs.length → 0 ≤ subD B xs ys k ∧ subD B xs ys k < B := by
  intro k hk
  have h1 := hx k hk
  have h2 := hy k hk
  have h3 := bK_bd B xs ys k
  unfold subD
  split <;> omega

end Go.Proofs.Ytmdngcoccekdgaa

/- AddByT -/
namespace Go.Proofs.Ytmdngcoccekdgaa
open Go.RowKit

set_option maxRecDepth 100000 in
set_option maxHeartbeats 4000000 in
theorem addByT_any (g1 : Nat) (B D : Int) (a b : Option Addr) (c d : Nat) (xs ys : List Int) (w : World) (ha : Rd w a xs) (hb : Rd w b ys) (rs : List (Int × Int × Int × Int × Int)) (hF : TabAdd w g1 rs) (hK : TabOk B rs) (hB1 : 2 ≤ B) (hB2 : B ≤ 16) (hlen : xs.length ≤ 16) (hl : xs.length = ys.length)
    (hx : ∀ k, k < xs.length → 0 ≤ nth xs k ∧ nth xs k < B) (hy : ∀ k, k < xs.length → 0 ≤ nth ys k ∧ nth ys k < B) (bB : I64 B) :
    Calls Try.prog 64 #[.agg #[.int .i64 B, .slice a xs.length c], .agg #[.int .i64 D, .slice b ys.length d], .func (.func 109) #[] #[.pointer (some ⟨g1, 0, none⟩)]] w (reg4Post (finR4 B (tab (tabD B rs xs ys) xs.length) ((tabC B rs xs ys) xs.length)) w) := by
  have HX := Lib.hid hx
  have HY := Lib.hid hy
  have HL := Lib.hid hl
  clear hx hy hl
  go_enter Try.func64, Try.ntmps64
  go_wp2_with fail
  obtain ⟨u, hu⟩ : ∃ u, u = ((w.alloc (.cells #[.int .i64 B, .slice a xs.length c] 31)).alloc (.cells #[.int .i64 D, .slice b ys.length d] 31)).alloc (.cells #[.int .i64 0, .slice none 0 0] 31) := ⟨_, rfl⟩
  rw [← hu]
  have hbel : Below w.heap.size w u := by rw [hu]; exact (by repeat (first | exact Below.refl _ _ | refine Below.setCell ?_ (by first | omega | (simp <;> omega)) _ | refine Below.alloc ?_ (by first | omega | (simp <;> omega)) _ | refine Below.drew ?_))
  have ax : Bx u w.heap.size 31 #[.int .i64 B, .slice a xs.length c] := by rw [hu]; exact ((Bx.new _ _ _).alloc _).alloc _
  have ar : Bx u (w.heap.size + 1 + 1) 31 #[.int .i64 0, .slice none 0 0] := by rw [hu]; simpa using Bx.new ((w.alloc (.cells #[.int .i64 B, .slice a xs.length c] 31)).alloc (.cells #[.int .i64 D, .slice b ys.length d] 31)) #[.int .i64 0, .slice none 0 0] 31
  replace ha := ha.below hbel
  replace hb := hb.below hbel
  replace hF := hF.below hbel
  clear hu
  refine (plusByT_any g1 B a b c d xs ys u ha hb rs hF hK hB1 hB2 hlen HL.out HX.out HY.out).mono ?_
  rintro e w2 ⟨A1, C1, rfl, own1, hb2⟩
  have hA : All64 (tab (tabD B rs xs ys) xs.length) := all64_tab hB2 (fun k hk => tabD_bd hK HX.out HY.out k hk)
  have hvs := ar.lt
  replace ax := ax.below hb2
  replace ar := ar.below hb2
  replace hbel := hbel.trans (hb2.mono hbel.size)
  have c0 := ax.at_ 0 rfl
  clear hb2
  cases hk : okB B (tab (tabD B rs xs ys) xs.length) with
  | true =>
    have HR := Lib.hid (finR4_ok (c := (tabC B rs xs ys) xs.length) hk)
    have hfin := finish_ok B A1 C1 (tab (tabD B rs xs ys) xs.length) w2 own1.rd hA bB hk
    rw [tab_len] at hfin
    go_wp2_with fail
    refine hfin.mono ?_
    rintro e w3 ⟨rfl, hb2⟩
    replace ar := ar.below hb2
    replace own1 := own1.below hb2
    replace hbel := hbel.trans (hb2.mono hbel.size)
    have hs2 := hb2.size
    have hws := ar.lt
    have r0 := ar.at_ 0 rfl
    have r1 := ar.at_ 1 rfl
    have f0 := ar.thaw 0
    have f1 := ar.thaw 1
    have zz := ar.put2 (.int .i64 B) (.slice A1 xs.length C1) (.cells #[.int .i64 B, .slice A1 xs.length C1] 31)
    clear hb2 hk hfin
    go_wp2
    exact bodyPost_ret (v := .tuple #[.agg #[.int .i64 B, .slice A1 xs.length C1], .int .i64 ((tabC B rs xs ys) xs.length), .int .i64 0]) (by simp [results, Try.results64, go_sem, zz.1, zz.2]) rfl
      (reg4_ok HR.out (tab_len _ _) rfl (lo := u.heap.size) (hi := w2.heap.size) (((own1.setCell (p := ⟨w.heap.size + 1 + 1, 0, none⟩) (.inl (by simp; omega)) _).setCell (p := ⟨w.heap.size + 1 + 1, 1, none⟩) (.inl (by simp; omega)) _).alloc _) (by omega) (by simp; omega) (by repeat (first | exact hbel | refine Below.setCell ?_ (by first | omega | (simp <;> omega)) _ | refine Below.alloc ?_ (by first | omega | (simp <;> omega)) _ | refine Below.drew ?_)))
  | false =>
    have HR := Lib.hid (finR4_bad (c := (tabC B rs xs ys) xs.length) hk)
    have hfin := finish_full B A1 C1 (tab (tabD B rs xs ys) xs.length) w2 own1.rd hA bB hk
    rw [tab_len] at hfin
    go_wp2_with fail
    refine hfin.mono ?_
    rintro e w3 ⟨rfl, hb2⟩
    replace ar := ar.below hb2
    replace hbel := hbel.trans (hb2.mono hbel.size)
    clear hb2 hk hfin
    have r0 := ar.at_ 0 rfl
    have r1 := ar.at_ 1 rfl
    have f0 := ar.thaw 0
    have f1 := ar.thaw 1
    have hws := ar.lt
    have zz := ar.put2 (.int .i64 0) (.slice none 0 0) (.cells #[.int .i64 0, .slice none 0 0] 31)
    go_wp2
    exact bodyPost_ret (v := .tuple #[.agg #[.int .i64 0, .slice none 0 0], .int .i64 0, .int .i64 5]) (by simp [results, Try.results64, go_sem, zz.1, zz.2]) rfl
      (reg4_err HR.out rfl (by repeat (first | exact hbel | refine Below.setCell ?_ (by first | omega | (simp <;> omega)) _ | refine Below.alloc ?_ (by first | omega | (simp <;> omega)) _ | refine Below.drew ?_)))
end Go.Proofs.Ytmdngcoccekdgaa

/- AbtI -/
namespace Go.Proofs.Ytmdngcoccekdgaa
open Go.RowKit

set_option maxRecDepth 100000 in
set_option maxHeartbeats 4000000 in
theorem implAddByTable (f : Option Addr) (fc : Nat) (rs : List Row5) (xB : Int) (xA : Option Addr) (xC : Nat) (xZ : List Int) (yB : Int) (yA : Option Addr) (yC : Nat) (yZ : List Int) (w : World) (hf : RdF quinF w f rs) (_ : All5 rs) (ha : Rd w xA xZ) (zx : All64 xZ) (bx : I64 xB) (hb : Rd w yA yZ) (zy : All64 yZ) (by_ : I64 yB) :
    Calls Try.prog 18 #[.slice f rs.length fc, .agg #[.int .i64 xB, .slice xA xZ.length xC], .agg #[.int .i64 yB, .slice yA yZ.length yC]] w (reg4Post (abtR rs xB xZ yB yZ) w) := by
  go_enter Try.func18, Try.ntmps18
  go_wp2_with fail
  obtain ⟨u, hu⟩ : ∃ u, u = ((w.alloc (.cells #[.int .i64 xB, .slice xA xZ.length xC] 31)).alloc (.cells #[.int .i64 yB, .slice yA yZ.length yC] 31)).alloc (.cells #[.int .i64 0, .slice none 0 0] 31) := ⟨_, rfl⟩
  rw [← hu]
  obtain ⟨g, hg⟩ : ∃ g, g = w.heap.size := ⟨_, rfl⟩
  have hbel : Below w.heap.size w u := by rw [hu]; exact (by repeat (first | exact Below.refl _ _ | refine Below.setCell ?_ (by first | omega | (simp <;> omega)) _ | refine Below.alloc ?_ (by first | omega | (simp <;> omega)) _ | refine Below.drew ?_))
  have ax : Bx u w.heap.size 31 #[.int .i64 xB, .slice xA xZ.length xC] := by rw [hu]; exact ((Bx.new _ _ _).alloc _).alloc _
  have ay : Bx u (w.heap.size + 1) 31 #[.int .i64 yB, .slice yA yZ.length yC] := by rw [hu]; exact Bx.alloc (by simpa using Bx.new (w.alloc (.cells #[.int .i64 xB, .slice xA xZ.length xC] 31)) #[.int .i64 yB, .slice yA yZ.length yC] 31) _
  have ar : Bx u (w.heap.size + 1 + 1) 31 #[.int .i64 0, .slice none 0 0] := by rw [hu]; simpa using Bx.new ((w.alloc (.cells #[.int .i64 xB, .slice xA xZ.length xC] 31)).alloc (.cells #[.int .i64 yB, .slice yA yZ.length yC] 31)) #[.int .i64 0, .slice none 0 0] 31
  replace ha := ha.below hbel
  replace hb := hb.below hbel
  replace hf := hf.below hbel
  rw [← hg] at ax ay ar ⊢
  have HG := Lib.hid hg
  have hgl := hbel.size
  rw [← hg] at hgl
  clear hu hg
  refine (pairCode_any xB xA xC xZ yB yA yC yZ u ha zx bx hb zy by_).mono ?_
  rintro e v ⟨rfl, hb1⟩
  replace ha := ha.below hb1
  replace hb := hb.below hb1
  replace hf := hf.below hb1
  replace ax := ax.below hb1
  replace ay := ay.below hb1
  replace ar := ar.below hb1
  replace hbel := hbel.trans (hb1.mono hbel.size)
  clear hb1 hgl u
  have c0 := ax.at_ 0 rfl
  have c1 := ax.at_ 1 rfl
  have d0 := ay.at_ 0 rfl
  have d1 := ay.at_ 1 rfl
  by_cases h : twoE xB xZ yB yZ = 0
  · have HX := Lib.hid (okB_spec (twoE_zero h).1)
    have HW := Lib.hid (twoE_zero h)
    have ht : (twoE xB xZ yB yZ != 0) = false := by simp [h]
    have HY := Lib.hid (show ∀ k, k < xZ.length → 0 ≤ nth yZ k ∧ nth yZ k < xB by have h1 := HW.out.2.2; intro k hk; have h2 := digit_of_ok HW.out.2.1 k (by omega); omega)
    have hxb := HX.out
    obtain ⟨m, rfl⟩ : ∃ m : Nat, xB = m := ⟨xB.toNat, by omega⟩
    have hm1 : 2 ≤ m := by omega
    have hm2 : m ≤ 16 := by omega
    clear hxb
    cases hv : formB m rs with
    | false =>
      have HR := Lib.hid (abt_form h hv)
      have HW2 := Lib.hid (fwR_bad hv)
      clear h hv
      go_wp2_with fail
      refine (firstWrong_any m f fc rs v hf hm1 hm2).mono ?_
      rintro e w2 ⟨rfl, hb2⟩
      rw [HW2.out]
      replace ar := ar.below hb2
      replace hbel := hbel.trans (hb2.mono hbel.size)
      clear hb2
      have r0 := ar.at_ 0 rfl
      have r1 := ar.at_ 1 rfl
      have f0 := ar.thaw 0
      have f1 := ar.thaw 1
      go_wp2
      have hg := HG.out
      exact bodyPost_ret (v := .tuple #[.agg #[.int .i64 0, .slice none 0 0], .int .i64 0, .int .i64 8]) (by simp [results, Try.results18, go_sem, r0, r1]) rfl (reg4_err HR.out rfl (by repeat (first | exact hbel | refine Below.setCell ?_ (by first | omega | (simp <;> omega)) _ | refine Below.alloc ?_ (by first | omega | (simp <;> omega)) _ | refine Below.drew ?_)))
    | true =>
      have HF := Lib.hid (abt_fin h hv)
      have HV := Lib.hid (show TabOk (m : Int) rs from ⟨by omega, by omega, by simpa using hv⟩)
      have HW2 := Lib.hid (fwR_ok hv)
      clear h hv
      go_wp2_with fail
      refine (firstWrong_any m f fc rs v hf hm1 hm2).mono ?_
      rintro e w2 ⟨rfl, hb2⟩
      rw [HW2.out]
      replace ha := ha.below hb2
      replace hb := hb.below hb2
      replace hf := hf.below hb2
      replace ax := ax.below hb2
      replace ay := ay.below hb2
      replace ar := ar.below hb2
      replace hbel := hbel.trans (hb2.mono hbel.size)
      clear hb2 c0 c1 d0 d1 v
      have c0 := kept_all (ax.at_ 0 rfl)
      have c1 := kept_all (ax.at_ 1 rfl)
      have d0 := kept_all (ay.at_ 0 rfl)
      have d1 := kept_all (ay.at_ 1 rfl)
      have hws := ar.lt
      go_upto_region 7 with fail
      refine wp_region_marked (fun w' => Below w2.heap.size w2 w') 8 (by kernel_rfl) ?_
      have hS : Below w2.heap.size w2 w2.drew := (Below.refl _ _).drew
      refine wpAnyM_take (i := 0) (v := ?_) rfl (by kernel_rfl) (by kernel_rfl) (by kernel_rfl) (by kernel_rfl) (by kernel_rfl) (fun _ _ _ h => h) hS (.inl ⟨by rfl, ?_⟩) ?_
      rotate_left 1
      · intro w' hS'; go_simp; try with_reducible rfl
      simp only [Act.put, List.setIfInBounds_toArray]
      refine wpAnyM_take (i := 1) (v := ?_) rfl (by kernel_rfl) (by kernel_rfl) (by kernel_rfl) (by kernel_rfl) (by kernel_rfl) (fun _ _ _ h => h) hS (.inl ⟨by rfl, ?_⟩) ?_
      rotate_left 1
      · intro w' hS'; go_simp; try with_reducible rfl
      simp only [Act.put]
      refine wpAnyM_takeC (i := 2) (v := ?_) 4 rfl (by kernel_rfl) (by kernel_rfl) (by kernel_rfl) (by kernel_rfl) (by kernel_rfl) (by kernel_rfl) (fun _ _ _ h => h) hS (.inl ⟨by rfl, ?_⟩) ?_
      rotate_left 1
      · intro w' hS'; go_simp; try with_reducible rfl
      simp only [Act.put]
      clear c0 c1 d0 d1
      refine wpAnyM_one (i := 3) (by kernel_rfl) rfl (by rfl) (fun K hK => ?_)
      go_simp
      refine (placesByTable_any (m : Int) f fc rs w2.drew hf.drew HV.out).mono ?_
      rintro e w3 ⟨g1, rfl, hF, hb3⟩
      have hS1 : Below w2.heap.size w2 w3 := hS.trans hb3
      refine hK _ _ (.inr hS1) ?_
      try simp only [Act.put, List.setIfInBounds_toArray]
      clear hK K
      refine wpAnyM_one (i := 4) (by kernel_rfl) rfl (by rfl) (fun K hK => ?_)
      go_simp
      refine (addByT_any g1 (m : Int) yB xA yA xC yC xZ yZ w3 (ha.below hS1) (hb.below hS1) rs hF HV.out HX.out.1 HX.out.2.1 HX.out.2.2.2.1 HW.out.2.2.2 (digit_of_ok HW.out.1) HY.out bx).mono ?_
      rintro e w4 ⟨A, C, rfl, own, hb4⟩
      have hS2 : Below w2.heap.size w2 w4 := hS1.trans (hb4.mono hS1.size)
      obtain ⟨R, hR⟩ : ∃ R, R = finR4 (m : Int) (tab (tabD (m : Int) rs xZ yZ) xZ.length) (tabC (m : Int) rs xZ yZ xZ.length) := ⟨_, rfl⟩
      have HR := Lib.hid (HF.out.trans hR.symm)
      rw [← hR] at own ⊢
      have hs4 := hb4.size
      have hs3 := hS1.size
      clear hR
      refine hK _ _ (.inr hS2) ?_
      try simp only [Act.put, List.setIfInBounds_toArray]
      clear hK K
      refine wpAnyM_take (i := 5) (v := ?_) rfl (by kernel_rfl) (by kernel_rfl) (by kernel_rfl) (by kernel_rfl) (by kernel_rfl) (fun _ _ _ h => h) hS2 (.inl ⟨by rfl, ?_⟩) ?_
      rotate_left 1
      · intro w' hS'; go_simp; try with_reducible rfl
      simp only [Act.put, List.setIfInBounds_toArray]
      refine wpAnyM_take (i := 6) (v := ?_) rfl (by kernel_rfl) (by kernel_rfl) (by kernel_rfl) (by kernel_rfl) (by kernel_rfl) (fun _ _ _ h => h) hS2 (.inl ⟨by rfl, ?_⟩) ?_
      rotate_left 1
      · intro w' hS'; go_simp; try with_reducible rfl
      simp only [Act.put]
      refine wpAnyM_take (i := 7) (v := ?_) rfl (by kernel_rfl) (by kernel_rfl) (by kernel_rfl) (by kernel_rfl) (by kernel_rfl) (fun _ _ _ h => h) hS2 (.inl ⟨by rfl, ?_⟩) ?_
      rotate_left 1
      · intro w' hS'; go_simp; try with_reducible rfl
      simp only [Act.put]
      replace ar := ar.below hS2
      have hl4 := ar.lt
      have r0 := ar.at_ 0 rfl
      have r1 := ar.at_ 1 rfl
      have f0 := ar.thaw 0
      have f1 := ar.thaw 1
      refine wpAnyM_one (i := 8) (by kernel_rfl) rfl (by rfl) (fun K hK => ?_)
      go_simp
      refine hK _ _ (.inl rfl) ?_
      clear hK K
      try simp only [Act.put, List.setIfInBounds_toArray]
      refine wpAnyM_one (i := 9) (by kernel_rfl) rfl (by rfl) (fun K hK => ?_)
      go_simp
      refine hK _ _ (.inl rfl) ?_
      clear hK K
      try simp only [Act.put, List.setIfInBounds_toArray]
      refine wpAnyM_one (i := 10) (by kernel_rfl) rfl (by rfl) (fun K hK => ?_)
      go_simp
      refine hK _ _ (.inl rfl) ?_
      clear hK K
      refine wpAnyM_done (by kernel_rfl) ?_ _
      go_wp2
      have hg := HG.out
      have hbF := hbel.trans (hS2.mono hbel.size)
      exact bodyPost_ret (v := .tuple #[.agg #[.int .i64 R.1, .slice A R.2.1.length C], .int .i64 R.2.2.1, .int .i64 R.2.2.2]) (by simp [results, Try.results18, go_sem, r0, r1]) rfl
        (by rw [HR.out]; exact ⟨A, C, rfl, ((own.setCell (p := ⟨g + 1 + 1, 0, none⟩) (.inl (by simp; omega)) _).setCell (p := ⟨g + 1 + 1, 1, none⟩) (.inl (by simp; omega)) _).wide (by have := hbel.size; omega) (by simp), (by repeat (first | exact hbF | refine Below.setCell ?_ (by first | omega | (simp <;> omega)) _ | refine Below.alloc ?_ (by first | omega | (simp <;> omega)) _ | refine Below.drew ?_))⟩)
  · have ht : (twoE xB xZ yB yZ != 0) = true := by simp [h]
    have HR := Lib.hid (abt_bad (rs := rs) h)
    have r0 := ar.at_ 0 rfl
    have r1 := ar.at_ 1 rfl
    have f0 := ar.thaw 0
    have f1 := ar.thaw 1
    clear h
    go_wp2
    have hg := HG.out
    exact bodyPost_ret (v := .tuple #[.agg #[.int .i64 0, .slice none 0 0], .int .i64 0, .int .i64 (twoE xB xZ yB yZ)]) (by simp [results, Try.results18, go_sem, r0, r1]) rfl (reg4_err HR.out rfl (by repeat (first | exact hbel | refine Below.setCell ?_ (by first | omega | (simp <;> omega)) _ | refine Below.alloc ?_ (by first | omega | (simp <;> omega)) _ | refine Below.drew ?_)))
end Go.Proofs.Ytmdngcoccekdgaa

/- AbtS -/
namespace Go.Proofs.Ytmdngcoccekdgaa
open Go.RowKit

theorem two_sq512 {m : Nat} (h : m ≤ 16) : 2 * m * m ≤ 512 := by
  have h1 := Nat.mul_le_mul h h
  rw [Nat.mul_assoc]; omega
set_option maxRecDepth 100000 in
set_option maxHeartbeats 4000000 in
theorem specAddByTable (f : Option Addr) (fc : Nat) (rs : List Row5) (xB : Int) (xA : Option Addr) (xC : Nat) (xZ : List Int) (yB : Int) (yA : Option Addr) (yC : Nat) (yZ : List Int) (w : World) (hf : RdF quinF w f rs) (_ : All5 rs) (ha : Rd w xA xZ) (_ : All64 xZ) (_ : I64 xB) (hb : Rd w yA yZ) (_ : All64 yZ) (_ : I64 yB) :
    Calls Try.prog 48 #[.slice f rs.length fc, .agg #[.int .i64 xB, .slice xA xZ.length xC], .agg #[.int .i64 yB, .slice yA yZ.length yC]] w (reg4Post (abtR rs xB xZ yB yZ) w) := by
  have hx16 := fun h : twoE xB xZ yB yZ = 0 => okB_spec (twoE_zero h).1
  go_enter Try.func48, Try.ntmps48
  go_wp2_with fail
  obtain ⟨u, hu⟩ : ∃ u, u = ((w.alloc (.cells #[.int .i64 xB, .slice xA xZ.length xC] 31)).alloc (.cells #[.int .i64 yB, .slice yA yZ.length yC] 31)).alloc (.cells #[.int .i64 0, .slice none 0 0] 31) := ⟨_, rfl⟩
  rw [← hu]
  have hbel : Below w.heap.size w u := by rw [hu]; exact (by repeat (first | exact Below.refl _ _ | refine Below.setCell ?_ (by first | omega | (simp <;> omega)) _ | refine Below.alloc ?_ (by first | omega | (simp <;> omega)) _ | refine Below.drew ?_))
  have ax : Bx u w.heap.size 31 #[.int .i64 xB, .slice xA xZ.length xC] := by rw [hu]; exact ((Bx.new _ _ _).alloc _).alloc _
  have ay : Bx u (w.heap.size + 1) 31 #[.int .i64 yB, .slice yA yZ.length yC] := by rw [hu]; exact Bx.alloc (by simpa using Bx.new (w.alloc (.cells #[.int .i64 xB, .slice xA xZ.length xC] 31)) #[.int .i64 yB, .slice yA yZ.length yC] 31) _
  have ar : Bx u (w.heap.size + 1 + 1) 31 #[.int .i64 0, .slice none 0 0] := by rw [hu]; simpa using Bx.new ((w.alloc (.cells #[.int .i64 xB, .slice xA xZ.length xC] 31)).alloc (.cells #[.int .i64 yB, .slice yA yZ.length yC] 31)) #[.int .i64 0, .slice none 0 0] 31
  replace ha := ha.below hbel
  replace hb := hb.below hbel
  replace hf := hf.below hbel
  clear hu
  refine (l02Two_any w.heap.size (w.heap.size + 1) xB yB xA yA xC yC xZ yZ u ha hb (ax.at_ 0 rfl) (ax.at_ 1 rfl) (ay.at_ 0 rfl) (ay.at_ 1 rfl)).mono ?_
  rintro e w1 ⟨rfl, n, hw1⟩
  have hb1 : Below u.heap.size u w1 := by rw [hw1]; exact bel_drewN (Below.refl _ _) n
  replace ha := ha.below hb1
  replace hb := hb.below hb1
  replace hf := hf.below hb1
  replace ax := ax.below hb1
  replace ay := ay.below hb1
  replace ar := ar.below hb1
  replace hbel := hbel.trans (hb1.mono hbel.size)
  clear hw1 hb1 u
  by_cases h : twoE xB xZ yB yZ = 0
  · have HX := Lib.hid (hx16 h)
    have HW := Lib.hid (twoE_zero h)
    have ht : (twoE xB xZ yB yZ == 0) = true := by simp [h]
    have ht2 : (twoE xB xZ yB yZ != 0) = false := by simp [h]
    have c0 := ax.at_ 0 rfl
    have hxb := HX.out
    obtain ⟨m, rfl⟩ : ∃ m : Nat, xB = m := ⟨xB.toNat, by omega⟩
    have hm1 : 2 ≤ m := by omega
    have hm2 : m ≤ 16 := by omega
    clear hxb
    cases hv : formB m rs with
    | false =>
      have HR := Lib.hid (abt_form h hv)
      have HC := Lib.hid (l08Form_at m f fc rs w1 hv hf hm1 hm2)
      clear h hv hx16
      go_wp2_with fail
      refine HC.out.mono ?_
      rintro e w2 ⟨rfl, hb2⟩
      replace ar := ar.below hb2
      replace hbel := hbel.trans (hb2.mono hbel.size)
      clear hb2
      have r0 := ar.at_ 0 rfl
      have r1 := ar.at_ 1 rfl
      have f0 := ar.thaw 0
      have f1 := ar.thaw 1
      go_wp2
      exact bodyPost_ret (v := .tuple #[.agg #[.int .i64 0, .slice none 0 0], .int .i64 0, .int .i64 8]) (by simp [results, Try.results48, go_sem, r0, r1]) rfl (reg4_err HR.out rfl (by repeat (first | exact hbel | refine Below.setCell ?_ (by first | omega | (simp <;> omega)) _ | refine Below.alloc ?_ (by first | omega | (simp <;> omega)) _ | refine Below.drew ?_)))
    | true =>
      have HF := Lib.hid (abt_fin h hv)
      have HC := Lib.hid (l08Form_at m f fc rs w1 hv hf hm1 hm2)
      have HV := Lib.hid (show TabOk (m : Int) rs from ⟨by omega, by omega, by simpa using hv⟩)
      have HDX := Lib.hid (digit_of_ok HW.out.1)
      have HDY := Lib.hid (show ∀ k, k < xZ.length → 0 ≤ nth yZ k ∧ nth yZ k < (m : Int) by have h1 := HW.out.2.2; intro k hk; have h2 := digit_of_ok HW.out.2.1 k (by omega); omega)
      have HL2 := Lib.hid (show xZ.length = yZ.length from HW.out.2.2.2)
      have hx16' : xZ.length ≤ 16 := HX.out.2.2.2.1
      clear h hv hx16
      go_wp2_with fail
      refine HC.out.mono ?_
      rintro e w2 ⟨rfl, hb2⟩
      replace ha := ha.below hb2
      replace hb := hb.below hb2
      replace hf := hf.below hb2
      replace ax := ax.below hb2
      replace ay := ay.below hb2
      replace ar := ar.below hb2
      replace hbel := hbel.trans (hb2.mono hbel.size)
      clear hb2 HC c0
      have c0 := ax.at_ 0 rfl
      have hlr := ar.lt
      go_wp2
      obtain ⟨u2, hu2⟩ : ∃ u2, u2 = w2.alloc (.cells #[.int .i64 (m : Int), .slice none 0 0] 31) := ⟨_, rfl⟩
      obtain ⟨G, hG⟩ : ∃ G, G = w2.heap.size := ⟨_, rfl⟩
      obtain ⟨g, hg⟩ : ∃ g, g = w.heap.size := ⟨_, rfl⟩
      have az : Bx u2 G 31 #[.int .i64 (m : Int), .slice none 0 0] := by rw [hu2, hG]; exact Bx.new _ _ _
      have hb3 : Below w2.heap.size w2 u2 := by rw [hu2]; exact (Below.refl _ _).alloc (Nat.le_refl _) _
      replace ax := ax.below hb3
      replace ay := ay.below hb3
      replace ar := ar.below hb3
      have hgG : g + 1 + 1 < G := by omega
      have hg1 : w.heap.size ≤ g := by omega
      have hG1 : w2.heap.size ≤ G := by omega
      rw [← hg] at ax ay ar
      rw [← hu2, ← hG, ← hg]
      clear hu2 hG hg c0 hlr
      go_loopw [11, 12] (fun cr i wr => ∃ (k : Nat) (A : Option Addr) (C : Nat), k ≤ xZ.length ∧ cr = .int .i64 (tabC (m : Int) rs xZ yZ k) ∧ i = .int .i64 k ∧ Bx wr g 31 #[.int .i64 (m : Int), .slice xA xZ.length xC] ∧ Bx wr (g + 1) 31 #[.int .i64 yB, .slice yA yZ.length yC] ∧ Bx wr (g + 1 + 1) 31 #[.int .i64 0, .slice none 0 0] ∧
          Bx wr G 31 #[.int .i64 (m : Int), .slice A k C] ∧ Own 2 wr (G + 1) wr.heap.size (.slice A k C) (tab (tabD (m : Int) rs xZ yZ) k) ∧ Below w2.heap.size w2 wr) (fun _ i _ => xZ.length - (intOf i).toNat)
      case atStart => exact ⟨0, none, 0, Nat.zero_le _, rfl, rfl, ax, ay, ar, az, own_nil _ _ _ _, hb3⟩
      case round =>
        clear ax ay ar az hb3
        obtain ⟨k, A, C, hk, rfl, rfl, ax, ay, ar, az, own, hb4⟩ := hrel
        have hzG := az.lt
        have hs4 := hb4.size
        by_cases hlt : k < xZ.length
        · obtain ⟨p1, o1, rfl, hc1⟩ := ha.at_ hlt
          have hlt2 : k < yZ.length := by have := HL2.out; omega
          obtain ⟨p2, o2, rfl, hc2⟩ := hb.at_ hlt2
          have hxd := HDX.out k hlt
          have hyd := HDY.out k hlt
          have hcb := tabC_bd HV.out HDX.out HDY.out k (by omega)
          have hri := row_idx (b := (m : Int)) (by omega) hcb hxd hyd
          have HD := Lib.hid (show tabD (m : Int) rs xZ yZ k = (elt quinF rs ((tabC (m : Int) rs xZ yZ k * (m : Int) + nth xZ k) * (m : Int) + nth yZ k).toNat).2.2.2.1 from rfl)
          have HC2 := Lib.hid (show tabC (m : Int) rs xZ yZ (k + 1) = (elt quinF rs ((tabC (m : Int) rs xZ yZ k * (m : Int) + nth xZ k) * (m : Int) + nth yZ k).toNat).2.2.2.2 from rfl)
          obtain ⟨cc, hcc⟩ : ∃ cc, cc = tabC (m : Int) rs xZ yZ k := ⟨_, rfl⟩
          obtain ⟨xv, hxv⟩ : ∃ xv, xv = nth xZ k := ⟨_, rfl⟩
          obtain ⟨yv, hyv⟩ : ∃ yv, yv = nth yZ k := ⟨_, rfl⟩
          rw [← hcc] at hcb hri HD HC2 ⊢
          rw [← hxv] at hc1 hxd hri HD HC2
          rw [← hyv] at hc2 hyd hri HD HC2
          have n0 : 0 ≤ cc * (m : Int) := Int.mul_nonneg hcb.1 (by omega)
          have n0' : cc * (m : Int) ≤ 16 := by
            have hc01 : cc = 0 ∨ cc = 1 := by omega
            rcases hc01 with h | h
            · rw [h]; omega
            · rw [h]; omega
          have n1 : 0 ≤ (cc * (m : Int) + xv) * (m : Int) := Int.mul_nonneg (by omega) (by omega)
          obtain ⟨j, hj⟩ : ∃ j : Nat, (cc * (m : Int) + xv) * (m : Int) + yv = (j : Int) := ⟨((cc * (m : Int) + xv) * (m : Int) + yv).toNat, by omega⟩
          rw [hj, Int.toNat_natCast, Int.toNat_natCast] at hri
          rw [hj, Int.toNat_natCast] at HD HC2
          have hjl : j < rs.length := by rw [HV.out.len, Int.toNat_natCast]; exact hri.2
          have hj2 : j < 512 := Nat.lt_of_lt_of_le hri.2 (two_sq512 hm2)
          have v1 : IntKind.i64.wrap (cc * (m : Int)) = cc * (m : Int) := fits_int _ (by omega) (by omega)
          have v2 : IntKind.i64.wrap (cc * (m : Int) + xv) = cc * (m : Int) + xv := fits_int _ (by omega) (by omega)
          have v3 : IntKind.i64.wrap ((cc * (m : Int) + xv) * (m : Int)) = (cc * (m : Int) + xv) * (m : Int) := fits_int _ (by omega) (by omega)
          have v4 : IntKind.i64.wrap ((cc * (m : Int) + xv) * (m : Int) + yv) = (j : Int) := by rw [hj]; exact fits_int _ (by omega) (by omega)
          obtain ⟨p3, o3, rfl, q0, q1, q2, q3, q4⟩ := (hf.below hb4).at5 hjl
          obtain ⟨z, hz⟩ : ∃ z, z = elt quinF rs j := ⟨_, rfl⟩
          rw [← hz] at q0 q1 q2 q3 q4 HD HC2
          have hjI : (j : Int) < (rs.length : Int) := by omega
          have hkx : (k : Int) < (xZ.length : Int) := by omega
          have hky : (k : Int) < (yZ.length : Int) := by omega
          clear hcc hxv hyv hz hri hcb hxd hyd n0 n0' n1 hj hj2
          have k0 := kept_all (ax.at_ 0 rfl)
          have k1 := kept_all (ax.at_ 1 rfl)
          have k2 := kept_all (ay.at_ 1 rfl)
          have k3 := kept_all (kept hb4 hc1)
          have k4 := kept_all (kept hb4 hc2)
          have m0 := kept_all q0
          have m1 := kept_all q1
          have m2 := kept_all q2
          have m3 := kept_all q3
          have m4 := kept_all q4
          have d0 := ax.at_ 0 rfl
          have d1 := ax.at_ 1 rfl
          go_upto_region 11 with fail
          refine wp_region_marked (fun w' => Below wr.heap.size wr w') 23 (by kernel_rfl) ?_
          have hS : Below wr.heap.size wr wr.drew := (Below.refl _ _).drew
          refine wpAnyM_take (i := 0) (v := ?_) rfl (by kernel_rfl) (by kernel_rfl) (by kernel_rfl) (by kernel_rfl) (by kernel_rfl) (fun _ _ _ h => h) hS (.inl ⟨by rfl, ?_⟩) ?_
          rotate_left 1
          · intro w' hS'; go_simp; try with_reducible rfl
          simp only [Act.put, List.setIfInBounds_toArray]
          refine wpAnyM_take (i := 1) (v := ?_) rfl (by kernel_rfl) (by kernel_rfl) (by kernel_rfl) (by kernel_rfl) (by kernel_rfl) (fun _ _ _ h => h) hS (.inl ⟨by rfl, ?_⟩) ?_
          rotate_left 1
          · intro w' hS'; go_simp; try with_reducible rfl
          simp only [Act.put]
          refine wpAnyM_take (i := 2) (v := ?_) rfl (by kernel_rfl) (by kernel_rfl) (by kernel_rfl) (by kernel_rfl) (by kernel_rfl) (fun _ _ _ h => h) hS (.inl ⟨by rfl, ?_⟩) ?_
          rotate_left 1
          · intro w' hS'; go_simp; try with_reducible rfl
          simp only [Act.put]
          refine wpAnyM_take (i := 3) (v := ?_) rfl (by kernel_rfl) (by kernel_rfl) (by kernel_rfl) (by kernel_rfl) (by kernel_rfl) (fun _ _ _ h => h) hS (.inl ⟨by rfl, ?_⟩) ?_
          rotate_left 1
          · intro w' hS'; go_simp; try with_reducible rfl
          simp only [Act.put]
          refine wpAnyM_take (i := 4) (v := ?_) rfl (by kernel_rfl) (by kernel_rfl) (by kernel_rfl) (by kernel_rfl) (by kernel_rfl) (fun _ _ _ h => h) hS (.inl ⟨by rfl, ?_⟩) ?_
          rotate_left 1
          · intro w' hS'; go_simp; try with_reducible rfl
          simp only [Act.put]
          refine wpAnyM_take (i := 5) (v := ?_) rfl (by kernel_rfl) (by kernel_rfl) (by kernel_rfl) (by kernel_rfl) (by kernel_rfl) (fun _ _ _ h => h) hS (.inl ⟨by rfl, ?_⟩) ?_
          rotate_left 1
          · intro w' hS'; go_simp; try with_reducible rfl
          simp only [Act.put]
          refine wpAnyM_take (i := 6) (v := ?_) rfl (by kernel_rfl) (by kernel_rfl) (by kernel_rfl) (by kernel_rfl) (by kernel_rfl) (fun _ _ _ h => h) hS (.inl ⟨by rfl, ?_⟩) ?_
          rotate_left 1
          · intro w' hS'; go_simp; try with_reducible rfl
          simp only [Act.put]
          refine wpAnyM_take (i := 7) (v := ?_) rfl (by kernel_rfl) (by kernel_rfl) (by kernel_rfl) (by kernel_rfl) (by kernel_rfl) (fun _ _ _ h => h) hS (.inl ⟨by rfl, ?_⟩) ?_
          rotate_left 1
          · intro w' hS'; go_simp; try with_reducible rfl
          simp only [Act.put]
          refine wpAnyM_take (i := 8) (v := ?_) rfl (by kernel_rfl) (by kernel_rfl) (by kernel_rfl) (by kernel_rfl) (by kernel_rfl) (fun _ _ _ h => h) hS (.inl ⟨by rfl, ?_⟩) ?_
          rotate_left 1
          · intro w' hS'; go_simp; try with_reducible rfl
          simp only [Act.put]
          refine wpAnyM_take (i := 9) (v := ?_) rfl (by kernel_rfl) (by kernel_rfl) (by kernel_rfl) (by kernel_rfl) (by kernel_rfl) (fun _ _ _ h => h) hS (.inl ⟨by rfl, ?_⟩) ?_
          rotate_left 1
          · intro w' hS'; go_simp; try with_reducible rfl
          simp only [Act.put]
          refine wpAnyM_take (i := 10) (v := ?_) rfl (by kernel_rfl) (by kernel_rfl) (by kernel_rfl) (by kernel_rfl) (by kernel_rfl) (fun _ _ _ h => h) hS (.inl ⟨by rfl, ?_⟩) ?_
          rotate_left 1
          · intro w' hS'; go_simp; try with_reducible rfl
          simp only [Act.put]
          refine wpAnyM_take (i := 11) (v := ?_) rfl (by kernel_rfl) (by kernel_rfl) (by kernel_rfl) (by kernel_rfl) (by kernel_rfl) (fun _ _ _ h => h) hS (.inl ⟨by rfl, ?_⟩) ?_
          rotate_left 1
          · intro w' hS'; go_simp; try with_reducible rfl
          simp only [Act.put]
          refine wpAnyM_take (i := 12) (v := ?_) rfl (by kernel_rfl) (by kernel_rfl) (by kernel_rfl) (by kernel_rfl) (by kernel_rfl) (fun _ _ _ h => h) hS (.inl ⟨by rfl, ?_⟩) ?_
          rotate_left 1
          · intro w' hS'; go_simp; try with_reducible rfl
          simp only [Act.put]
          refine wpAnyM_take (i := 13) (v := ?_) rfl (by kernel_rfl) (by kernel_rfl) (by kernel_rfl) (by kernel_rfl) (by kernel_rfl) (fun _ _ _ h => h) hS (.inl ⟨by rfl, ?_⟩) ?_
          rotate_left 1
          · intro w' hS'; go_simp; try with_reducible rfl
          simp only [Act.put]
          refine wpAnyM_take (i := 14) (v := ?_) rfl (by kernel_rfl) (by kernel_rfl) (by kernel_rfl) (by kernel_rfl) (by kernel_rfl) (fun _ _ _ h => h) hS (.inl ⟨by rfl, ?_⟩) ?_
          rotate_left 1
          · intro w' hS'; go_simp; try with_reducible rfl
          simp only [Act.put]
          refine wpAnyM_take (i := 15) (v := ?_) rfl (by kernel_rfl) (by kernel_rfl) (by kernel_rfl) (by kernel_rfl) (by kernel_rfl) (fun _ _ _ h => h) hS (.inl ⟨by rfl, ?_⟩) ?_
          rotate_left 1
          · intro w' hS'; go_simp; try with_reducible rfl
          simp only [Act.put]
          refine wpAnyM_take (i := 16) (v := ?_) rfl (by kernel_rfl) (by kernel_rfl) (by kernel_rfl) (by kernel_rfl) (by kernel_rfl) (fun _ _ _ h => h) hS (.inl ⟨by rfl, ?_⟩) ?_
          rotate_left 1
          · intro w' hS'; go_simp; try with_reducible rfl
          simp only [Act.put]
          refine wpAnyM_take (i := 17) (v := ?_) rfl (by kernel_rfl) (by kernel_rfl) (by kernel_rfl) (by kernel_rfl) (by kernel_rfl) (fun _ _ _ h => h) hS (.inl ⟨by rfl, ?_⟩) ?_
          rotate_left 1
          · intro w' hS'; go_simp; try with_reducible rfl
          simp only [Act.put]
          refine wpAnyM_take (i := 18) (v := ?_) rfl (by kernel_rfl) (by kernel_rfl) (by kernel_rfl) (by kernel_rfl) (by kernel_rfl) (fun _ _ _ h => h) hS (.inl ⟨by rfl, ?_⟩) ?_
          rotate_left 1
          · intro w' hS'; go_simp; try with_reducible rfl
          simp only [Act.put]
          refine wpAnyM_take (i := 19) (v := ?_) rfl (by kernel_rfl) (by kernel_rfl) (by kernel_rfl) (by kernel_rfl) (by kernel_rfl) (fun _ _ _ h => h) hS (.inl ⟨by rfl, ?_⟩) ?_
          rotate_left 1
          · intro w' hS'; go_simp; try with_reducible rfl
          simp only [Act.put]
          refine wpAnyM_take (i := 20) (v := ?_) rfl (by kernel_rfl) (by kernel_rfl) (by kernel_rfl) (by kernel_rfl) (by kernel_rfl) (fun _ _ _ h => h) hS (.inl ⟨by rfl, ?_⟩) ?_
          rotate_left 1
          · intro w' hS'; go_simp; try with_reducible rfl
          simp only [Act.put]
          refine wpAnyM_take (i := 21) (v := ?_) rfl (by kernel_rfl) (by kernel_rfl) (by kernel_rfl) (by kernel_rfl) (by kernel_rfl) (fun _ _ _ h => h) hS (.inl ⟨by rfl, ?_⟩) ?_
          rotate_left 1
          · intro w' hS'; go_simp; try with_reducible rfl
          simp only [Act.put]
          clear k0 k1 k2 k3 k4 m0 m1 m2 m3 m4
          refine wpAnyM_one (i := 22) (by kernel_rfl) rfl (by rfl) (fun K hK => ?_)
          go_simp
          refine hK _ _ (.inr ((Below.refl _ _).alloc (Nat.le_refl _) _).drew) ?_
          try simp only [Act.put, List.setIfInBounds_toArray]
          clear hK K
          refine wpAnyM_one (i := 23) (by kernel_rfl) rfl (by rfl) (fun K hK => ?_)
          go_simp
          refine hK _ _ (.inl rfl) ?_
          clear hK K
          try simp only [Act.put, List.setIfInBounds_toArray]
          refine wpAnyM_done (by kernel_rfl) ?_ _
          obtain ⟨u3, hu3⟩ : ∃ u3, u3 = (wr.alloc (.cells #[.int .i64 z.1, .int .i64 z.2.1, .int .i64 z.2.2.1, .int .i64 z.2.2.2.1, .int .i64 z.2.2.2.2] 88)).drew := ⟨_, rfl⟩
          have bR : Bx u3 wr.heap.size 88 #[.int .i64 z.1, .int .i64 z.2.1, .int .i64 z.2.2.1, .int .i64 z.2.2.2.1, .int .i64 z.2.2.2.2] := by rw [hu3]; exact (Bx.new _ _ _).drew
          have hb5 : Below wr.heap.size wr u3 := by rw [hu3]; exact ((Below.refl _ _).alloc (Nat.le_refl _) _).drew
          have hs5 : wr.heap.size + 1 ≤ u3.heap.size := by rw [hu3]; simp
          rw [← hu3]
          clear hu3 hS d0 d1 q0 q1 q2 q3 q4
          replace ax := ax.below hb5
          replace ay := ay.below hb5
          replace ar := ar.below hb5
          replace az := az.below hb5
          have own3 := own.below hb5
          have g1 := az.at_ 1 rfl
          have r3 := bR.at_ 3 rfl
          have r4 := bR.at_ 4 rfl
          have bd := az.alloc (.cells #[.int .i64 z.2.2.2.1] 2)
          have bRd := bR.alloc (.cells #[.int .i64 z.2.2.2.1] 2)
          have HT := Lib.hid (tab_succ (tabD (m : Int) rs xZ yZ) k)
          rw [HD.out] at HT
          go_wp2_with (at_builtin; go_must (refine wpList_appI rfl (.tmp 61) (.tmp 64) 29 2 rfl Try.underlying29 info_int64 rfl (own3.alloc _) (tab_len _ _) ⟨u3.heap.size, 0, none⟩ 1 z.2.2.2.1 rfl (cell_new1 u3 _ _) (by omega) (by simp <;> omega) ?_); intro A' C' w5 own5 ht5; have d2 := bd.touch ht5 (by omega); have dc := d2.at_ 1 rfl; have df := d2.thaw 1; have dR := bRd.touch ht5 (by omega); have dR4 := dR.at_ 4 rfl)
          rw [← HT.out] at own5
          have e0 := ((ax.alloc (.cells #[.int .i64 z.2.2.2.1] 2)).touch ht5 (by omega)).far (p := ⟨G, 1, none⟩) (by simp <;> omega) (.slice A' (k + 1) C')
          have e1 := ((ay.alloc (.cells #[.int .i64 z.2.2.2.1] 2)).touch ht5 (by omega)).far (p := ⟨G, 1, none⟩) (by simp <;> omega) (.slice A' (k + 1) C')
          have e2 := ((ar.alloc (.cells #[.int .i64 z.2.2.2.1] 2)).touch ht5 (by omega)).far (p := ⟨G, 1, none⟩) (by simp <;> omega) (.slice A' (k + 1) C')
          have e3 := d2.set_ 1 (.slice A' (k + 1) C')
          have e4 : Own 2 (w5.setCell ⟨G, 1, none⟩ (.slice A' (k + 1) C')) (G + 1) (w5.setCell ⟨G, 1, none⟩ (.slice A' (k + 1) C')).heap.size (.slice A' (k + 1) C') (tab (tabD (m : Int) rs xZ yZ) (k + 1)) := (own5.setCell (p := ⟨G, 1, none⟩) (.inl (by simp)) (.slice A' (k + 1) C')).wide (Nat.le_refl _) (by simp)
          have hs5' := hb5.size
          have f1 : Below w2.heap.size w2 (u3.alloc (.cells #[.int .i64 z.2.2.2.1] 2)) := (hb4.trans (hb5.mono hs4)).alloc (by omega) _
          have f2 : Below w2.heap.size (u3.alloc (.cells #[.int .i64 z.2.2.2.1] 2)) w5 := ht5.below (by omega) (by simp; omega)
          have e5 := (f1.trans f2).setCell (p := ⟨G, 1, none⟩) (by show w2.heap.size ≤ G; omega) (.slice A' (k + 1) C')
          go_roundw
          case rel => exact ⟨k + 1, A', C', by omega, by rw [HC2.out], by go_num, e0, e1, e2, e3, e4, e5⟩
          case measure => (simp [intOf]) <;> omega
        · obtain rfl : k = xZ.length := by omega
          have own2 : Own 2 wr (G + 1) wr.heap.size (.slice A (tab (tabD (m : Int) rs xZ yZ) xZ.length).length C) (tab (tabD (m : Int) rs xZ yZ) xZ.length) := by rw [tab_len]; exact own
          have hR := own2.rd
          have o0 := az.at_ 0 rfl
          have o1 : wr.cell? ⟨G, 1, none⟩ = some (.slice A (tab (tabD (m : Int) rs xZ yZ) xZ.length).length C) := by rw [tab_len]; exact az.at_ 1 rfl
          have q1 := ax.at_ 1 rfl
          have hbf := hbel.trans (hb4.mono hbel.size)
          cases hk2 : okB (m : Int) (tab (tabD (m : Int) rs xZ yZ) xZ.length) with
          | true =>
            have HR := Lib.hid (HF.out.trans (finR4_ok hk2))
            have HO := Lib.hid (l02Ok_at0 G (m : Int) A C (tab (tabD (m : Int) rs xZ yZ) xZ.length) wr hk2 hR o0 o1)
            clear hk2 o0 o1
            go_wp2_with fail
            refine HO.out.mono ?_
            rintro e w4 ⟨rfl, n', hw4⟩
            have hb6 : Below wr.heap.size wr w4 := by rw [hw4]; exact bel_drewN (Below.refl _ _) n'
            replace ar := ar.below hb6
            replace own2 := own2.below hb6
            replace az := az.below hb6
            replace hbf := hbf.trans (hb6.mono hbf.size)
            have hs6 := hb6.size
            clear hb6 hw4 hR HO q1
            have r0 := ar.at_ 0 rfl
            have r1 := ar.at_ 1 rfl
            have f0 := ar.thaw 0
            have f1 := ar.thaw 1
            have o0 := az.at_ 0 rfl
            have o1 := az.at_ 1 rfl
            go_wp2
            exact bodyPost_ret (v := .tuple #[.agg #[.int .i64 (m : Int), .slice A xZ.length C], .int .i64 (tabC (m : Int) rs xZ yZ xZ.length), .int .i64 0]) (by simp [results, Try.results48, go_sem, r0, r1]) rfl
              (reg4_ok HR.out (tab_len _ _) rfl (lo := G + 1) (hi := wr.heap.size) (by have := own2; rw [tab_len] at this; exact (this.setCell (p := ⟨g + 1 + 1, 0, none⟩) (.inl (by simp; omega)) _).setCell (p := ⟨g + 1 + 1, 1, none⟩) (.inl (by simp; omega)) _) (by omega) (by simp; omega) (by repeat (first | exact hbf | refine Below.setCell ?_ (by first | omega | (simp <;> omega)) _ | refine Below.alloc ?_ (by first | omega | (simp <;> omega)) _ | refine Below.drew ?_)))
          | false =>
            have HR := Lib.hid (HF.out.trans (finR4_bad hk2))
            have HO := Lib.hid (l02Ok_at0 G (m : Int) A C (tab (tabD (m : Int) rs xZ yZ) xZ.length) wr hk2 hR o0 o1)
            clear hk2 o0 o1
            go_wp2_with fail
            refine HO.out.mono ?_
            rintro e w4 ⟨rfl, n', hw4⟩
            have hb6 : Below wr.heap.size wr w4 := by rw [hw4]; exact bel_drewN (Below.refl _ _) n'
            replace ar := ar.below hb6
            replace hbf := hbf.trans (hb6.mono hbf.size)
            clear hb6 hw4 hR HO q1
            have r0 := ar.at_ 0 rfl
            have r1 := ar.at_ 1 rfl
            have f0 := ar.thaw 0
            have f1 := ar.thaw 1
            go_wp2
            exact bodyPost_ret (v := .tuple #[.agg #[.int .i64 0, .slice none 0 0], .int .i64 0, .int .i64 5]) (by simp [results, Try.results48, go_sem, r0, r1]) rfl (reg4_err HR.out rfl (by repeat (first | exact hbf | refine Below.setCell ?_ (by first | omega | (simp <;> omega)) _ | refine Below.alloc ?_ (by first | omega | (simp <;> omega)) _ | refine Below.drew ?_)))
  · have ht : (twoE xB xZ yB yZ == 0) = false := by simp [h]
    have ht2 : (twoE xB xZ yB yZ != 0) = true := by simp [h]
    have HR := Lib.hid (abt_bad (rs := rs) h)
    have r0 := ar.at_ 0 rfl
    have r1 := ar.at_ 1 rfl
    have f0 := ar.thaw 0
    have f1 := ar.thaw 1
    clear h hx16
    go_wp2
    exact bodyPost_ret (v := .tuple #[.agg #[.int .i64 0, .slice none 0 0], .int .i64 0, .int .i64 (twoE xB xZ yB yZ)]) (by simp [results, Try.results48, go_sem, r0, r1]) rfl (reg4_err HR.out rfl (by repeat (first | exact hbel | refine Below.setCell ?_ (by first | omega | (simp <;> omega)) _ | refine Below.alloc ?_ (by first | omega | (simp <;> omega)) _ | refine Below.drew ?_)))
end Go.Proofs.Ytmdngcoccekdgaa
