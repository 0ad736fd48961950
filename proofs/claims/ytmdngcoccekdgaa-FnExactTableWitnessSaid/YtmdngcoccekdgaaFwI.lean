/-
  impl.firstWrong.
-/
import Derived.Test.YtmdngcoccekdgaaRowsF
import Derived.Test.YtmdngcoccekdgaaTabS
import Derived.Test.YtmdngcoccekdgaaBelI
import Derived.Test.YtmdngcoccekdgaaDrumI
import Derived.Test.YtmdngcoccekdgaaOrdIn
import Derived.Test.YtmdngcoccekdgaaTfS
namespace Go.Proofs.Ytmdngcoccekdgaa
open Go.RowKit Go.Shelf

attribute [local go_sem] Oper.semAt_some

/-- What it gives. -/
def fwR (m : Nat) (rs : List Row5) : Int × Bool := if formB m rs = true then (wrongTo m rs rs.length, true) else (0, false)
theorem fwR_bad {m : Nat} {rs : List Row5} (h : formB m rs = false) : fwR m rs = (0, false) := by simp [fwR, h]
theorem fwR_ok {m : Nat} {rs : List Row5} (h : formB m rs = true) : fwR m rs = (wrongTo m rs rs.length, true) := by simp [fwR, h]

theorem fw_keep {m k : Nat} {rs : List Row5} {v : Int} (hf : formTo m rs k = true) (h1 : formAt m rs k = true) (hv : v = wrongTo m rs k) (h : 0 ≤ v ∨ elt quinF rs k = rowN m k) : formTo m rs (k + 1) = true ∧ v = wrongTo m rs (k + 1) := by
  refine ⟨formTo_succ hf h1, ?_⟩
  rcases h with h | h
  · rw [wrongTo, if_neg (fun hh => by omega)]; exact hv
  · rw [wrongTo_same h]; exact hv
theorem fw_set {m k : Nat} {rs : List Row5} {v : Int} (hf : formTo m rs k = true) (h1 : formAt m rs k = true) (hv : v = wrongTo m rs k) (h2 : v < 0) (h3 : elt quinF rs k ≠ rowN m k) : formTo m rs (k + 1) = true ∧ (k : Int) = wrongTo m rs (k + 1) := by
  refine ⟨formTo_succ hf h1, ?_⟩
  rw [wrongTo, if_pos ⟨by have := (wrongTo_bd m rs k).1; omega, h3⟩]

/-- What lies in the boxes while the rows are walked. -/
structure FwS (X : World) (g m N c : Nat) (a : Option Addr) (v : Int) : Prop where
  b0 : Bx X g 2 #[.int .i64 (m : Int)]
  b1 : Bx X (g + 1) 24 #[.slice a N c]
  b2 : Bx X (g + 1 + 1) 2 #[.int .i64 0]
  b3 : Bx X (g + 1 + 1 + 1) 4 #[.bool false]
  b4 : Bx X (g + 1 + 1 + 1 + 1) 2 #[.int .i64 v]
  sz : g + 6 ≤ X.heap.size
theorem FwS.same {X Y : World} {g m N c : Nat} {a : Option Addr} {v : Int} (h : FwS X g m N c a v) (hk : ∀ (k : Nat) (o : Obj), X.heap[k]? = some o → o.isCells = true → Y.heap[k]? = X.heap[k]?) (hz : X.heap.size ≤ Y.heap.size) : FwS Y g m N c a v :=
  ⟨(hk _ _ h.b0 rfl).trans h.b0, (hk _ _ h.b1 rfl).trans h.b1, (hk _ _ h.b2 rfl).trans h.b2, (hk _ _ h.b3 rfl).trans h.b3, (hk _ _ h.b4 rfl).trans h.b4, Nat.le_trans h.sz hz⟩
theorem FwS.put {X : World} {g m N c : Nat} {a : Option Addr} {v : Int} (h : FwS X g m N c a v) (u : Int) : FwS (X.setCell ⟨g + 1 + 1 + 1 + 1, 0, none⟩ (.int .i64 u)) g m N c a u :=
  ⟨h.b0.far (by first | (simp; done) | (simp; omega)) _, h.b1.far (by first | (simp; done) | (simp; omega)) _, h.b2.far (by first | (simp; done) | (simp; omega)) _, h.b3.far (by first | (simp; done) | (simp; omega)) _, by simpa using h.b4.set_ 0 (.int .i64 u), by simpa using h.sz⟩
theorem fwS_new (w : World) (m N c : Nat) (a : Option Addr) : FwS ((((((w.alloc (.cells #[.int .i64 (m : Int)] 2)).alloc (.cells #[.slice a N c] 24)).alloc (.cells #[.int .i64 0] 2)).alloc (.cells #[.bool false] 4)).alloc (.cells #[.int .i64 (-1)] 2)).alloc (.cells #[.int .i64 (m : Int)] 2)) w.heap.size m N c a (-1) := by
  refine ⟨((((Bx.new _ _ _).alloc _).alloc _).alloc _).alloc _ |>.alloc _, ?_, ?_, ?_, ?_, by simp⟩
  · simpa using ((((Bx.new (w.alloc (.cells #[.int .i64 (m : Int)] 2)) #[.slice a N c] 24).alloc _).alloc _).alloc _).alloc _
  · simpa using (((Bx.new ((w.alloc (.cells #[.int .i64 (m : Int)] 2)).alloc (.cells #[.slice a N c] 24)) #[.int .i64 0] 2).alloc _).alloc _).alloc _
  · simpa using ((Bx.new (((w.alloc (.cells #[.int .i64 (m : Int)] 2)).alloc (.cells #[.slice a N c] 24)).alloc (.cells #[.int .i64 0] 2)) #[.bool false] 4).alloc _).alloc _
  · simpa using (Bx.new ((((w.alloc (.cells #[.int .i64 (m : Int)] 2)).alloc (.cells #[.slice a N c] 24)).alloc (.cells #[.int .i64 0] 2)).alloc (.cells #[.bool false] 4)) #[.int .i64 (-1)] 2).alloc _

set_option maxRecDepth 100000 in
set_option maxHeartbeats 4000000 in
theorem firstWrong_any (m : Nat) (a : Option Addr) (c : Nat) (rs : List Row5) (w : World) (ha : RdF quinF w a rs) (hm : 2 ≤ m) (hm2 : m ≤ 16) :
    Calls Try.prog 62 #[.int .i64 (m : Int), .slice a rs.length c] w fun e w' => e = .returned (.tuple #[.int .i64 (fwR m rs).1, .bool (fwR m rs).2]) ∧ Below w.heap.size w w' := by
  refine (callsIn_wide (n := 3)).1 ?_
  have hro : Fence.wide.round = none := rfl
  have hf2 : Fence.wide.fn 88 := trivial
  have hx := ha.len
  have hsq := two_sq hm2
  obtain ⟨N, hN⟩ : ∃ N, N = 2 * m * m := ⟨_, rfl⟩
  rw [← hN] at hsq
  have v1 : IntKind.i64.wrap (2 * (m : Int)) = 2 * (m : Int) := IntWalk.i64_in _ (by omega)
  have v2 : IntKind.i64.wrap (2 * (m : Int) * (m : Int)) = (N : Int) := by
    have e : 2 * (m : Int) * (m : Int) = (N : Int) := by rw [hN]; simp
    rw [e]; exact IntWalk.i64_in _ (by omega)
  have HN := Lib.hid hN
  clear hN
  refine callsIn_of_wp_marks Try.func62 rfl trivial ?_ hro
  simp only [Try.ntmps62, List.size_toArray, List.length_cons, List.length_nil, Nat.reduceAdd, Nat.reduceSub, Array.replicate_succ, Array.replicate_zero, List.push_toArray, List.append_toArray, List.nil_append, List.cons_append]
  by_cases hlen : rs.length = N
  · gi_wp2_with (gi_at_call 88; refine (rightRowsF_in _ _ _).mono ?_; rintro e w' ⟨rfl, rfl⟩)
    obtain ⟨g, hg⟩ : ∃ g, g = w.heap.size := ⟨_, rfl⟩
    obtain ⟨W0, hW0⟩ : ∃ W0, W0 = ((((((w.alloc (.cells #[.int .i64 (m : Int)] 2)).alloc (.cells #[.slice a N c] 24)).alloc (.cells #[.int .i64 0] 2)).alloc (.cells #[.bool false] 4)).alloc (.cells #[.int .i64 (-1)] 2)).alloc (.cells #[.int .i64 (m : Int)] 2)) := ⟨_, rfl⟩
    have S0 : FwS W0 g m N c a (-1) := by
      rw [hW0, hg]
      exact fwS_new _ _ _ _ _
    have bs : Bx W0 (g + 1 + 1 + 1 + 1 + 1) 2 #[.int .i64 (m : Int)] := by rw [hW0, hg]; simpa using Bx.new (((((w.alloc (.cells #[.int .i64 (m : Int)] 2)).alloc (.cells #[.slice a N c] 24)).alloc (.cells #[.int .i64 0] 2)).alloc (.cells #[.bool false] 4)).alloc (.cells #[.int .i64 (-1)] 2)) #[.int .i64 (m : Int)] 2
    have hB0 : Below g w W0 := by rw [hW0, hg]; exact (by repeat (first | exact Below.refl _ _ | refine Below.setCell ?_ (by first | omega | (simp <;> omega)) _ | refine Below.alloc ?_ (by first | omega | (simp <;> omega)) _ | refine Below.drew ?_))
    have hsz : W0.heap.size = g + 6 := by rw [hW0, hg]; simp
    rw [← hW0, ← hg]
    have hg1 : w.heap.size ≤ g := Nat.le_of_eq hg.symm
    have hg2 : g ≤ w.heap.size := Nat.le_of_eq hg
    have HG := Lib.hid hg
    clear hW0 hg
    refine wpIn_rangeFunc_ownH hro (by omega) (gf := 121) (lb := #[.pointer (some ⟨g + 1 + 1 + 1 + 1 + 1, 0, none⟩)]) rfl trivial (enters_of Try.func121 (by kernel_rfl) rfl)
      (rowsF_stops _ (by omega) (g + 1 + 1 + 1 + 1 + 1) g m hm hm2 W0 (by omega) (bs.at_ 0 rfl)) keepF_t (keepF_b (by omega) (by omega)) (Below.refl _ _) (fun _ => rfl)
      (fun pre X => (∃ v, Hid (pre = rwk (2 * m * m) pre.length → formTo m rs pre.length = true ∧ v = wrongTo m rs pre.length) ∧ FwS X g m N c a v) ∧ Below g w X)
      (fun ct _ X => (ct = .ret ∧ formB m rs = false ∧ Bx X (g + 1 + 1) 2 #[.int .i64 0] ∧ Bx X (g + 1 + 1 + 1) 4 #[.bool false]) ∧ Below g w X)
      (OwnFrom.and (Own.from (fun s A B row hs hg hr => by
        obtain ⟨v, h1, h2⟩ := hs
        exact ⟨v, h1, h2.same (fun k o ho hc => grownBy_keeps_cells hg hr ho hc) hg.size⟩) _) (ownFrom_below (by have := HG.out; omega) (by omega)))
      (fun _ => OwnFrom.and (Own.from (fun s A B row hs hg hr => ⟨hs.1, hs.2.1, (grownBy_keeps_cells hg hr hs.2.2.1 rfl).trans hs.2.2.1, (grownBy_keeps_cells hg hr hs.2.2.2 rfl).trans hs.2.2.2⟩) _) (ownFrom_below (by have := HG.out; omega) (by omega)))
      ⟨⟨-1, Lib.hid (fun _ => ⟨rfl, rfl⟩), S0⟩, hB0⟩
      (fun x a' X => ∃ B6, g + 5 < B6 ∧ Bx X B6 88 #[.int .i64 (rowN m x.1).1, .int .i64 (rowN m x.1).2.1, .int .i64 (rowN m x.1).2.2.1, .int .i64 (rowN m x.1).2.2.2.1, .int .i64 (rowN m x.1).2.2.2.2] ∧
        a' = { tmps := #[.int .i64 (m : Int), .slice a N c, .pointer (some ⟨g, 0, none⟩), .pointer (some ⟨g + 1, 0, none⟩), .pointer (some ⟨g + 1 + 1, 0, none⟩), .pointer (some ⟨g + 1 + 1 + 1, 0, none⟩), .pointer (some ⟨g + 1 + 1 + 1 + 1, 0, none⟩), .int .i64 (x.1 : Int), .pointer (some ⟨B6, 0, none⟩),
          .slice a N c, .int .i64 (N : Int), .int .i64 (m : Int), .int .i64 (2 * (m : Int)), .int .i64 (m : Int), .int .i64 (N : Int), .bool false, .int .i64 (m : Int), .func (.func 121) #[] #[.pointer (some ⟨g + 1 + 1 + 1 + 1 + 1, 0, none⟩)], .int .i64 (x.1 : Int), .agg #[.int .i64 (rowN m x.1).1, .int .i64 (rowN m x.1).2.1, .int .i64 (rowN m x.1).2.2.1, .int .i64 (rowN m x.1).2.2.2.1, .int .i64 (rowN m x.1).2.2.2.2],
          undef, undef, undef, undef, undef, undef, undef, undef, undef, undef, undef, undef, undef, undef, undef, undef, undef, undef, undef, undef], defers := [] })
      (fun x a' _ A B row hs hg hr => by
        obtain ⟨B6, h1, h2, h3⟩ := hs
        have hr' : ∀ r, row = some r → ∃ o : Obj, A.heap[r]? = some o ∧ o.isCells = false := fun r e => (hr r e).2
        exact ⟨B6, h1, (grownBy_keeps_cells hg hr' h2 rfl).trans h2, h3⟩) ?assign ?body ?done ?stop
    case assign =>
      intro l pre x X K hI hK
      obtain ⟨⟨v, i1, i2⟩, i5⟩ := hI
      have hXb := i2.sz
      gi_wp2
      refine hK _ _ ((KeepsOthers.alloc _ _).from _) ?_ ?_ ?_
      · exact KeepF.alloc_ _ (by omega) (by omega) _
      · exact ⟨⟨v, i1, i2.same (fun k o ho _ => Below.heap_alloc _ _ _ (Array.getElem?_eq_some_iff.1 ho).1) (by simp)⟩, i5.alloc (by omega) _⟩
      · exact ⟨X.heap.size, by omega, Bx.new _ _ _, rfl⟩
    case body =>
      rintro l pre x a' X hl ⟨r, hr⟩ ⟨⟨v, HV, S⟩, hB⟩ ⟨B6, hB6, bB, rfl⟩ hlp
      obtain ⟨k, hkx⟩ : ∃ k, k = x.1 := ⟨_, rfl⟩
      have hkN : k < N := by have := x.2; have := HN.out; omega
      have hx1 := hkx.symm
      rw [hx1] at bB ⊢
      have hXs := S.sz
      have hmo : Try.prog.follows .mixedOrders = true := by kernel_rfl
      have q3 : B6 < X.heap.size := bB.lt
      obtain ⟨b, off, rfl, p0, p1, p2, p3, p4⟩ := (ha.below (hB.mono (by omega))).at5 (k := k) (by omega)
      have HA := Lib.hid (show pre ++ [x] = rwk (2 * m * m) (pre ++ [x]).length → pre = rwk (2 * m * m) pre.length ∧ k = pre.length from fun he => by
        obtain ⟨h1, h2⟩ := snoc_rwk hlp he
        exact ⟨h1, hkx.trans h2⟩)
      have HB0 := Lib.hid (blB_form m rs k)
      have HBD := Lib.hid (fun h => formB_bad (m := m) (rs := rs) (i := k) (by omega) h)
      have HKE := Lib.hid (show formAt m rs k = true → (0 ≤ v ∨ elt quinF rs k = rowN m k) → pre ++ [x] = rwk (2 * m * m) (pre ++ [x]).length → formTo m rs (pre ++ [x]).length = true ∧ v = wrongTo m rs (pre ++ [x]).length from fun h1 h2 he => by
        obtain ⟨e1, e2⟩ := HA.out he
        obtain ⟨f1, f2⟩ := HV.out e1
        rw [List.length_append, List.length_singleton, ← e2]
        rw [← e2] at f1 f2
        exact fw_keep f1 h1 f2 h2)
      have HSE := Lib.hid (show formAt m rs k = true → v < 0 → elt quinF rs k ≠ rowN m k → pre ++ [x] = rwk (2 * m * m) (pre ++ [x]).length → formTo m rs (pre ++ [x]).length = true ∧ (k : Int) = wrongTo m rs (pre ++ [x]).length from fun h1 h2 h3 he => by
        obtain ⟨e1, e2⟩ := HA.out he
        obtain ⟨f1, f2⟩ := HV.out e1
        rw [List.length_append, List.length_singleton, ← e2]
        rw [← e2] at f1 f2
        exact fw_set f1 h1 f2 h2 h3)
      have HRS := Lib.hid (fun (h : formAt m rs k = true) => formAt_row h)
      have HSM := Lib.hid (fun (h : formAt m rs k = true) => row_same h)
      have hd1 : (0 : Int) ≤ (k : Int) := by omega
      have hd2 : (k : Int) < (N : Int) := by omega
      obtain ⟨y, hy⟩ : ∃ y, y = elt quinF rs k := ⟨_, rfl⟩
      obtain ⟨z, hz⟩ : ∃ z, z = rowN m k := ⟨_, rfl⟩
      rw [← hy] at p0 p1 p2 p3 p4 HB0 HKE HSE HRS HSM
      rw [← hz] at bB HB0 HKE HSE HRS HSM
      rw [← hz]
      obtain ⟨fb, hfb⟩ : ∃ fb, fb = formAt m rs k := ⟨_, rfl⟩
      rw [← hfb] at HB0 HBD HKE HSE HRS HSM
      clear hy hz hfb HV HA hkx hx1
      have c0 := kept_all p0
      have c1 := kept_all p1
      have c2 := kept_all p2
      have c3 := kept_all p3
      have c4 := kept_all p4
      have d0 := kept_all (bB.at_ 0 rfl)
      have d1 := kept_all (bB.at_ 1 rfl)
      have d2 := kept_all (bB.at_ 2 rfl)
      have d3 := kept_all (bB.at_ 3 rfl)
      have d4 := kept_all (bB.at_ 4 rfl)
      have k0 := kept_all (S.b0.at_ 0 rfl)
      have k1 := kept_all (S.b1.at_ 0 rfl)
      have k4 := kept_all (S.b4.at_ 0 rfl)
      gi_wp2
      refine wpIn_region_marked (fun w' => Below X.heap.size X w') 6 hmo (by kernel_rfl) (fun _ _ h => h) ?_
      have hS : Below X.heap.size X X.drew := (Below.refl _ _).drew
      refine wpAnyM_takeC (i := 0) (v := ?_) 4 rfl (by kernel_rfl) (by kernel_rfl) (by kernel_rfl) (by kernel_rfl) (by kernel_rfl) (by kernel_rfl) (fun _ _ _ h => h) hS (.inl ⟨by rfl, ?_⟩) ?_
      rotate_left 1
      · intro w' hS'; go_simp; try with_reducible rfl
      simp only [Act.put, List.setIfInBounds_toArray, List.set_cons_succ, List.set_cons_zero, List.getElem_toArray, List.getElem_cons_zero]
      refine wpAnyM_takeC (i := 1) (v := ?_) 4 rfl (by kernel_rfl) (by kernel_rfl) (by kernel_rfl) (by kernel_rfl) (by kernel_rfl) (by kernel_rfl) (fun _ _ _ h => h) hS (.inl ⟨by rfl, ?_⟩) ?_
      rotate_left 1
      · intro w' hS'; go_simp; try with_reducible rfl
      simp only [Act.put, List.setIfInBounds_toArray, List.set_cons_succ, List.set_cons_zero, List.getElem_toArray, List.getElem_cons_succ, List.getElem_cons_zero]
      refine wpAnyM_takeC (i := 2) (v := ?_) 4 rfl (by kernel_rfl) (by kernel_rfl) (by kernel_rfl) (by kernel_rfl) (by kernel_rfl) (by kernel_rfl) (fun _ _ _ h => h) hS (.inl ⟨by rfl, ?_⟩) ?_
      rotate_left 1
      · intro w' hS'; go_simp; try with_reducible rfl
      simp only [Act.put, List.setIfInBounds_toArray, List.set_cons_succ, List.set_cons_zero, List.getElem_toArray, List.getElem_cons_succ, List.getElem_cons_zero]
      refine wpAnyM_take (i := 3) (v := ?_) rfl (by kernel_rfl) (by kernel_rfl) (by kernel_rfl) (by kernel_rfl) (by kernel_rfl) (fun _ _ _ h => h) hS (.inl ⟨by rfl, ?_⟩) ?_
      rotate_left 1
      · intro w' hS'; go_simp; try with_reducible rfl
      simp only [Act.put, List.setIfInBounds_toArray, List.set_cons_succ, List.set_cons_zero, List.getElem_toArray, List.getElem_cons_succ, List.getElem_cons_zero]
      refine wpAnyM_take (i := 4) (v := ?_) rfl (by kernel_rfl) (by kernel_rfl) (by kernel_rfl) (by kernel_rfl) (by kernel_rfl) (fun _ _ _ h => h) hS (.inl ⟨by rfl, ?_⟩) ?_
      rotate_left 1
      · intro w' hS'; go_simp; try with_reducible rfl
      simp only [Act.put, List.setIfInBounds_toArray, List.set_cons_succ, List.set_cons_zero, List.getElem_toArray, List.getElem_cons_succ, List.getElem_cons_zero]
      refine wpAnyM_take (i := 5) (v := ?_) rfl (by kernel_rfl) (by kernel_rfl) (by kernel_rfl) (by kernel_rfl) (by kernel_rfl) (fun _ _ _ h => h) hS (.inl ⟨by rfl, ?_⟩) ?_
      rotate_left 1
      · intro w' hS'; go_simp; try with_reducible rfl
      simp only [Act.put, List.setIfInBounds_toArray, List.set_cons_succ, List.set_cons_zero, List.getElem_toArray, List.getElem_cons_succ, List.getElem_cons_zero]
      refine wpAnyM_one (i := 6) (by kernel_rfl) rfl (by rfl) (fun K hK => ?_)
      go_simp
      refine (belongs_any m y z X.drew hm hm2).mono ?_
      rintro e w2 ⟨rfl, hb2⟩
      replace hS : Below X.heap.size X w2 := hS.trans (hb2.mono (by simp))
      rw [HB0.out]
      refine hK _ _ (.inl rfl) ?_
      clear hK K
      try simp only [Act.put, List.setIfInBounds_toArray, List.set_cons_succ, List.set_cons_zero, List.getElem_toArray, List.getElem_cons_succ, List.getElem_cons_zero]
      refine wpAnyM_one (i := 7) (by kernel_rfl) rfl (by rfl) (fun K hK => ?_)
      go_simp
      refine hK _ _ (.inl rfl) ?_
      clear hK K
      refine wpAnyM_done (by kernel_rfl) ?_ _
      try simp only [Act.put, List.setIfInBounds_toArray, List.set_cons_succ, List.set_cons_zero, List.getElem_toArray, List.getElem_cons_succ, List.getElem_cons_zero]
      have hz2 := hS.size
      cases fb with
      | false =>
        have HF := Lib.hid (HBD.out rfl)
        have g2 := hS.cell (p := ⟨g + 1 + 1, 0, none⟩) (by simp; omega) |>.trans (S.b2.at_ 0 rfl)
        have g3 := hS.cell (p := ⟨g + 1 + 1 + 1, 0, none⟩) (by simp; omega) |>.trans (S.b3.at_ 0 rfl)
        have f2 := hS.frozen (p := ⟨g + 1 + 1, 0, none⟩) (by simp; omega) |>.trans (S.b2.thaw 0)
        have f3 := hS.frozen (p := ⟨g + 1 + 1 + 1, 0, none⟩) (by simp; omega) |>.trans (S.b3.thaw 0)
        gi_wp2
        refine ⟨⟨by simp; omega, fun k' o hk' hko hno => ?_⟩, ⟨rfl, HF.out, ?_, ?_⟩, ?_⟩
        · rw [Below.heap_setCell _ _ _ _ (by simp; omega), Below.heap_setCell _ _ _ _ (by simp; omega), hS.block k' (Array.getElem?_eq_some_iff.1 hko).1]; exact hko
        · simpa using ((S.b2.below hS).set_ 0 (.int .i64 0)).far (by simp) _
        · simpa using ((S.b3.below hS).far (by simp) _).set_ 0 (.bool false)
        · exact ((hB.trans (hS.mono (by omega))).setCell (by simp; omega) _).setCell (by simp; omega) _
      | true =>
        by_cases hv : v < 0
        · have hdv : decide (v < 0) = true := decide_eq_true hv
          obtain ⟨a1, a2, a3, _⟩ := HRS.out rfl
          have t1 : (y.1 == z.1) = true := by simp [a1]
          have t2 : (y.2.1 == z.2.1) = true := by simp [a2]
          have t3 : (y.2.2.1 == z.2.2.1) = true := by simp [a3]
          by_cases h4 : y.2.2.2.1 = z.2.2.2.1
          · have t4 : (y.2.2.2.1 == z.2.2.2.1) = true := by simp [h4]
            by_cases h5 : y.2.2.2.2 = z.2.2.2.2
            · have t5 : (y.2.2.2.2 == z.2.2.2.2) = true := by simp [h5]
              have HN2 := Lib.hid (HKE.out rfl (.inr (HSM.out rfl h4 h5)))
              clear a1 a2 a3 h4 h5 HKE HSE HSM HRS HBD HB0
              gi_wp2
              refine wpIn_region_marked (fun w' => Below X.heap.size X w') 9 hmo (by kernel_rfl) (fun _ _ h => h) ?_
              have hS9 : Below X.heap.size X w2.drew := hS.drew
              refine wpAnyM_takeC (i := 0) (v := ?_) 4 rfl (by kernel_rfl) (by kernel_rfl) (by kernel_rfl) (by kernel_rfl) (by kernel_rfl) (by kernel_rfl) (fun _ _ _ h => h) hS9 (.inl ⟨by rfl, ?_⟩) ?_
              rotate_left 1
              · intro w' hS'; go_simp; try with_reducible rfl
              simp only [Act.put, List.setIfInBounds_toArray, List.set_cons_succ, List.set_cons_zero, List.getElem_toArray, List.getElem_cons_zero]
              refine wpAnyM_takeC (i := 1) (v := ?_) 4 rfl (by kernel_rfl) (by kernel_rfl) (by kernel_rfl) (by kernel_rfl) (by kernel_rfl) (by kernel_rfl) (fun _ _ _ h => h) hS9 (.inl ⟨by rfl, ?_⟩) ?_
              rotate_left 1
              · intro w' hS'; go_simp; try with_reducible rfl
              simp only [Act.put, List.setIfInBounds_toArray, List.set_cons_succ, List.set_cons_zero, List.getElem_toArray, List.getElem_cons_succ, List.getElem_cons_zero]
              refine wpAnyM_takeC (i := 2) (v := ?_) 4 rfl (by kernel_rfl) (by kernel_rfl) (by kernel_rfl) (by kernel_rfl) (by kernel_rfl) (by kernel_rfl) (fun _ _ _ h => h) hS9 (.inl ⟨by rfl, ?_⟩) ?_
              rotate_left 1
              · intro w' hS'; go_simp; try with_reducible rfl
              simp only [Act.put, List.setIfInBounds_toArray, List.set_cons_succ, List.set_cons_zero, List.getElem_toArray, List.getElem_cons_succ, List.getElem_cons_zero]
              refine wpAnyM_takeC (i := 3) (v := ?_) 4 rfl (by kernel_rfl) (by kernel_rfl) (by kernel_rfl) (by kernel_rfl) (by kernel_rfl) (by kernel_rfl) (fun _ _ _ h => h) hS9 (.inl ⟨by rfl, ?_⟩) ?_
              rotate_left 1
              · intro w' hS'; go_simp; try with_reducible rfl
              simp only [Act.put, List.setIfInBounds_toArray, List.set_cons_succ, List.set_cons_zero, List.getElem_toArray, List.getElem_cons_succ, List.getElem_cons_zero]
              refine wpAnyM_takeC (i := 4) (v := ?_) 4 rfl (by kernel_rfl) (by kernel_rfl) (by kernel_rfl) (by kernel_rfl) (by kernel_rfl) (by kernel_rfl) (fun _ _ _ h => h) hS9 (.inl ⟨by rfl, ?_⟩) ?_
              rotate_left 1
              · intro w' hS'; go_simp; try with_reducible rfl
              simp only [Act.put, List.setIfInBounds_toArray, List.set_cons_succ, List.set_cons_zero, List.getElem_toArray, List.getElem_cons_succ, List.getElem_cons_zero]
              refine wpAnyM_takeC (i := 5) (v := ?_) 4 rfl (by kernel_rfl) (by kernel_rfl) (by kernel_rfl) (by kernel_rfl) (by kernel_rfl) (by kernel_rfl) (fun _ _ _ h => h) hS9 (.inl ⟨by rfl, ?_⟩) ?_
              rotate_left 1
              · intro w' hS'; go_simp; try with_reducible rfl
              simp only [Act.put, List.setIfInBounds_toArray, List.set_cons_succ, List.set_cons_zero, List.getElem_toArray, List.getElem_cons_succ, List.getElem_cons_zero]
              refine wpAnyM_takeC (i := 6) (v := ?_) 4 rfl (by kernel_rfl) (by kernel_rfl) (by kernel_rfl) (by kernel_rfl) (by kernel_rfl) (by kernel_rfl) (fun _ _ _ h => h) hS9 (.inl ⟨by rfl, ?_⟩) ?_
              rotate_left 1
              · intro w' hS'; go_simp; try with_reducible rfl
              simp only [Act.put, List.setIfInBounds_toArray, List.set_cons_succ, List.set_cons_zero, List.getElem_toArray, List.getElem_cons_succ, List.getElem_cons_zero]
              refine wpAnyM_takeC (i := 7) (v := ?_) 4 rfl (by kernel_rfl) (by kernel_rfl) (by kernel_rfl) (by kernel_rfl) (by kernel_rfl) (by kernel_rfl) (fun _ _ _ h => h) hS9 (.inl ⟨by rfl, ?_⟩) ?_
              rotate_left 1
              · intro w' hS'; go_simp; try with_reducible rfl
              simp only [Act.put, List.setIfInBounds_toArray, List.set_cons_succ, List.set_cons_zero, List.getElem_toArray, List.getElem_cons_succ, List.getElem_cons_zero]
              refine wpAnyM_takeC (i := 8) (v := ?_) 4 rfl (by kernel_rfl) (by kernel_rfl) (by kernel_rfl) (by kernel_rfl) (by kernel_rfl) (by kernel_rfl) (fun _ _ _ h => h) hS9 (.inl ⟨by rfl, ?_⟩) ?_
              rotate_left 1
              · intro w' hS'; go_simp; try with_reducible rfl
              simp only [Act.put, List.setIfInBounds_toArray, List.set_cons_succ, List.set_cons_zero, List.getElem_toArray, List.getElem_cons_succ, List.getElem_cons_zero]
              refine wpAnyM_one (i := 9) (by kernel_rfl) rfl (by rfl) (fun K hK => ?_)
              go_simp
              refine hK _ _ (.inl rfl) ?_
              clear hK K
              refine wpAnyM_done (by kernel_rfl) ?_ _
              try simp only [Act.put, List.setIfInBounds_toArray, List.set_cons_succ, List.set_cons_zero, List.getElem_toArray, List.getElem_cons_succ, List.getElem_cons_zero]
              gi_wp2
              refine ⟨⟨by have := hS.size; simp; omega, fun k' o hk' hko hno => ?_⟩, ⟨?_, ?_⟩, ⟨v, HN2, ?_⟩, ?_⟩
              · exact (hS9.block k' (Array.getElem?_eq_some_iff.1 hko).1).trans hko
              · exact (hS9.mono (by omega))
              · exact hS9.block _ (by omega)
              · exact S.same (fun k' o ho _ => hS9.block k' (Array.getElem?_eq_some_iff.1 ho).1) hS9.size
              · exact hB.trans (hS9.mono (by omega))
            · have t5 : (y.2.2.2.2 == z.2.2.2.2) = false := by simp [h5]
              have HN2 := Lib.hid (HSE.out rfl hv (fun e => h5 (by rw [e])))
              clear a1 a2 a3 h4 h5 HKE HSE HSM HRS HBD HB0
              gi_wp2
              refine wpIn_region_marked (fun w' => Below X.heap.size X w') 9 hmo (by kernel_rfl) (fun _ _ h => h) ?_
              have hS9 : Below X.heap.size X w2.drew := hS.drew
              refine wpAnyM_takeC (i := 0) (v := ?_) 4 rfl (by kernel_rfl) (by kernel_rfl) (by kernel_rfl) (by kernel_rfl) (by kernel_rfl) (by kernel_rfl) (fun _ _ _ h => h) hS9 (.inl ⟨by rfl, ?_⟩) ?_
              rotate_left 1
              · intro w' hS'; go_simp; try with_reducible rfl
              simp only [Act.put, List.setIfInBounds_toArray, List.set_cons_succ, List.set_cons_zero, List.getElem_toArray, List.getElem_cons_zero]
              refine wpAnyM_takeC (i := 1) (v := ?_) 4 rfl (by kernel_rfl) (by kernel_rfl) (by kernel_rfl) (by kernel_rfl) (by kernel_rfl) (by kernel_rfl) (fun _ _ _ h => h) hS9 (.inl ⟨by rfl, ?_⟩) ?_
              rotate_left 1
              · intro w' hS'; go_simp; try with_reducible rfl
              simp only [Act.put, List.setIfInBounds_toArray, List.set_cons_succ, List.set_cons_zero, List.getElem_toArray, List.getElem_cons_succ, List.getElem_cons_zero]
              refine wpAnyM_takeC (i := 2) (v := ?_) 4 rfl (by kernel_rfl) (by kernel_rfl) (by kernel_rfl) (by kernel_rfl) (by kernel_rfl) (by kernel_rfl) (fun _ _ _ h => h) hS9 (.inl ⟨by rfl, ?_⟩) ?_
              rotate_left 1
              · intro w' hS'; go_simp; try with_reducible rfl
              simp only [Act.put, List.setIfInBounds_toArray, List.set_cons_succ, List.set_cons_zero, List.getElem_toArray, List.getElem_cons_succ, List.getElem_cons_zero]
              refine wpAnyM_takeC (i := 3) (v := ?_) 4 rfl (by kernel_rfl) (by kernel_rfl) (by kernel_rfl) (by kernel_rfl) (by kernel_rfl) (by kernel_rfl) (fun _ _ _ h => h) hS9 (.inl ⟨by rfl, ?_⟩) ?_
              rotate_left 1
              · intro w' hS'; go_simp; try with_reducible rfl
              simp only [Act.put, List.setIfInBounds_toArray, List.set_cons_succ, List.set_cons_zero, List.getElem_toArray, List.getElem_cons_succ, List.getElem_cons_zero]
              refine wpAnyM_takeC (i := 4) (v := ?_) 4 rfl (by kernel_rfl) (by kernel_rfl) (by kernel_rfl) (by kernel_rfl) (by kernel_rfl) (by kernel_rfl) (fun _ _ _ h => h) hS9 (.inl ⟨by rfl, ?_⟩) ?_
              rotate_left 1
              · intro w' hS'; go_simp; try with_reducible rfl
              simp only [Act.put, List.setIfInBounds_toArray, List.set_cons_succ, List.set_cons_zero, List.getElem_toArray, List.getElem_cons_succ, List.getElem_cons_zero]
              refine wpAnyM_takeC (i := 5) (v := ?_) 4 rfl (by kernel_rfl) (by kernel_rfl) (by kernel_rfl) (by kernel_rfl) (by kernel_rfl) (by kernel_rfl) (fun _ _ _ h => h) hS9 (.inl ⟨by rfl, ?_⟩) ?_
              rotate_left 1
              · intro w' hS'; go_simp; try with_reducible rfl
              simp only [Act.put, List.setIfInBounds_toArray, List.set_cons_succ, List.set_cons_zero, List.getElem_toArray, List.getElem_cons_succ, List.getElem_cons_zero]
              refine wpAnyM_takeC (i := 6) (v := ?_) 4 rfl (by kernel_rfl) (by kernel_rfl) (by kernel_rfl) (by kernel_rfl) (by kernel_rfl) (by kernel_rfl) (fun _ _ _ h => h) hS9 (.inl ⟨by rfl, ?_⟩) ?_
              rotate_left 1
              · intro w' hS'; go_simp; try with_reducible rfl
              simp only [Act.put, List.setIfInBounds_toArray, List.set_cons_succ, List.set_cons_zero, List.getElem_toArray, List.getElem_cons_succ, List.getElem_cons_zero]
              refine wpAnyM_takeC (i := 7) (v := ?_) 4 rfl (by kernel_rfl) (by kernel_rfl) (by kernel_rfl) (by kernel_rfl) (by kernel_rfl) (by kernel_rfl) (fun _ _ _ h => h) hS9 (.inl ⟨by rfl, ?_⟩) ?_
              rotate_left 1
              · intro w' hS'; go_simp; try with_reducible rfl
              simp only [Act.put, List.setIfInBounds_toArray, List.set_cons_succ, List.set_cons_zero, List.getElem_toArray, List.getElem_cons_succ, List.getElem_cons_zero]
              refine wpAnyM_takeC (i := 8) (v := ?_) 4 rfl (by kernel_rfl) (by kernel_rfl) (by kernel_rfl) (by kernel_rfl) (by kernel_rfl) (by kernel_rfl) (fun _ _ _ h => h) hS9 (.inl ⟨by rfl, ?_⟩) ?_
              rotate_left 1
              · intro w' hS'; go_simp; try with_reducible rfl
              simp only [Act.put, List.setIfInBounds_toArray, List.set_cons_succ, List.set_cons_zero, List.getElem_toArray, List.getElem_cons_succ, List.getElem_cons_zero]
              refine wpAnyM_one (i := 9) (by kernel_rfl) rfl (by rfl) (fun K hK => ?_)
              go_simp
              refine hK _ _ (.inl rfl) ?_
              clear hK K
              refine wpAnyM_done (by kernel_rfl) ?_ _
              try simp only [Act.put, List.setIfInBounds_toArray, List.set_cons_succ, List.set_cons_zero, List.getElem_toArray, List.getElem_cons_succ, List.getElem_cons_zero]
              have g4 := hS9.cell (p := ⟨g + 1 + 1 + 1 + 1, 0, none⟩) (by simp; omega) |>.trans (S.b4.at_ 0 rfl)
              have f4 := hS9.frozen (p := ⟨g + 1 + 1 + 1 + 1, 0, none⟩) (by simp; omega) |>.trans (S.b4.thaw 0)
              gi_wp2
              have hP : ∀ j, j ≠ g + 1 + 1 + 1 + 1 → (w2.setCell ⟨g + 1 + 1 + 1 + 1, 0, none⟩ (.int .i64 (k : Int))).drew.heap[j]? = w2.heap[j]? := fun j hj => Below.heap_setCell _ _ _ _ hj
              refine ⟨⟨by have := hS.size; simp; omega, fun k' o hk' hko hno => ?_⟩, ⟨?_, ?_⟩, ⟨(k : Int), HN2, ?_⟩, ?_⟩
              · exact (hP k' (by omega)).trans ((hS.block k' (Array.getElem?_eq_some_iff.1 hko).1).trans hko)
              · exact ((hS.mono (by omega)).setCell (by simp; omega) _).drew
              · exact (hP _ (by omega)).trans (hS.block _ (by omega))
              · exact ((S.same (fun k' o ho _ => hS.block k' (Array.getElem?_eq_some_iff.1 ho).1) hS.size).put _).same (fun _ _ _ _ => rfl) (Nat.le_refl _)
              · exact ((hB.trans (hS.mono (by omega))).setCell (by simp; omega) _).drew
          · have t4 : (y.2.2.2.1 == z.2.2.2.1) = false := by simp [h4]
            have HN2 := Lib.hid (HSE.out rfl hv (fun e => h4 (by rw [e])))
            clear a1 a2 a3 h4 HKE HSE HSM HRS HBD HB0
            gi_wp2
            refine wpIn_region_marked (fun w' => Below X.heap.size X w') 9 hmo (by kernel_rfl) (fun _ _ h => h) ?_
            have hS9 : Below X.heap.size X w2.drew := hS.drew
            refine wpAnyM_takeC (i := 0) (v := ?_) 4 rfl (by kernel_rfl) (by kernel_rfl) (by kernel_rfl) (by kernel_rfl) (by kernel_rfl) (by kernel_rfl) (fun _ _ _ h => h) hS9 (.inl ⟨by rfl, ?_⟩) ?_
            rotate_left 1
            · intro w' hS'; go_simp; try with_reducible rfl
            simp only [Act.put, List.setIfInBounds_toArray, List.set_cons_succ, List.set_cons_zero, List.getElem_toArray, List.getElem_cons_zero]
            refine wpAnyM_takeC (i := 1) (v := ?_) 4 rfl (by kernel_rfl) (by kernel_rfl) (by kernel_rfl) (by kernel_rfl) (by kernel_rfl) (by kernel_rfl) (fun _ _ _ h => h) hS9 (.inl ⟨by rfl, ?_⟩) ?_
            rotate_left 1
            · intro w' hS'; go_simp; try with_reducible rfl
            simp only [Act.put, List.setIfInBounds_toArray, List.set_cons_succ, List.set_cons_zero, List.getElem_toArray, List.getElem_cons_succ, List.getElem_cons_zero]
            refine wpAnyM_takeC (i := 2) (v := ?_) 4 rfl (by kernel_rfl) (by kernel_rfl) (by kernel_rfl) (by kernel_rfl) (by kernel_rfl) (by kernel_rfl) (fun _ _ _ h => h) hS9 (.inl ⟨by rfl, ?_⟩) ?_
            rotate_left 1
            · intro w' hS'; go_simp; try with_reducible rfl
            simp only [Act.put, List.setIfInBounds_toArray, List.set_cons_succ, List.set_cons_zero, List.getElem_toArray, List.getElem_cons_succ, List.getElem_cons_zero]
            refine wpAnyM_takeC (i := 3) (v := ?_) 4 rfl (by kernel_rfl) (by kernel_rfl) (by kernel_rfl) (by kernel_rfl) (by kernel_rfl) (by kernel_rfl) (fun _ _ _ h => h) hS9 (.inl ⟨by rfl, ?_⟩) ?_
            rotate_left 1
            · intro w' hS'; go_simp; try with_reducible rfl
            simp only [Act.put, List.setIfInBounds_toArray, List.set_cons_succ, List.set_cons_zero, List.getElem_toArray, List.getElem_cons_succ, List.getElem_cons_zero]
            refine wpAnyM_takeC (i := 4) (v := ?_) 4 rfl (by kernel_rfl) (by kernel_rfl) (by kernel_rfl) (by kernel_rfl) (by kernel_rfl) (by kernel_rfl) (fun _ _ _ h => h) hS9 (.inl ⟨by rfl, ?_⟩) ?_
            rotate_left 1
            · intro w' hS'; go_simp; try with_reducible rfl
            simp only [Act.put, List.setIfInBounds_toArray, List.set_cons_succ, List.set_cons_zero, List.getElem_toArray, List.getElem_cons_succ, List.getElem_cons_zero]
            refine wpAnyM_takeC (i := 5) (v := ?_) 4 rfl (by kernel_rfl) (by kernel_rfl) (by kernel_rfl) (by kernel_rfl) (by kernel_rfl) (by kernel_rfl) (fun _ _ _ h => h) hS9 (.inl ⟨by rfl, ?_⟩) ?_
            rotate_left 1
            · intro w' hS'; go_simp; try with_reducible rfl
            simp only [Act.put, List.setIfInBounds_toArray, List.set_cons_succ, List.set_cons_zero, List.getElem_toArray, List.getElem_cons_succ, List.getElem_cons_zero]
            refine wpAnyM_takeC (i := 6) (v := ?_) 4 rfl (by kernel_rfl) (by kernel_rfl) (by kernel_rfl) (by kernel_rfl) (by kernel_rfl) (by kernel_rfl) (fun _ _ _ h => h) hS9 (.inl ⟨by rfl, ?_⟩) ?_
            rotate_left 1
            · intro w' hS'; go_simp; try with_reducible rfl
            simp only [Act.put, List.setIfInBounds_toArray, List.set_cons_succ, List.set_cons_zero, List.getElem_toArray, List.getElem_cons_succ, List.getElem_cons_zero]
            refine wpAnyM_takeC (i := 7) (v := ?_) 4 rfl (by kernel_rfl) (by kernel_rfl) (by kernel_rfl) (by kernel_rfl) (by kernel_rfl) (by kernel_rfl) (fun _ _ _ h => h) hS9 (.inl ⟨by rfl, ?_⟩) ?_
            rotate_left 1
            · intro w' hS'; go_simp; try with_reducible rfl
            simp only [Act.put, List.setIfInBounds_toArray, List.set_cons_succ, List.set_cons_zero, List.getElem_toArray, List.getElem_cons_succ, List.getElem_cons_zero]
            refine wpAnyM_takeC (i := 8) (v := ?_) 4 rfl (by kernel_rfl) (by kernel_rfl) (by kernel_rfl) (by kernel_rfl) (by kernel_rfl) (by kernel_rfl) (fun _ _ _ h => h) hS9 (.inl ⟨by rfl, ?_⟩) ?_
            rotate_left 1
            · intro w' hS'; go_simp; try with_reducible rfl
            simp only [Act.put, List.setIfInBounds_toArray, List.set_cons_succ, List.set_cons_zero, List.getElem_toArray, List.getElem_cons_succ, List.getElem_cons_zero]
            refine wpAnyM_one (i := 9) (by kernel_rfl) rfl (by rfl) (fun K hK => ?_)
            go_simp
            refine hK _ _ (.inl rfl) ?_
            clear hK K
            refine wpAnyM_done (by kernel_rfl) ?_ _
            try simp only [Act.put, List.setIfInBounds_toArray, List.set_cons_succ, List.set_cons_zero, List.getElem_toArray, List.getElem_cons_succ, List.getElem_cons_zero]
            have g4 := hS9.cell (p := ⟨g + 1 + 1 + 1 + 1, 0, none⟩) (by simp; omega) |>.trans (S.b4.at_ 0 rfl)
            have f4 := hS9.frozen (p := ⟨g + 1 + 1 + 1 + 1, 0, none⟩) (by simp; omega) |>.trans (S.b4.thaw 0)
            gi_wp2
            have hP : ∀ j, j ≠ g + 1 + 1 + 1 + 1 → (w2.setCell ⟨g + 1 + 1 + 1 + 1, 0, none⟩ (.int .i64 (k : Int))).drew.heap[j]? = w2.heap[j]? := fun j hj => Below.heap_setCell _ _ _ _ hj
            refine ⟨⟨by have := hS.size; simp; omega, fun k' o hk' hko hno => ?_⟩, ⟨?_, ?_⟩, ⟨(k : Int), HN2, ?_⟩, ?_⟩
            · exact (hP k' (by omega)).trans ((hS.block k' (Array.getElem?_eq_some_iff.1 hko).1).trans hko)
            · exact ((hS.mono (by omega)).setCell (by simp; omega) _).drew
            · exact (hP _ (by omega)).trans (hS.block _ (by omega))
            · exact ((S.same (fun k' o ho _ => hS.block k' (Array.getElem?_eq_some_iff.1 ho).1) hS.size).put _).same (fun _ _ _ _ => rfl) (Nat.le_refl _)
            · exact ((hB.trans (hS.mono (by omega))).setCell (by simp; omega) _).drew
        · have hdv : decide (v < 0) = false := decide_eq_false hv
          have HN2 := Lib.hid (HKE.out rfl (.inl (by omega)))
          clear HKE HSE HSM HRS HBD HB0
          gi_wp2
          refine wpIn_region_marked (fun w' => Below X.heap.size X w') 9 hmo (by kernel_rfl) (fun _ _ h => h) ?_
          have hS9 : Below X.heap.size X w2.drew := hS.drew
          refine wpAnyM_takeC (i := 0) (v := ?_) 4 rfl (by kernel_rfl) (by kernel_rfl) (by kernel_rfl) (by kernel_rfl) (by kernel_rfl) (by kernel_rfl) (fun _ _ _ h => h) hS9 (.inl ⟨by rfl, ?_⟩) ?_
          rotate_left 1
          · intro w' hS'; go_simp; try with_reducible rfl
          simp only [Act.put, List.setIfInBounds_toArray, List.set_cons_succ, List.set_cons_zero, List.getElem_toArray, List.getElem_cons_zero]
          refine wpAnyM_takeC (i := 1) (v := ?_) 4 rfl (by kernel_rfl) (by kernel_rfl) (by kernel_rfl) (by kernel_rfl) (by kernel_rfl) (by kernel_rfl) (fun _ _ _ h => h) hS9 (.inl ⟨by rfl, ?_⟩) ?_
          rotate_left 1
          · intro w' hS'; go_simp; try with_reducible rfl
          simp only [Act.put, List.setIfInBounds_toArray, List.set_cons_succ, List.set_cons_zero, List.getElem_toArray, List.getElem_cons_succ, List.getElem_cons_zero]
          refine wpAnyM_takeC (i := 2) (v := ?_) 4 rfl (by kernel_rfl) (by kernel_rfl) (by kernel_rfl) (by kernel_rfl) (by kernel_rfl) (by kernel_rfl) (fun _ _ _ h => h) hS9 (.inl ⟨by rfl, ?_⟩) ?_
          rotate_left 1
          · intro w' hS'; go_simp; try with_reducible rfl
          simp only [Act.put, List.setIfInBounds_toArray, List.set_cons_succ, List.set_cons_zero, List.getElem_toArray, List.getElem_cons_succ, List.getElem_cons_zero]
          refine wpAnyM_takeC (i := 3) (v := undef) 4 rfl (by kernel_rfl) (by kernel_rfl) (by kernel_rfl) (by kernel_rfl) (by kernel_rfl) (by kernel_rfl) (fun _ _ _ h => h) hS9 (.inr ⟨by rfl, rfl⟩) ?_
          simp only [Act.put, List.setIfInBounds_toArray, List.set_cons_succ, List.set_cons_zero, List.getElem_toArray, List.getElem_cons_succ, List.getElem_cons_zero]
          refine wpAnyM_takeC (i := 4) (v := undef) 4 rfl (by kernel_rfl) (by kernel_rfl) (by kernel_rfl) (by kernel_rfl) (by kernel_rfl) (by kernel_rfl) (fun _ _ _ h => h) hS9 (.inr ⟨by rfl, rfl⟩) ?_
          simp only [Act.put, List.setIfInBounds_toArray, List.set_cons_succ, List.set_cons_zero, List.getElem_toArray, List.getElem_cons_succ, List.getElem_cons_zero]
          refine wpAnyM_takeC (i := 5) (v := undef) 4 rfl (by kernel_rfl) (by kernel_rfl) (by kernel_rfl) (by kernel_rfl) (by kernel_rfl) (by kernel_rfl) (fun _ _ _ h => h) hS9 (.inr ⟨by rfl, rfl⟩) ?_
          simp only [Act.put, List.setIfInBounds_toArray, List.set_cons_succ, List.set_cons_zero, List.getElem_toArray, List.getElem_cons_succ, List.getElem_cons_zero]
          refine wpAnyM_takeC (i := 6) (v := undef) 4 rfl (by kernel_rfl) (by kernel_rfl) (by kernel_rfl) (by kernel_rfl) (by kernel_rfl) (by kernel_rfl) (fun _ _ _ h => h) hS9 (.inr ⟨by rfl, rfl⟩) ?_
          simp only [Act.put, List.setIfInBounds_toArray, List.set_cons_succ, List.set_cons_zero, List.getElem_toArray, List.getElem_cons_succ, List.getElem_cons_zero]
          refine wpAnyM_takeC (i := 7) (v := undef) 4 rfl (by kernel_rfl) (by kernel_rfl) (by kernel_rfl) (by kernel_rfl) (by kernel_rfl) (by kernel_rfl) (fun _ _ _ h => h) hS9 (.inr ⟨by rfl, rfl⟩) ?_
          simp only [Act.put, List.setIfInBounds_toArray, List.set_cons_succ, List.set_cons_zero, List.getElem_toArray, List.getElem_cons_succ, List.getElem_cons_zero]
          refine wpAnyM_takeC (i := 8) (v := undef) 4 rfl (by kernel_rfl) (by kernel_rfl) (by kernel_rfl) (by kernel_rfl) (by kernel_rfl) (by kernel_rfl) (fun _ _ _ h => h) hS9 (.inr ⟨by rfl, rfl⟩) ?_
          simp only [Act.put, List.setIfInBounds_toArray, List.set_cons_succ, List.set_cons_zero, List.getElem_toArray, List.getElem_cons_succ, List.getElem_cons_zero]
          refine wpAnyM_one (i := 9) (by kernel_rfl) rfl (by rfl) (fun K hK => ?_)
          go_simp
          refine hK _ _ (.inl rfl) ?_
          clear hK K
          refine wpAnyM_done (by kernel_rfl) ?_ _
          try simp only [Act.put, List.setIfInBounds_toArray, List.set_cons_succ, List.set_cons_zero, List.getElem_toArray, List.getElem_cons_succ, List.getElem_cons_zero]
          gi_wp2
          refine ⟨⟨by have := hS.size; simp; omega, fun k' o hk' hko hno => ?_⟩, ⟨?_, ?_⟩, ⟨v, HN2, ?_⟩, ?_⟩
          · exact (hS9.block k' (Array.getElem?_eq_some_iff.1 hko).1).trans hko
          · exact (hS9.mono (by omega))
          · exact hS9.block _ (by omega)
          · exact S.same (fun k' o ho _ => hS9.block k' (Array.getElem?_eq_some_iff.1 ho).1) hS9.size
          · exact hB.trans (hS9.mono (by omega))
    case done =>
      rintro D ys X hD rfl ⟨⟨v, HV, S⟩, hB⟩ hK
      have hl2 : (rwk (2 * m * m) (2 * m * m)).length = 2 * m * m := rwk_len (Nat.le_refl _)
      obtain ⟨f1, f2⟩ := HV.out (by rw [hl2])
      rw [hl2, ← HN.out, ← hlen] at f1 f2
      have HR := Lib.hid (fwR_ok (formB_all (by rw [hlen]; exact HN.out) f1))
      rw [← f2] at HR
      clear f1 f2 HV
      have hXs := S.sz
      have k4 := S.b4.at_ 0 rfl
      have k2 := S.b2.at_ 0 rfl
      have k3 := S.b3.at_ 0 rfl
      have f2 := S.b2.thaw 0
      have f3 := S.b3.thaw 0
      gi_wp2
      obtain ⟨Y, hY⟩ : ∃ Y, Y = (X.setCell ⟨g + 1 + 1, 0, none⟩ (.int .i64 v)).setCell ⟨g + 1 + 1 + 1, 0, none⟩ (.bool true) := ⟨_, rfl⟩
      rw [← hY]
      have hfar : ∀ k, k ≠ g + 1 + 1 → k ≠ g + 1 + 1 + 1 → Y.heap[k]? = X.heap[k]? := by
        intro k h1 h2
        rw [hY]
        rw [Below.heap_setCell _ _ _ _ h2, Below.heap_setCell _ _ _ _ h1]
      have hB2 : Bx Y (g + 1 + 1) 2 #[.int .i64 v] := by
        rw [hY]
        exact (S.b2.set_ 0 (.int .i64 v)).far (by simp) _
      have hB3 : Bx Y (g + 1 + 1 + 1) 4 #[.bool true] := by
        rw [hY]
        exact (S.b3.far (by simp) _).set_ 0 (.bool true)
      have hYs : Y.heap.size = X.heap.size := by rw [hY]; simp
      have hBY : Below g w Y := by rw [hY]; exact (hB.setCell (by simp; omega) _).setCell (by simp; omega) _
      have hKY : Y.heap[D]? = some (.deferred (some [])) := (hfar D (by omega) (by omega)).trans hK
      clear hY hfar S k2 k3 k4 f2 f3 hB
      refine ⟨by simp, .inl ⟨_, _, rfl, run_takeDeferred hKY, ?_⟩⟩
      have kp : ∀ {p : Addr} {u : Value}, Y.cell? p = some u → (Y.putObj D (.deferred none)).cell? p = some u := fun h => cell_kept h (grownBy_putObj' _ D (.deferred none)) (fun r e => by cases e; exact ⟨_, hKY, rfl⟩)
      have r2 := kp (hB2.at_ 0 rfl)
      have r3 := kp (hB3.at_ 0 rfl)
      refine ⟨.tuple #[.int .i64 v, .bool true], ?_, ?_, (hBY.mono hg1).trans (belowK_b (w := w) (Nat.le_refl _) Y D _ (.deferred none) (by omega) hKY rfl rfl)⟩
      · simp [results, Try.f62, go_sem, r2, r3]
      · rw [HR.out]
    case stop =>
      rintro D ct pre X hD _ ⟨⟨rfl, hno, b2, b3⟩, hB⟩ hK
      have HR := Lib.hid (fwR_bad hno)
      clear hno
      gi_wp2
      refine ⟨by simp, .inl ⟨_, _, rfl, run_takeDeferred hK, ?_⟩⟩
      have kp : ∀ {p : Addr} {u : Value}, X.cell? p = some u → (X.putObj D (.deferred none)).cell? p = some u := fun h => cell_kept h (grownBy_putObj' _ D (.deferred none)) (fun r e => by cases e; exact ⟨_, hK, rfl⟩)
      have r2 := kp (b2.at_ 0 rfl)
      have r3 := kp (b3.at_ 0 rfl)
      refine ⟨.tuple #[.int .i64 0, .bool false], ?_, ?_, (hB.mono hg1).trans (belowK_b (w := w) (Nat.le_refl _) X D _ (.deferred none) (by omega) hK rfl rfl)⟩
      · simp [results, Try.f62, go_sem, r2, r3]
      · rw [HR.out]
  · have HF := Lib.hid (fwR_bad (formB_len (m := m) (rs := rs) (by rw [← HN.out]; exact hlen)))
    gi_wp2
    refine ⟨.tuple #[.int .i64 0, .bool false], by simp [results, Try.f62, go_sem], ?_, (by repeat (first | exact Below.refl _ _ | refine Below.setCell ?_ (by first | omega | (simp <;> omega)) _ | refine Below.alloc ?_ (by first | omega | (simp <;> omega)) _ | refine Below.drew ?_))⟩
    rw [HF.out]
end Go.Proofs.Ytmdngcoccekdgaa
