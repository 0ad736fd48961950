/-
  impl.BackTrain.
-/
import Derived.Test.YtaefgkhbgljkoaaBackG
import Derived.Test.YtaefgkhbgljkoaaOrdIn
import Derived.Test.YtaefgkhbgljkoaaTrainI
import Derived.Test.YtaefgkhbgljkoaaTrainT
namespace Go.Proofs.Ytaefgkhbgljkoaa
open Go.RowKit Go.Shelf

attribute [local go_sem] Oper.semAt_some

theorem back_any (x : Int × Int) (w : World) : Calls Try.prog 65 #[.agg #[.int .i64 x.1, .int .i64 x.2]] w fun e w' => e = .returned (.agg #[.int .i64 x.2, .int .i64 x.1]) ∧ Below w.heap.size w w' := by
  go_enter Try.func65, Try.ntmps65
  go_wp2
  exact bodyPost_ret (v := .agg #[.int .i64 x.2, .int .i64 x.1]) (by simp [results, Try.results65, go_sem]) rfl ⟨rfl, (by repeat (first | exact Below.refl _ _ | refine Below.setCell ?_ (by first | omega | (simp <;> omega)) _ | refine Below.alloc ?_ (by first | omega | (simp <;> omega)) _ | refine Below.drew ?_))⟩

/-- What has come, turned. -/
def turned {p : Int × Int → Prop} (pre : List (EntF p)) : List (Int × Int) := pre.map fun x => swapP x.2.1
theorem turned_snoc {p : Int × Int → Prop} (pre : List (EntF p)) (x : EntF p) : turned (pre ++ [x]) = turned pre ++ [swapP x.2.1] := by simp [turned]
theorem turned_all {p : Int × Int → Prop} {xs : List (Int × Int)} {h : ∀ r ∈ xs, p r} : turned (bwdF xs h xs.length) = backL xs := by
  have key : ∀ k, k ≤ xs.length → turned (bwdF xs h k) = backTo xs (xs.length - k) := by
    intro k
    induction k with
    | zero => intro _; rw [Nat.sub_zero, backTo_len]; rfl
    | succ k ih =>
      intro hk
      have hj : xs.length - (k + 1) < xs.length := by omega
      rw [bwdF_succ (by omega), turned_snoc, ih (by omega), backTo_step hj, show xs.length - (k + 1) + 1 = xs.length - k by omega, elt_get hj]
      congr 3
      simp only [show xs.length - 1 - k = xs.length - (k + 1) by omega]
  rw [key _ (Nat.le_refl _), Nat.sub_self, backTo_all]

/-- A list of pairs of its own that grows: nothing, or one block. -/
def Grow (L : Nat) (w : World) (A : Option Addr) (C : Nat) (ms : List (Int × Int)) : Prop := (ms = [] ∧ A = none ∧ C = 0) ∨ ∃ g, A = some ⟨g, 0, none⟩ ∧ L ≤ g ∧ OwnF pairF 76 w g (g + 1) (.slice A ms.length C) ms
theorem Grow.own {L : Nat} {w : World} {A : Option Addr} {C : Nat} {ms : List (Int × Int)} (h : Grow L w A C ms) (_ : L ≤ w.heap.size) : OwnF pairF 76 w L w.heap.size (.slice A ms.length C) ms := by
  rcases h with ⟨rfl, rfl, rfl⟩ | ⟨g, rfl, hg, ow⟩
  · exact ownF_nil _ _ _ _ _
  · exact ow.wide hg ow.blk.2.2
theorem OwnF.narrow {t : TypeId} {w : World} {lo hi n C : Nat} {A : Option Addr} {ms : List (Int × Int)} (h : OwnF pairF t w lo hi (.slice A n C) ms) (hne : 0 < ms.length) : ∃ g, A = some ⟨g, 0, none⟩ ∧ lo ≤ g ∧ g < hi ∧ OwnF pairF t w g (g + 1) (.slice A n C) ms := by
  rcases h.row.row.2 with ⟨_, h0⟩ | ⟨g, cap, cur, hv, hg, r⟩
  · omega
  · injection hv with ha hn hc
    subst ha
    have hlt := h.row.top g rfl
    refine ⟨g, rfl, hg, hlt, ⟨⟨⟨h.row.row.1, .inr ⟨g, cap, cur, by rw [hn, hc], Nat.le_refl _, r⟩⟩, fun k hk => ?_⟩, h.len⟩⟩
    simp [Value.ownBlock] at hk; omega
theorem Grow.same {L : Nat} {w w' : World} {A : Option Addr} {C : Nat} {ms : List (Int × Int)} (h : Grow L w A C ms) (hs : ∀ g, L ≤ g → (∃ o : Obj, w.heap[g]? = some o ∧ o.isCells = true) → w'.heap[g]? = w.heap[g]?) : Grow L w' A C ms := by
  rcases h with h | ⟨g, rfl, hg, ow⟩
  · exact .inl h
  · refine .inr ⟨g, rfl, hg, ⟨⟨ownsRow_same ow.row.row fun k hk => ?_, ow.row.top⟩, ow.len⟩⟩
    simp [Value.ownBlock] at hk
    subst hk
    refine hs g hg ?_
    rcases ow.row.row.2 with ⟨hv, _⟩ | ⟨g', cap, cur, hv, _, hh, _⟩
    · cases hv
    · injection hv with ha _ _
      injection ha with ha
      injection ha with ha
      subst ha
      exact ⟨_, hh, rfl⟩

theorem Grow.row {L : Nat} {w : World} {A : Option Addr} {C : Nat} {ms : List (Int × Int)} (h : Grow L w A C ms) (hL : L ≤ w.heap.size) :
    ∃ lo hi, L ≤ lo ∧ hi ≤ lo + 1 ∧ lo ≤ w.heap.size ∧ Row 76 2 w lo hi (.slice A ms.length C) ms.length (flat pairF ms) ∧ ∀ k, lo ≤ k → k < hi → ∃ cur, w.heap[k]? = some (.cells cur 76 (0, 0)) := by
  rcases h with ⟨rfl, rfl, rfl⟩ | ⟨g, rfl, hg, ow⟩
  · exact ⟨L, L, Nat.le_refl _, by omega, hL, row_nil _ _ _ _ _, fun k h1 h2 => by omega⟩
  · refine ⟨g, g + 1, hg, Nat.le_refl _, by have := ow.blk; omega, ow.row, fun k h1 h2 => ?_⟩
    obtain rfl : k = g := by omega
    rcases ow.row.row.2 with ⟨hv, _⟩ | ⟨g', cap, cur, hv, _, hh, _⟩
    · cases hv
    · injection hv with ha _ _
      injection ha with ha
      injection ha with ha
      subst ha
      exact ⟨cur, hh⟩

set_option maxRecDepth 100000 in
set_option maxHeartbeats 4000000 in
theorem implBackTrain (a : Option Addr) (c : Nat) (xs : List (Int × Int)) (w : World) (ha : RdF pairF w a xs) (hz : All2 xs) :
    Calls Try.prog 22 #[.slice a xs.length c] w (PaC (backR' xs) w) := by
  refine (callsIn_wide (n := 3)).1 ?_
  have hro : Fence.wide.round = none := rfl
  have hf1 : Fence.wide.fn 37 := trivial
  have hf2 : Fence.wide.fn 64 := trivial
  refine callsIn_of_wp_marks Try.func22 rfl trivial ?_ hro
  simp only [Try.ntmps22, List.size_toArray, List.length_cons, List.length_nil, Nat.reduceAdd, Nat.reduceSub, Array.replicate_succ, Array.replicate_zero, List.push_toArray, List.append_toArray, List.nil_append, List.cons_append]
  cases h : trainB xs with
  | false =>
    have HV := Lib.hid (implValidTrain_at a c xs w h ha hz)
    have HR := Lib.hid (backR'_bad h)
    clear h
    gi_wp2_with (gi_at_call 37; refine (callsIn_wide.2 HV.out).mono ?_; rintro e w1 ⟨rfl, hb1⟩)
    exact ⟨.tuple #[.slice none 0 0, .int .i64 1], by simp [results, Try.f22, go_sem], paC_err HR.out rfl hb1⟩
  | true =>
    have HV := Lib.hid (implValidTrain_at a c xs w h ha hz)
    have HR := Lib.hid (backR'_ok h)
    have HA := Lib.hid (train_of h)
    clear h
    gi_wp2_with (first | (gi_at_call 37; refine (callsIn_wide.2 HV.out).mono ?_; rintro e w1 ⟨rfl, hb1⟩; have ha1 := ha.below hb1; have hs1 := hb1.size) | (gi_at_call 64; refine (backG_in Fence.wide _ trivial rfl _ _ _ _).mono ?_; rintro e w' ⟨rfl, rfl⟩))
    obtain ⟨W0, hW0⟩ : ∃ W0, W0 = (w1.alloc (.cells #[.slice none 0 0] 24)).alloc (.cells #[.slice a xs.length c] 24) := ⟨_, rfl⟩
    rw [← hW0]
    have bv : Bx W0 w1.heap.size 24 #[.slice none 0 0] := by rw [hW0]; exact (Bx.new _ _ _).alloc _
    have bs : Bx W0 (w1.heap.size + 1) 24 #[.slice a xs.length c] := by rw [hW0]; simpa using Bx.new (w1.alloc (.cells #[.slice none 0 0] 24)) #[.slice a xs.length c] 24
    have hB0 : Below w1.heap.size w1 W0 := by rw [hW0]; exact (by repeat (first | exact Below.refl _ _ | refine Below.setCell ?_ (by first | omega | (simp <;> omega)) _ | refine Below.alloc ?_ (by first | omega | (simp <;> omega)) _ | refine Below.drew ?_))
    have hsz : W0.heap.size = w1.heap.size + 2 := by rw [hW0]; simp
    have hB1 := hb1.trans (hB0.mono hs1)
    have ha2 := ha1.below hB0
    clear hW0
    have hAr : ∀ r ∈ xs, teethB r = true := HA.out.all
    have n1 := HA.out.n1
    refine wpIn_rangeFunc_ownH hro (by omega) (gf := 97) (lb := #[.pointer (some ⟨w1.heap.size + 1, 0, none⟩)]) rfl trivial (enters_of Try.func97 (by kernel_rfl) rfl)
      (backG_stops Fence.wide _ trivial rfl (by omega) (w1.heap.size + 1) w.heap.size a c xs hAr W0 (by omega) (bs.at_ 0 rfl) ha2 (fun hne b' off hab => by
        obtain ⟨b'', off', e, hc⟩ := ha.cells hne
        rw [hab] at e
        cases e
        have h0 : 0 < xs.length := List.length_pos_iff.2 hne
        exact World.block_lt_of_cell? _ _ (hc 0 _ (elt_some (F := pairF) h0) 0 _ rfl))) keepF_t (keepF_b (by omega) (by omega)) (Below.refl _ _) (fun _ => rfl)
      (fun pre X => ((∃ A C, X.cell? ⟨w1.heap.size, 0, none⟩ = some (.slice A (turned pre).length C) ∧ X.frozen? ⟨w1.heap.size, 0, none⟩ = false ∧ Grow (w1.heap.size + 2) X A C (turned pre) ∧ w1.heap.size + 2 ≤ X.heap.size) ∧ Below w.heap.size w X))
      (fun _ _ _ => False)
      (OwnFrom.and (Own.from (fun s A B row hs hg hr => by
        obtain ⟨A1, C1, h1, h2, h3, h4⟩ := hs
        exact ⟨A1, C1, cell_kept h1 hg hr, (frozen_kept h1 hg hr).trans h2, h3.same fun g _ ⟨o, ho, hc⟩ => grownBy_keeps_cells hg hr ho hc, Nat.le_trans h4 hg.size⟩) _) (ownFrom_below (Nat.le_refl _) (by omega)))
      (fun _ _ _ _ _ hs _ _ => hs)
      ⟨⟨none, 0, bv.at_ 0 rfl, bv.thaw 0, .inl ⟨rfl, rfl, rfl⟩, by omega⟩, hB1⟩
      (fun x a' X => ∃ B6, w1.heap.size + 1 < B6 ∧ X.cell? ⟨B6, 0, none⟩ = some (.int .i64 x.2.1.1) ∧ X.cell? ⟨B6, 1, none⟩ = some (.int .i64 x.2.1.2) ∧ a' = { tmps := #[.slice a xs.length c, undef, .slice none 0 0, .int .i64 0, .pointer (some ⟨w1.heap.size, 0, none⟩), undef, .pointer (some ⟨B6, 0, none⟩), .slice a xs.length c,
          .bool true, .bool false, .slice a xs.length c, .func (.func 97) #[] #[.pointer (some ⟨w1.heap.size + 1, 0, none⟩)], .int .i64 (x.1 : Int), .agg #[.int .i64 x.2.1.1, .int .i64 x.2.1.2], undef, undef, undef, undef, undef, undef], defers := [] })
      (fun x a' _ A B row hs hg hr => by
        obtain ⟨B6, h1, h2, h3, h4⟩ := hs
        have hr' : ∀ r, row = some r → ∃ o : Obj, A.heap[r]? = some o ∧ o.isCells = false := fun r e => (hr r e).2
        exact ⟨B6, h1, cell_kept h2 hg hr', cell_kept h3 hg hr', h4⟩) ?assign ?body ?done ?stop
    case assign =>
      intro l pre x X K hI hK
      obtain ⟨⟨A1, C1, i1, i2, i3, i4⟩, i5⟩ := hI
      have hXb := i5.size
      gi_wp2
      refine hK _ _ ((KeepsOthers.alloc _ _).from _) ?_ ?_ ?_
      · exact KeepF.alloc_ _ (by omega) (by omega) _
      · exact ⟨⟨A1, C1, kept_alloc i1 _, by simpa using (Below.refl X.heap.size X).alloc (Nat.le_refl _) _ |>.frozen (p := ⟨w1.heap.size, 0, none⟩) (by simp; omega) |>.trans i2, i3.same fun g _ ⟨o, ho, _⟩ => Below.heap_alloc _ _ _ (Array.getElem?_eq_some_iff.1 ho).1, by simp; omega⟩, i5.alloc (by omega) _⟩
      · exact ⟨X.heap.size, by omega, (Bx.new _ _ _).at_ 0 rfl, (Bx.new _ _ _).at_ 1 rfl, rfl⟩
    case body =>
      rintro l pre x a' X hl ⟨r, hr⟩ ⟨⟨A1, C1, i1, i2, i3, i4⟩, hB⟩ ⟨B6, hB6, r0, r1, rfl⟩ hlen
      have hmo : Try.prog.follows .mixedOrders = true := by kernel_rfl
      have q3 : B6 < X.heap.size := World.block_lt_of_cell? _ _ r0
      have hXb := hB.size
      gi_wp2
      obtain ⟨lo, hi, hlo, hhi, hlX, row, hcells⟩ := i3.row (by omega)
      have hlen2 : (turned pre).length ≤ 6 := by rw [turned, List.length_map]; omega
      have k0 := kept_all i1
      refine wpIn_region_marked (fun w' => Below X.heap.size X w') 4 hmo (by kernel_rfl) (fun _ _ h => h) ?_
      have hb0 : Below X.heap.size X X.drew := (Below.refl _ _).drew
      refine wpAnyM_take (i := 0) (v := ?_) rfl (by kernel_rfl) (by kernel_rfl) (by kernel_rfl) (by kernel_rfl) (by kernel_rfl) (fun _ _ _ h => h) hb0 (.inl ⟨by rfl, ?_⟩) ?_
      rotate_left 1
      · intro w' hS'; go_simp; try with_reducible rfl
      simp only [Act.put, List.setIfInBounds_toArray]
      clear k0
      refine wpAnyM_one (i := 1) (by kernel_rfl) rfl (by rfl) (fun K hK => ?_)
      go_simp
      refine hK _ _ (.inr hb0) ?_
      clear hK K
      try simp only [Act.put, List.setIfInBounds_toArray]
      refine wpAnyM_one (i := 2) (by kernel_rfl) rfl (by rfl) (fun K hK => ?_)
      go_simp
      refine (back_any x.2.1 X.drew).mono ?_
      rintro e w2 ⟨rfl, hb2⟩
      replace hb2 : Below X.heap.size X w2 := hb0.trans (hb2.mono (by simp))
      refine hK _ _ (.inr hb2) ?_
      clear hK K
      try simp only []
      refine wpAnyM_one (i := 3) (by kernel_rfl) rfl (by rfl) (fun K hK => ?_)
      go_simp
      have hs2 := hb2.size
      have hb3 : Below X.heap.size X (w2.alloc (.cells #[.int .i64 x.2.1.2, .int .i64 x.2.1.1] 76)) := hb2.alloc hs2 _
      refine hK _ _ (.inr hb3) ?_
      clear hK K
      try simp only [Act.put, List.setIfInBounds_toArray]
      refine wpAnyM_one (i := 4) (by kernel_rfl) rfl (by rfl) (fun K hK => ?_)
      refine wp_appR (.tmp 14) (.tmp 17) 24 76 rfl (.agg #[.int .i64 0, .int .i64 0]) 2 16 Try.underlying24 info_GearPair rfl (by omega) (by omega) rfl ((row.below hb2).alloc _) ⟨w2.heap.size, 0, none⟩ 1 1 (flat pairF [swapP x.2.1]) rfl rfl ?_ flat_mem (by omega) (by simp; omega) ?_
      · intro i u hu
        have hbx := Bx.new w2 #[.int .i64 x.2.1.2, .int .i64 x.2.1.1] 76
        match i, hu with
        | 0, hu => simp [flat, pairF, swapP] at hu; subst hu; exact hbx.at_ 0 rfl
        | 1, hu => simp [flat, pairF, swapP] at hu; subst hu; exact hbx.at_ 1 rfl
      intro A' C' w5 row5 ht5
      have hs5 := ht5.size
      simp only [World.size_alloc] at hs5
      have hX5 : ∀ k, k < X.heap.size → k < lo ∨ hi ≤ k → w5.heap[k]? = X.heap[k]? := fun k hk hd => (ht5.block k (by simp; omega) hd).trans (hb3.block k hk)
      have hX6 : X.heap.size ≤ w5.heap.size := by omega
      have c5 : w5.cell? ⟨w1.heap.size, 0, none⟩ = some (.slice A1 (turned pre).length C1) := (World.cell?_of_block (hX5 w1.heap.size (by omega) (.inl (by omega)))).trans i1
      have f5 : w5.frozen? ⟨w1.heap.size, 0, none⟩ = false := (World.frozen?_of_block (hX5 w1.heap.size (by omega) (.inl (by omega)))).trans i2
      refine hK _ _ (.inl rfl) ?_
      clear hK K
      try simp only [Act.put, List.setIfInBounds_toArray]
      refine wpAnyM_one (i := 5) (by kernel_rfl) rfl (by rfl) (fun K hK => ?_)
      go_simp
      refine hK _ _ (.inl rfl) ?_
      clear hK K
      refine wpAnyM_done (by kernel_rfl) ?_ _
      have hbX : Below (w1.heap.size + 2) X w5 := ⟨ht5.os.trans hb3.os, ht5.tape.trans hb3.tape, ht5.output.trans hb3.output, hX6, fun k hk => hX5 k (by omega) (.inl (by omega))⟩
      have ow5 : OwnF pairF 76 w5 lo w5.heap.size (.slice A' ((turned pre).length + 1) C') (turned pre ++ [swapP x.2.1]) := ⟨by rw [flat_append, List.length_append]; exact row5, by rw [List.length_append]; simp; omega⟩
      obtain ⟨g', rfl, hg1, hg2, nar⟩ := ow5.narrow (by simp)
      refine ⟨⟨by simp; omega, fun k o hk hko hno => ?_⟩, ⟨?_, ?_⟩, ⟨some ⟨g', 0, none⟩, C', ?_, ?_, ?_, by simp; omega⟩, ?_⟩
      · have hkX : k < X.heap.size := (Array.getElem?_eq_some_iff.1 hko).1
        have hd : k < lo ∨ hi ≤ k := by
          rcases Nat.lt_or_ge k lo with h1 | h1
          · exact .inl h1
          · rcases Nat.lt_or_ge k hi with h2 | h2
            · obtain ⟨cur, hcur⟩ := hcells k h1 h2
              rw [hcur] at hko
              injection hko with hko
              subst hko
              simp [Obj.isCells] at hno
            · exact .inr h2
        rw [Below.heap_setCell _ _ _ _ (by simp; omega), hX5 k hkX hd, hko]
      · exact ((hbX.mono (by omega)).setCell (by simp; omega) _)
      · rw [Below.heap_setCell _ _ _ _ (by simp)]; exact hX5 (w1.heap.size + 1) (by omega) (.inl (by omega))
      · rw [turned_snoc, List.length_append]; exact cell_put c5 _
      · exact thaw_set f5 _ _
      · rw [turned_snoc]
        refine .inr ⟨g', rfl, by omega, ?_⟩
        rw [List.length_append]
        exact nar.setCell (by simp; omega) _
      · exact (hB.trans (hbX.mono (by omega))).setCell (by simp; omega) _
    case done =>
      rintro D ys X hD rfl ⟨⟨A1, C1, i1, i2, i3, i4⟩, hB⟩ hK
      rw [turned_all] at i1 i3
      gi_wp2
      refine ⟨by simp, .inl ⟨_, _, rfl, run_takeDeferred hK, ?_⟩⟩
      have hbD := belowK_b (w := w) (Nat.le_refl _) X D _ (.deferred none) (by omega) hK rfl rfl
      have hXs := hB.size
      have g3 := (i3.same (w' := X.putObj D (.deferred none)) fun g _ ⟨o, ho, hc⟩ => grownBy_keeps_cells (grownBy_putObj' X D (.deferred none)) (fun r e => by cases e; exact ⟨_, hK, rfl⟩) ho hc).own (by have := hbD.size; omega)
      exact ⟨.tuple #[.slice A1 (backL xs).length C1, .int .i64 0], by simp [results, Try.f22, go_sem], paC_ok HR.out rfl rfl g3 (by omega) (Nat.le_refl _) (hB.trans hbD)⟩
    case stop =>
      rintro D c pre X hD _ hF
      exact hF.elim
end Go.Proofs.Ytaefgkhbgljkoaa
