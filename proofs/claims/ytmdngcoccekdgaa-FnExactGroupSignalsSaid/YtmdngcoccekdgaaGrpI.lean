/-
  The groups of digits that the program makes.
-/
import Derived.Test.YtmdngcoccekdgaaChunk
import Derived.Test.YtmdngcoccekdgaaWhole
import Derived.Test.YtmdngcoccekdgaaGrow
import Derived.Test.YtmdngcoccekdgaaOrdIn
import Derived.Conc.SmallLaws
namespace Go.Proofs.Ytmdngcoccekdgaa
open Go.RowKit Go.Shelf

attribute [local go_sem] Oper.semAt_some

/-- Pointers to boxes. -/
def ptrF : Flat Nat := ⟨1, fun g => [.pointer (some ⟨g, 0, none⟩)], 0, fun _ => rfl, fun _ v hv => by simp at hv; subst hv; rfl, by omega⟩
theorem info_ptrG : (Try.prog.info? 127).map (fun i => (i.zero, i.size, i.bytes)) = some (some (.pointer none), 1, 8) := by kernel_rfl
theorem make_ch (w : World) : (Instr.makeChan 165 (.int .i64 1)).run Try.prog w = .ok (.chan (some w.heap.size)) (w.alloc (.chan 1 #[] false 0 0 false)) := by
  have h : (Try.prog.info? 2).map (·.bytes) = some 8 := by kernel_rfl
  obtain ⟨i, hi, hb⟩ := Option.map_eq_some_iff.1 h
  simpa using Conc.run_makeChan (P := Try.prog) (w := w) Try.underlying165 hi .i64 1 (by omega) (by rw [hb]; omega)
/-- A group as it has been made. -/
def NewG (X : World) (b off : Nat) (g : Nat) (x : Nat × Nat) : Prop := ∃ ch, Bx X g 179 #[.slice (some ⟨b, off + x.1 * 2, none⟩) x.2 x.2, .int .u32 0, .int .i32 0, .int .u32 0, .slice none 0 0, ch, .slice none 0 0]
/-- The groups of these pieces, each in a box of its own, the later the higher. -/
def Groups (X : World) (L b off : Nat) : List (Nat × Nat) → List Nat → Prop
  | [], [] => True
  | x :: xs, g :: gs => NewG X b off g x ∧ L ≤ g ∧ (∀ g' ∈ gs, g < g') ∧ Groups X L b off xs gs
  | _, _ => False
theorem Groups.len {X : World} {L b off : Nat} : ∀ {xs : List (Nat × Nat)} {gs : List Nat}, Groups X L b off xs gs → gs.length = xs.length
  | [], [], _ => rfl
  | x :: xs, g :: gs, h => by simp [Groups.len h.2.2.2]
  | [], _ :: _, h => h.elim
  | _ :: _, [], h => h.elim
theorem Groups.lt {X : World} {L b off : Nat} : ∀ {xs : List (Nat × Nat)} {gs : List Nat}, Groups X L b off xs gs → ∀ g ∈ gs, g < X.heap.size
  | [], [], _, _, h => by simp at h
  | x :: xs, g :: gs, h, k, hk => by
    rcases List.mem_cons.1 hk with rfl | hk
    · obtain ⟨ch, hb⟩ := h.1; exact hb.lt
    · exact Groups.lt h.2.2.2 k hk
  | [], _ :: _, h, _, _ => h.elim
  | _ :: _, [], h, _, _ => h.elim
theorem Groups.same {X Y : World} {L b off : Nat} (hs : ∀ (k : Nat) cur, L ≤ k → X.heap[k]? = some (.cells cur 179 (0, 0)) → Y.heap[k]? = X.heap[k]?) : ∀ {xs : List (Nat × Nat)} {gs : List Nat}, Groups X L b off xs gs → Groups Y L b off xs gs
  | [], [], _ => trivial
  | x :: xs, g :: gs, h => by
    obtain ⟨⟨ch, hb⟩, h1, h2, h3⟩ := h
    exact ⟨⟨ch, (hs g _ h1 hb).trans hb⟩, h1, h2, Groups.same hs h3⟩
  | [], _ :: _, h => h.elim
  | _ :: _, [], h => h.elim
theorem Groups.snoc {X : World} {L b off : Nat} {x : Nat × Nat} {g : Nat} (hx : NewG X b off g x) (hL : L ≤ g) : ∀ {xs : List (Nat × Nat)} {gs : List Nat}, Groups X L b off xs gs → (∀ g' ∈ gs, g' < g) → Groups X L b off (xs ++ [x]) (gs ++ [g])
  | [], [], _, _ => ⟨hx, hL, by simp, trivial⟩
  | y :: xs, k :: gs, h, hg => by
    refine ⟨h.1, h.2.1, fun g' hg' => ?_, Groups.snoc hx hL h.2.2.2 fun g' h' => hg g' (List.mem_cons_of_mem _ h')⟩
    rcases List.mem_append.1 hg' with h' | h'
    · exact h.2.2.1 g' h'
    · rw [List.mem_singleton] at h'; subst h'; exact hg k (List.mem_cons_self ..)
  | [], _ :: _, h, _ => h.elim
  | _ :: _, [], h, _ => h.elim

theorem Groups.mono {X : World} {L L' b off : Nat} (hL : L' ≤ L) : ∀ {xs : List (Nat × Nat)} {gs : List Nat}, Groups X L b off xs gs → Groups X L' b off xs gs
  | [], [], _ => trivial
  | _ :: _, _ :: _, h => ⟨h.1, Nat.le_trans hL h.2.1, h.2.2.1, Groups.mono hL h.2.2.2⟩
  | [], _ :: _, h => h.elim
  | _ :: _, [], h => h.elim

set_option maxRecDepth 100000 in
set_option maxHeartbeats 4000000 in
theorem groupsOf_any (b off c m len : Nat) (hm : 1 ≤ m) (hm2 : m ≤ 16) (hl : len ≤ 16) (hc : len ≤ c) (w : World) (_ : b < w.heap.size) :
    Calls Try.prog 96 #[.slice (some ⟨b, off, none⟩) len c, .int .i64 m] w fun e w' => ∃ A C gs k, e = .returned (.slice A gs.length C) ∧ (len ≤ k * m ∧ ∀ j, j < k → j * m < len) ∧
      OwnF ptrF 127 w' w.heap.size w'.heap.size (.slice A gs.length C) gs ∧ Groups w' w.heap.size b off (cks m len k) gs ∧ Below w.heap.size w w' := by
  refine (callsIn_wide (n := 3)).1 ?_
  have hro : Fence.wide.round = none := rfl
  have hf1 : Fence.wide.fn 123 := trivial
  refine callsIn_of_wp_marks Try.func96 rfl trivial ?_ hro
  simp only [Try.ntmps96, List.size_toArray, List.length_cons, List.length_nil, Nat.reduceAdd, Nat.reduceSub, Array.replicate_succ, Array.replicate_zero, List.push_toArray, List.append_toArray, List.nil_append, List.cons_append]
  gi_wp2_with (gi_at_call 123; refine (chunk_in Fence.wide _ trivial rfl _ _ _ _ hm _).mono ?_; rintro e w' ⟨rfl, rfl⟩)
  obtain ⟨W0, hW0⟩ : ∃ W0, W0 = ((w.alloc (.cells #[.slice none 0 0] 125)).alloc (.cells #[.slice (some ⟨b, off, none⟩) len c] 73)).alloc (.cells #[.int .i64 m] 3) := ⟨_, rfl⟩
  rw [← hW0]
  have bv : Bx W0 w.heap.size 125 #[.slice none 0 0] := by rw [hW0]; exact ((Bx.new _ _ _).alloc _).alloc _
  have bs : Bx W0 (w.heap.size + 1) 73 #[.slice (some ⟨b, off, none⟩) len c] := by rw [hW0]; simpa using (Bx.new (w.alloc (.cells #[.slice none 0 0] 125)) #[.slice (some ⟨b, off, none⟩) len c] 73).alloc (.cells #[.int .i64 m] 3)
  have bn : Bx W0 (w.heap.size + 1 + 1) 3 #[.int .i64 m] := by rw [hW0]; simpa using Bx.new ((w.alloc (.cells #[.slice none 0 0] 125)).alloc (.cells #[.slice (some ⟨b, off, none⟩) len c] 73)) #[.int .i64 m] 3
  have hB0 : Below w.heap.size w W0 := by rw [hW0]; exact (by repeat (first | exact Below.refl _ _ | refine Below.setCell ?_ (by first | omega | (simp <;> omega)) _ | refine Below.alloc ?_ (by first | omega | (simp <;> omega)) _ | refine Below.drew ?_))
  have hsz : W0.heap.size = w.heap.size + 3 := by rw [hW0]; simp
  clear hW0
  refine wpIn_rangeFunc_ownH hro (by omega) (gf := 133) (lb := #[.pointer (some ⟨w.heap.size + 1, 0, none⟩), .pointer (some ⟨w.heap.size + 1 + 1, 0, none⟩)]) rfl trivial (enters_of Try.func133 (by kernel_rfl) rfl)
    (chunk_stops Fence.wide _ trivial rfl (by omega) (w.heap.size + 1) w.heap.size b off c m len hm hm2 (by omega) hc W0 (by omega) (bs.at_ 0 rfl) (bn.at_ 0 rfl)) keepC_t (keepC_b (by omega) (by omega)) (Below.refl _ _) (fun _ => rfl)
    (fun pre X => ((∃ A C gs, X.cell? ⟨w.heap.size, 0, none⟩ = some (.slice A gs.length C) ∧ X.frozen? ⟨w.heap.size, 0, none⟩ = false ∧ GrowF ptrF 127 (w.heap.size + 3) X A C gs ∧ Groups X (w.heap.size + 3) b off pre gs ∧ w.heap.size + 3 ≤ X.heap.size) ∧ Below w.heap.size w X))
    (fun _ _ _ => False)
    (OwnFrom.and (Own.from (fun s A B row hs hg hr => by
      obtain ⟨A1, C1, gs, h1, h2, h3, h4, h5⟩ := hs
      exact ⟨A1, C1, gs, cell_kept h1 hg hr, (frozen_kept h1 hg hr).trans h2, h3.same fun k o _ ho hc => grownBy_keeps_cells hg hr ho hc, Groups.same (fun k cur _ hk => grownBy_keeps_cells hg hr hk rfl) h4, Nat.le_trans h5 hg.size⟩) _) (ownFrom_below (Nat.le_refl _) (by omega)))
    (fun _ _ _ _ _ hs _ _ => hs)
    ⟨⟨none, 0, [], bv.at_ 0 rfl, bv.thaw 0, .inl ⟨rfl, rfl, rfl⟩, trivial, by omega⟩, hB0⟩
    (fun x a' _ => a' = { tmps := #[.slice (some ⟨b, off, none⟩) len c, .int .i64 m, undef, undef, .slice none 0 0, .pointer (some ⟨w.heap.size, 0, none⟩), .slice (some ⟨b, off + x.1 * 2, none⟩) x.2 x.2, .slice (some ⟨b, off, none⟩) len c, .int .i64 m,
        .func (.func 133) #[] #[.pointer (some ⟨w.heap.size + 1, 0, none⟩), .pointer (some ⟨w.heap.size + 1 + 1, 0, none⟩)], .slice (some ⟨b, off + x.1 * 2, none⟩) x.2 x.2, undef, undef, undef, undef, undef, undef, undef, undef], defers := [] })
    (fun x a' _ A B row hs hg hr => hs) ?assign ?body ?done ?stop
  case assign =>
    intro l pre x X K hI hK
    gi_wp2
    exact hK _ _ ((KeepsOthers.refl _).from _) (KeepC.refl _ _ _) hI rfl
  case body =>
    rintro l pre x a' X hl ⟨r, hr⟩ ⟨⟨A1, C1, gs, i1, i2, i3, i4, i5⟩, hB⟩ rfl hlen
    have hmo : Try.prog.follows .mixedOrders = true := by kernel_rfl
    have hXb := hB.size
    have HG := Lib.hid i4.len
    have hg16 : gs.length ≤ 16 := by rw [HG.out]; omega
    gi_wp2
    obtain ⟨lo, hi, hlo, hhi, hlX, row, hcells⟩ := i3.row i5
    have k0 := kept_all i1
    refine wpIn_region_marked (fun w' => Below X.heap.size X w') 6 hmo (by kernel_rfl) (fun _ _ h => h) ?_
    have hb0 : Below X.heap.size X X.drew := (Below.refl _ _).drew
    refine wpAnyM_take (i := 0) (v := ?_) rfl (by kernel_rfl) (by kernel_rfl) (by kernel_rfl) (by kernel_rfl) (by kernel_rfl) (fun _ _ _ h => h) hb0 (.inl ⟨by rfl, ?_⟩) ?_
    rotate_left 1
    · intro w' hS'; go_simp; try with_reducible rfl
    simp only [Act.put, List.setIfInBounds_toArray]
    refine wpAnyM_takeC (i := 1) (v := ?_) 20 rfl (by kernel_rfl) (by kernel_rfl) (by kernel_rfl) (by kernel_rfl) (by kernel_rfl) (by kernel_rfl) (fun _ _ _ h => h) hb0 (.inl ⟨by rfl, ?_⟩) ?_
    rotate_left 1
    · intro w' hS'; go_simp; try with_reducible rfl
    simp only [Act.put]
    clear k0
    refine wpAnyM_one (i := 2) (by kernel_rfl) rfl (by rfl) (fun K hK => ?_)
    go_simp
    rw [make_ch]
    go_simp
    have hb1 : Below X.heap.size X (X.alloc (.chan 1 #[] false 0 0 false)).drew := ((Below.refl _ _).alloc (Nat.le_refl _) _).drew
    refine hK _ _ (.inr hb1) ?_
    clear hK K
    try simp only [Act.put, List.setIfInBounds_toArray]
    obtain ⟨v1, hv1⟩ : ∃ v1, v1 = (X.alloc (.chan 1 #[] false 0 0 false)).drew := ⟨_, rfl⟩
    rw [← hv1] at hb1 ⊢
    have hs1 : X.heap.size ≤ v1.heap.size := hb1.size
    clear hv1
    refine wpAnyM_one (i := 3) (by kernel_rfl) rfl (by rfl) (fun K hK => ?_)
    go_simp
    refine hK _ _ (.inr hb1) ?_
    clear hK K
    try simp only [Act.put, List.setIfInBounds_toArray]
    refine wpAnyM_one (i := 4) (by kernel_rfl) rfl (by rfl) (fun K hK => ?_)
    go_simp
    obtain ⟨g, hg⟩ : ∃ g, g = v1.heap.size := ⟨_, rfl⟩
    obtain ⟨v2, hv2⟩ : ∃ v2, v2 = v1.alloc (.cells #[.slice (some ⟨b, off + x.1 * 2, none⟩) x.2 x.2, .int .u32 0, .int .i32 0, .int .u32 0, .slice none 0 0, .chan (some X.heap.size), .slice none 0 0] 179) := ⟨_, rfl⟩
    have bg : Bx v2 g 179 #[.slice (some ⟨b, off + x.1 * 2, none⟩) x.2 x.2, .int .u32 0, .int .i32 0, .int .u32 0, .slice none 0 0, .chan (some X.heap.size), .slice none 0 0] := by rw [hv2, hg]; exact Bx.new _ _ _
    have hb2 : Below X.heap.size X v2 := by rw [hv2]; exact hb1.alloc hs1 _
    have hs2 : v2.heap.size = g + 1 := by rw [hv2, hg]; simp
    have hgX : X.heap.size ≤ g := by omega
    rw [← hv2, ← hg]
    clear hv2 hg
    refine hK _ _ (.inr hb2) ?_
    clear hK K
    try simp only [Act.put, List.setIfInBounds_toArray]
    refine wpAnyM_one (i := 5) (by kernel_rfl) rfl (by rfl) (fun K hK => ?_)
    go_simp
    have hb3 : Below X.heap.size X (v2.alloc (.cells #[.pointer (some ⟨g, 0, none⟩)] 127)) := hb2.alloc (by omega) _
    refine hK _ _ (.inr hb3) ?_
    clear hK K
    try simp only [Act.put, List.setIfInBounds_toArray]
    refine wpAnyM_one (i := 6) (by kernel_rfl) rfl (by rfl) (fun K hK => ?_)
    refine wp_appR (.tmp 11) (.tmp 16) 125 127 rfl (.pointer none) 1 8 Try.underlying125 info_ptrG rfl (by omega) (by omega) rfl ((row.below hb2).alloc _) ⟨g + 1, 0, none⟩ 1 1 (flat ptrF [g]) rfl rfl ?_ flat_mem (by omega) (by simp; omega) ?_
    · intro i u hu
      have hbx := Bx.new v2 #[.pointer (some ⟨g, 0, none⟩)] 127
      rw [hs2] at hbx
      match i, hu with
      | 0, hu => simp [flat, ptrF] at hu; subst hu; exact hbx.at_ 0 rfl
    intro A' C' w5 row5 ht5
    have hs5 := ht5.size
    simp only [World.size_alloc] at hs5
    have hhX : hi ≤ X.heap.size := by
      rcases Nat.lt_or_ge lo hi with h1 | h1
      · obtain ⟨cur, hcur⟩ := hcells lo (Nat.le_refl _) h1
        have := (Array.getElem?_eq_some_iff.1 hcur).1
        omega
      · omega
    have hX3 : ∀ k, k ≤ g → k < lo ∨ hi ≤ k → w5.heap[k]? = v2.heap[k]? := fun k hk hd => (ht5.block k (by simp; omega) hd).trans (Below.heap_alloc _ _ _ (by omega))
    have hX5 : ∀ k, k < X.heap.size → k < lo ∨ hi ≤ k → w5.heap[k]? = X.heap[k]? := fun k hk hd => (hX3 k (by omega) hd).trans (hb2.block k hk)
    have hX6 : X.heap.size ≤ w5.heap.size := by omega
    have c5 : w5.cell? ⟨w.heap.size, 0, none⟩ = some (.slice A1 gs.length C1) := (World.cell?_of_block (hX5 w.heap.size (by omega) (.inl (by omega)))).trans i1
    have f5 : w5.frozen? ⟨w.heap.size, 0, none⟩ = false := (World.frozen?_of_block (hX5 w.heap.size (by omega) (.inl (by omega)))).trans i2
    have bg5 := (hX3 g (Nat.le_refl _) (.inr (by omega))).trans bg
    refine hK _ _ (.inl rfl) ?_
    clear hK K
    try simp only [Act.put, List.setIfInBounds_toArray]
    refine wpAnyM_one (i := 7) (by kernel_rfl) rfl (by rfl) (fun K hK => ?_)
    go_simp
    refine hK _ _ (.inl rfl) ?_
    clear hK K
    refine wpAnyM_done (by kernel_rfl) ?_ _
    have hbX : Below (w.heap.size + 3) X w5 := ⟨ht5.os.trans hb3.os, ht5.tape.trans hb3.tape, ht5.output.trans hb3.output, hX6, fun k hk => hX5 k (by omega) (.inl (by omega))⟩
    have ow5 : OwnF ptrF 127 w5 lo w5.heap.size (.slice A' (gs.length + 1) C') (gs ++ [g]) := ⟨by rw [flat_append, List.length_append]; exact row5, by rw [List.length_append]; simp; omega⟩
    have hlt := i4.lt
    rcases ow5.narrowF with ⟨e1, _⟩ | ⟨g', rfl, hg1, hg2, nar⟩
    · simp at e1
    have hgr : Groups w5 (w.heap.size + 3) b off (pre ++ [x]) (gs ++ [g]) := Groups.snoc ⟨_, bg5⟩ (by omega) (Groups.same (fun k cur hk hcur => hX5 k (Array.getElem?_eq_some_iff.1 hcur).1 (by
      rcases Nat.lt_or_ge k lo with h1 | h1
      · exact .inl h1
      · rcases Nat.lt_or_ge k hi with h2 | h2
        · obtain ⟨cur', hcur'⟩ := hcells k h1 h2
          rw [hcur'] at hcur
          injection hcur with hcur
          injection hcur with _ h3 _
          exact absurd h3 (by decide)
        · exact .inr h2)) i4) (fun k hk => by have := hlt k hk; omega)
    refine ⟨⟨by simp; omega, fun k o hk hko hno => ?_⟩, ⟨⟨?_, ?_⟩, ⟨?_, ?_⟩⟩, ⟨some ⟨g', 0, none⟩, C', gs ++ [g], ?_, ?_, ?_, ?_, by simp; omega⟩, ?_⟩
    · have hkX : k < X.heap.size := (Array.getElem?_eq_some_iff.1 hko).1
      have hd : k < lo ∨ hi ≤ k := by
        rcases Nat.lt_or_ge k lo with h1 | h1
        · exact .inl h1
        · rcases Nat.lt_or_ge k hi with h2 | h2
          · obtain ⟨cur, hcur⟩ := hcells k h1 h2
            rw [hcur] at hko
            injection hko with hko
            subst hko
            simp [Obj.isCells] at hno
          · exact .inr h2
      rw [Below.heap_setCell _ _ _ _ (by simp; omega), hX5 k hkX hd, hko]
    · exact (hbX.mono (by omega)).setCell (by simp) _
    · rw [Below.heap_setCell _ _ _ _ (by simp)]; exact hX5 (w.heap.size + 1) (by omega) (.inl (by omega))
    · exact (hbX.mono (by omega)).setCell (by simp) _
    · rw [Below.heap_setCell _ _ _ _ (by simp; omega)]; exact hX5 (w.heap.size + 1 + 1) (by omega) (.inl (by omega))
    · rw [List.length_append]; exact cell_put c5 _
    · exact thaw_set f5 _ _
    · refine .inr ⟨g', rfl, by omega, ?_⟩
      rw [List.length_append]
      exact nar.setCell (by simp; omega) _
    · exact Groups.same (fun k cur hk _ => Below.heap_setCell _ _ _ _ (by simp; omega)) hgr
    · exact (hB.trans (hbX.mono (by omega))).setCell (by simp) _
  case done =>
    rintro D ys X hD ⟨k, hk1, hk2, rfl⟩ ⟨⟨A1, C1, gs, i1, i2, i3, i4, i5⟩, hB⟩ hK
    gi_wp2
    refine ⟨by simp, .inl ⟨_, _, rfl, run_takeDeferred hK, ?_⟩⟩
    have hbD := belowK_b (w := w) (Nat.le_refl _) X D _ (.deferred none) (by omega) hK rfl rfl
    have hXs := hB.size
    have hs : ∀ (k : Nat) (o : Obj), X.heap[k]? = some o → o.isCells = true → (X.putObj D (.deferred none)).heap[k]? = X.heap[k]? := fun k o ho hc => grownBy_keeps_cells (grownBy_putObj' X D (.deferred none)) (fun r e => by cases e; exact ⟨_, hK, rfl⟩) ho hc
    have g3 := (i3.same fun k o _ => hs k o).own (by have := hbD.size; omega)
    have g4 := Groups.same (fun k cur _ hk => hs k _ hk rfl) i4
    exact ⟨.slice A1 gs.length C1, by simp [results, Try.f96, go_sem], A1, C1, gs, k, rfl, ⟨hk1, hk2⟩, g3.wide (by omega) (Nat.le_refl _), Groups.mono (by omega) g4, hB.trans hbD⟩
  case stop =>
    rintro D c pre X hD _ hF
    exact hF.elim
end Go.Proofs.Ytmdngcoccekdgaa
