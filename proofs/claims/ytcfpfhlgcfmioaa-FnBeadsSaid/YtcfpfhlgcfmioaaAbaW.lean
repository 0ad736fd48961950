/-
  impl.AbacusValue.
-/
import Derived.Test.YtcfpfhlgcfmioaaBackR
import Derived.Test.YtcfpfhlgcfmioaaAbaI
namespace Go.Proofs.Ytcfpfhlgcfmioaa
open Go.RowKit Go.Shelf

attribute [local go_sem] Oper.semAt_some

set_option maxHeartbeats 400000 in
theorem shows_in (Fe : Fence) (n : Nat) (hF : Fe.fn 92) (hro : Fe.round = none) (r : Int × Int) (W : Int) (w : World) (m0 : 0 ≤ r.1 * W) (m1 : r.1 * W ≤ 40) (r0 : 0 ≤ r.2) (r1 : r.2 ≤ 12) :
    CallsIn Fe n Try.prog 92 #[.agg #[.int .i64 r.1, .int .i64 r.2], .int .i64 W] w fun e w' => e = .returned (.int .i64 (showR W r)) ∧ w' = w.alloc (.cells #[.int .i64 r.1, .int .i64 r.2] 102) := by
  refine callsIn_of_wp Try.func92 rfl hF ?_ hro
  simp only [Try.ntmps92, List.size_toArray, List.length_cons, List.length_nil, Nat.reduceAdd, Nat.reduceSub, Array.replicate_succ, Array.replicate_zero, List.push_toArray, List.append_toArray, List.nil_append, List.cons_append]
  gi_wp2
  go_ret
  exact ⟨ret_int rfl, rfl⟩

/-- The value of what has come from the highest rod on. -/
def horR {p : Int × Int → Prop} (W : Int) (pre : List (EntF p)) : Int := pre.foldl (fun t x => t * 10 + showR W x.2.1) 0
theorem horR_snoc {p : Int × Int → Prop} (W : Int) (pre : List (EntF p)) (x : EntF p) : horR W (pre ++ [x]) = horR W pre * 10 + showR W x.2.1 := by simp [horR]
theorem abaV_foldr (W : Int) : ∀ (rs : List (Int × Int)), rs.foldr (fun x t => t * 10 + showR W x) 0 = abaV W rs
  | [] => rfl
  | r :: rs => by simp only [List.foldr_cons, abaV_foldr W rs, abaV]; omega
theorem horR_all {p : Int × Int → Prop} (W : Int) {rs : List (Int × Int)} {h : ∀ r ∈ rs, p r} : horR W (bwdF rs h rs.length) = abaV W rs := by
  unfold horR
  rw [bwdF_fold (fun t x => t * 10 + showR W x) 0 (Nat.le_refl _), Nat.sub_self, List.drop_zero, abaV_foldr]
theorem keeps_step {B : Nat} {W W' : World} (h : KeepsOthers W W') : KeepsFrom B W W' := h.from B

set_option maxRecDepth 100000 in
set_option maxHeartbeats 4000000 in
theorem implAbacusValue (U L W : Int) (a : Option Addr) (c : Nat) (rs : List (Int × Int)) (w : World) (ha : RdF pairF w a rs) (bU : I64 U) (bL : I64 L) (bW : I64 W) (z : All2 rs) :
    Calls Try.prog 29 #[.agg #[.int .i64 U, .int .i64 L, .int .i64 W, .slice a rs.length c]] w fun e W' =>
      e = .returned (.tuple #[.int .i64 (avR U L W rs).1, .int .i64 (avR U L W rs).2]) ∧ Below w.heap.size w W' := by
  refine (callsIn_wide (n := 3)).1 ?_
  have hro : Fence.wide.round = none := rfl
  have hf1 : Fence.wide.fn 83 := trivial
  have hf2 : Fence.wide.fn 91 := trivial
  refine callsIn_of_wp_marks Try.func29 rfl trivial ?_ hro
  simp only [Try.ntmps29, List.size_toArray, List.length_cons, List.length_nil, Nat.reduceAdd, Nat.reduceSub, Array.replicate_succ, Array.replicate_zero, List.push_toArray, List.append_toArray, List.nil_append, List.cons_append]
  have hbel : Below w.heap.size w (w.alloc (.cells #[.int .i64 U, .int .i64 L, .int .i64 W, .slice a rs.length c] 26)) := (by repeat (first | exact Below.refl _ _ | refine Below.setCell ?_ (by first | omega | (simp <;> omega)) _ | refine Below.alloc ?_ (by first | omega | (simp <;> omega)) _ | refine Below.drew ?_))
  have bx := Bx.new w #[.int .i64 U, .int .i64 L, .int .i64 W, .slice a rs.length c] 26
  have HV := Lib.hid (implValidAbacus U L W a c rs (w.alloc (.cells #[.int .i64 U, .int .i64 L, .int .i64 W, .slice a rs.length c] 26)) (ha.below hbel) bU bL bW z)
  cases h : abaB U L W rs with
  | false =>
    rw [h] at HV
    have HR := Lib.hid (avR_bad h)
    clear h
    gi_wp2_with (gi_at_call 83; refine (callsIn_wide.2 HV.out).mono ?_; rintro e w1 ⟨rfl, hb1⟩)
    exact ⟨.tuple #[.int .i64 0, .int .i64 1], by simp [results, Try.f29, go_sem], ret_two HR.out, hbel.trans (hb1.mono hbel.size)⟩
  | true =>
    rw [h] at HV
    have HR := Lib.hid (avR_ok h)
    have HA := Lib.hid (aba_of h)
    clear h
    gi_wp2_with (first | (gi_at_call 83; refine (callsIn_wide.2 HV.out).mono ?_; rintro e w1 ⟨rfl, hb1⟩; have bx1 := bx.below hb1; have hz := bx1.lt; have c3 : w1.cell? ⟨w.heap.size, 3, none⟩ = some (.slice a rs.length c) := bx1.at_ 3 rfl; have hbel1 := hbel.trans (hb1.mono hbel.size); have ha1 := ha.below hbel1) | (gi_at_call 91; refine (backR_in Fence.wide _ trivial rfl _ _ _ _).mono ?_; rintro e w' ⟨rfl, rfl⟩))
    obtain ⟨W0, hW0⟩ : ∃ W0, W0 = (w1.alloc (.cells #[.int .i64 0] 2)).alloc (.cells #[.slice a rs.length c] 24) := ⟨_, rfl⟩
    rw [← hW0]
    have bv : Bx W0 w1.heap.size 2 #[.int .i64 0] := by rw [hW0]; exact (Bx.new _ _ _).alloc _
    have bs : Bx W0 (w1.heap.size + 1) 24 #[.slice a rs.length c] := by rw [hW0]; simpa using Bx.new (w1.alloc (.cells #[.int .i64 0] 2)) #[.slice a rs.length c] 24
    have hB0 : Below w1.heap.size w1 W0 := by rw [hW0]; exact (by repeat (first | exact Below.refl _ _ | refine Below.setCell ?_ (by first | omega | (simp <;> omega)) _ | refine Below.alloc ?_ (by first | omega | (simp <;> omega)) _ | refine Below.drew ?_))
    have hsz : W0.heap.size = w1.heap.size + 2 := by rw [hW0]; simp
    have bx2 := bx1.below hB0
    have hB1 := hbel1.trans (hB0.mono hbel1.size)
    have ha2 := ha1.below hB0
    clear hW0
    have hAr : ∀ r ∈ rs, rodB U L r = true := rodsB_true HA.out.rods
    have n10 := HA.out.n1
    have hu1 := HA.out.u1
    have hl1 := HA.out.l1
    have hw0 := HA.out.w0
    have hw1 := HA.out.w1
    refine wpIn_rangeFunc_ownH hro (by omega) (gf := 133) (lb := #[.pointer (some ⟨w1.heap.size + 1, 0, none⟩)]) rfl trivial (enters_of Try.func133 (by kernel_rfl) rfl)
      (backR_stops Fence.wide _ trivial rfl (by omega) (w1.heap.size + 1) w.heap.size a c rs hAr W0 (by omega) (bs.at_ 0 rfl) ha2 (fun hne b' off hab => by
        obtain ⟨b'', off', e, hc⟩ := ha.cells hne
        rw [hab] at e
        cases e
        have h0 : 0 < rs.length := List.length_pos_iff.2 hne
        exact World.block_lt_of_cell? _ _ (hc 0 _ (elt_some (F := pairF) h0) 0 _ rfl))) keepF_t (keepF_b (by omega) (by omega)) (Below.refl _ _) (fun _ => rfl)
      (fun pre X => ((0 ≤ horR W pre ∧ horR W pre ≤ topV pre.length) ∧ X.cell? ⟨w.heap.size, 2, none⟩ = some (.int .i64 W) ∧ X.cell? ⟨w1.heap.size, 0, none⟩ = some (.int .i64 (horR W pre)) ∧ X.frozen? ⟨w1.heap.size, 0, none⟩ = false ∧ w1.heap.size + 2 ≤ X.heap.size) ∧ Below w.heap.size w X)
      (fun _ _ _ => False)
      (OwnFrom.and (Own.from (fun s A B row hs hg hr => ⟨hs.1, cell_kept hs.2.1 hg hr, cell_kept hs.2.2.1 hg hr, (frozen_kept hs.2.2.1 hg hr).trans hs.2.2.2.1, Nat.le_trans hs.2.2.2.2 hg.size⟩) _) (ownFrom_below (Nat.le_refl _) (by omega)))
      (fun _ _ _ _ _ hs _ _ => hs)
      ⟨⟨⟨by simp [horR], by simp [horR, topV]⟩, bx2.at_ 2 rfl, by simpa [horR] using bv.at_ 0 rfl, bv.thaw 0, by omega⟩, hB1⟩
      (fun x a' X => ∃ B6, w1.heap.size < B6 ∧ X.cell? ⟨B6, 0, none⟩ = some (.int .i64 x.2.1.1) ∧ X.cell? ⟨B6, 1, none⟩ = some (.int .i64 x.2.1.2) ∧ a' = { tmps := #[.agg #[.int .i64 U, .int .i64 L, .int .i64 W, .slice a rs.length c], .pointer (some ⟨w.heap.size, 0, none⟩), .int .i64 0, .int .i64 0, .pointer (some ⟨w1.heap.size, 0, none⟩), undef, .pointer (some ⟨B6, 0, none⟩), .agg #[.int .i64 U, .int .i64 L, .int .i64 W, .slice a rs.length c],
          .bool true, .bool false, .pointer (some ⟨w.heap.size, 3, none⟩), .slice a rs.length c, .func (.func 133) #[] #[.pointer (some ⟨w1.heap.size + 1, 0, none⟩)], .int .i64 (x.1 : Int), .agg #[.int .i64 x.2.1.1, .int .i64 x.2.1.2], undef, undef, undef, undef, undef, undef, undef, undef], defers := [] })
      (fun x a' _ A B row hs hg hr => by
        obtain ⟨B6, h1, h2, h3, h4⟩ := hs
        have hr' : ∀ r, row = some r → ∃ o : Obj, A.heap[r]? = some o ∧ o.isCells = false := fun r e => (hr r e).2
        exact ⟨B6, h1, cell_kept h2 hg hr', cell_kept h3 hg hr', h4⟩) ?assign ?body ?done ?stop
    case assign =>
      intro l pre x X K hI hK
      have hXs := hI.1.2.2.2.2
      have hXb := hI.2.size
      gi_wp2
      refine hK _ _ ((KeepsOthers.alloc _ _).from _) ?_ ?_ ?_
      · exact KeepF.alloc_ _ (by omega) (by omega) _
      · exact ⟨⟨hI.1.1, kept_alloc hI.1.2.1 _, kept_alloc hI.1.2.2.1 _, by simpa using (Below.refl X.heap.size X).alloc (Nat.le_refl _) _ |>.frozen (p := ⟨w1.heap.size, 0, none⟩) (by simp; omega) |>.trans hI.1.2.2.2.1, by simp; omega⟩, hI.2.alloc (by omega) _⟩
      · exact ⟨X.heap.size, by omega, (Bx.new _ _ _).at_ 0 rfl, (Bx.new _ _ _).at_ 1 rfl, rfl⟩
    case body =>
      rintro l pre x a' X hl ⟨r, hr⟩ ⟨⟨⟨pl1, pl2⟩, c2, cv, fv, hXs⟩, hB⟩ ⟨B6, hB6, r0, r1, rfl⟩ hlen
      have hn0 := topV_le (n := pre.length) (by omega)
      obtain ⟨m0, m1, s0, s1⟩ := show_bd hu1 hl1 hw0 hw1 x.2.2
      obtain ⟨g1, g2, g3, g4⟩ := rodB_true x.2.2
      have gg : x.2.1.2 ≤ 12 := by omega
      have q1 : w1.heap.size < X.heap.size := by omega
      have q2 : w.heap.size < X.heap.size := by omega
      have q3 : B6 < X.heap.size := World.block_lt_of_cell? _ _ r0
      have hmo : Try.prog.follows .mixedOrders = true := by kernel_rfl
      have hf3 : Fence.wide.fn 92 := trivial
      have hv1 : IntKind.i64.wrap (horR W pre * 10) = horR W pre * 10 := IntWalk.i64_in _ (by omega)
      have hv2 : IntKind.i64.wrap (IntKind.i64.wrap (horR W pre * 10) + showR W x.2.1) = horR W (pre ++ [x]) := by rw [hv1, horR_snoc]; exact IntWalk.i64_in _ (by omega)
      have HFIN : KeepsFrom W0.heap.size X ((X.setCell ⟨w1.heap.size, 0, none⟩ (.int .i64 (IntKind.i64.wrap (IntKind.i64.wrap (horR W pre * 10) + showR W x.2.1)))).alloc (.cells #[.int .i64 x.2.1.1, .int .i64 x.2.1.2] 102)).drew ∧
          KeepF w.heap.size (w1.heap.size + 1) X ((X.setCell ⟨w1.heap.size, 0, none⟩ (.int .i64 (IntKind.i64.wrap (IntKind.i64.wrap (horR W pre * 10) + showR W x.2.1)))).alloc (.cells #[.int .i64 x.2.1.1, .int .i64 x.2.1.2] 102)).drew ∧
          (((0 ≤ horR W (pre ++ [x]) ∧ horR W (pre ++ [x]) ≤ topV (pre ++ [x]).length) ∧ ((X.setCell ⟨w1.heap.size, 0, none⟩ (.int .i64 (IntKind.i64.wrap (IntKind.i64.wrap (horR W pre * 10) + showR W x.2.1)))).alloc (.cells #[.int .i64 x.2.1.1, .int .i64 x.2.1.2] 102)).drew.cell? ⟨w.heap.size, 2, none⟩ = some (.int .i64 W) ∧
            ((X.setCell ⟨w1.heap.size, 0, none⟩ (.int .i64 (IntKind.i64.wrap (IntKind.i64.wrap (horR W pre * 10) + showR W x.2.1)))).alloc (.cells #[.int .i64 x.2.1.1, .int .i64 x.2.1.2] 102)).drew.cell? ⟨w1.heap.size, 0, none⟩ = some (.int .i64 (horR W (pre ++ [x]))) ∧
            ((X.setCell ⟨w1.heap.size, 0, none⟩ (.int .i64 (IntKind.i64.wrap (IntKind.i64.wrap (horR W pre * 10) + showR W x.2.1)))).alloc (.cells #[.int .i64 x.2.1.1, .int .i64 x.2.1.2] 102)).drew.frozen? ⟨w1.heap.size, 0, none⟩ = false ∧
            w1.heap.size + 2 ≤ ((X.setCell ⟨w1.heap.size, 0, none⟩ (.int .i64 (IntKind.i64.wrap (IntKind.i64.wrap (horR W pre * 10) + showR W x.2.1)))).alloc (.cells #[.int .i64 x.2.1.1, .int .i64 x.2.1.2] 102)).drew.heap.size) ∧
            Below w.heap.size w ((X.setCell ⟨w1.heap.size, 0, none⟩ (.int .i64 (IntKind.i64.wrap (IntKind.i64.wrap (horR W pre * 10) + showR W x.2.1)))).alloc (.cells #[.int .i64 x.2.1.1, .int .i64 x.2.1.2] 102)).drew) := by
        rw [hv2]
        have hb3 : Below (X.setCell ⟨w1.heap.size, 0, none⟩ (.int .i64 (horR W (pre ++ [x])))).heap.size (X.setCell ⟨w1.heap.size, 0, none⟩ (.int .i64 (horR W (pre ++ [x])))) ((X.setCell ⟨w1.heap.size, 0, none⟩ (.int .i64 (horR W (pre ++ [x])))).alloc (.cells #[.int .i64 x.2.1.1, .int .i64 x.2.1.2] 102)).drew := ((Below.refl _ _).alloc (Nat.le_refl _) _).drew
        refine ⟨(((KeepsOthers.setCell _ _ _).trans (KeepsOthers.alloc _ _)).trans (KeepsOthers.drew _)).from _, keepF_t (KeepF.set_ X (by simp; omega) (by simp) _) (KeepF.of_below hb3 (by simp; omega) (by simp; omega)), ⟨⟨?_, ?_⟩, ?_, ?_, ?_, by simp; omega⟩, (((hB.setCell (by simp; omega) _).alloc (by simp; omega) _).drew)⟩
        · rw [horR_snoc]; omega
        · rw [horR_snoc, List.length_append, List.length_singleton, topV]; omega
        · exact kept hb3 (cell_far c2 (by simp; omega) _)
        · exact kept hb3 (cell_put cv _)
        · exact (hb3.frozen (p := ⟨w1.heap.size, 0, none⟩) (by simp; omega)).trans (thaw_set fv _ _)
      have HF := Lib.hid HFIN
      clear HFIN hv1 hv2
      gi_wp2
      gi_region_with_o (gi_at_call 92; refine (CallsIn.inRound l (shows_in Fence.wide _ trivial rfl _ _ _ m0 m1 g3 gg)).mono ?_; rintro e w' ⟨rfl, rfl⟩)
      all_goals exact HF.out
    case done =>
      rintro D ys X hD rfl ⟨⟨⟨pl1, pl2⟩, c2, cv, fv, hXs⟩, hB⟩ hK
      rw [horR_all] at cv
      gi_wp2
      refine ⟨by simp, .inl ⟨_, _, rfl, run_takeDeferred hK, ?_⟩⟩
      exact ⟨.tuple #[.int .i64 (abaV W rs), .int .i64 0], by simp [results, Try.f29, go_sem], ret_two HR.out, hB.trans (belowK_b (w := w) (Nat.le_refl _) _ D _ _ (by omega) hK rfl rfl)⟩
    case stop =>
      rintro D c pre X hD _ hF
      exact hF.elim
end Go.Proofs.Ytcfpfhlgcfmioaa
