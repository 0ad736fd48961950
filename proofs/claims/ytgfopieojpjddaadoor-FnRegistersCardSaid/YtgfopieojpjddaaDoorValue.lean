/-
  (impl.digitRow).value: the value of digits, from the highest one on; it stops where it is too great.
-/
import Derived.Test.YtgfopieojpjddaaDoorBack
namespace Go.Proofs.YtgfopieojpjddaaDoor
open Go.RowKit Go.Shelf

attribute [local go_sem] Oper.semAt_some

/-- A digit of a base up to 16. -/
def isDig (b d : Int) : Prop := 0 ≤ d ∧ d < b

set_option maxRecDepth 100000 in
set_option maxHeartbeats 2000000 in
theorem value_in (F : Fence) (n : Nat) (hf : F.fn 87) (hf1 : F.fn 132) (hf2 : F.fn 155) (hro : F.round = none) (hn : 3 ≤ n)
    (b : Int) (a : Option Addr) (cap : Nat) (zs : List Int) (w : World) (hb1 : 2 ≤ b) (hb2 : b ≤ 16) (hd : ∀ d ∈ zs, isDig b d) (hR : Rd w a zs) :
    CallsIn F n Tryd.prog 87 #[.slice a zs.length cap, .int .i64 b] w fun e W' =>
      e = .returned (.tuple #[.int .i64 (valOr b zs), .bool (valOk b zs)]) ∧ Below w.heap.size w W' := by
  have h1 : 1 ≤ n := by omega
  refine callsIn_of_wp_marks Tryd.func87 rfl hf ?_ hro
  simp only [Tryd.ntmps87, List.size_toArray, List.length_cons, List.length_nil, Nat.reduceAdd, Nat.reduceSub, Array.replicate_succ, Array.replicate_zero, List.push_toArray, List.append_toArray, List.nil_append, List.cons_append]
  gi_wp2_with (gi_at_call 132; refine (backward_in F (n - 1) hf1 hro _ _ _ _).mono ?_; rintro e w' ⟨rfl, rfl⟩)
  obtain ⟨W0, hW0⟩ : ∃ W0, W0 = ((((w.alloc (.cells #[.int .i64 b] 2)).alloc (.cells #[.int .i64 0] 2)).alloc (.cells #[.bool false] 4)).alloc (.cells #[.int .i64 0] 2)).alloc (.cells #[.slice a zs.length cap] 112) := ⟨_, rfl⟩
  rw [← hW0]
  have bx0 : Bx W0 w.heap.size 2 #[.int .i64 b] := by rw [hW0]; exact ((((Bx.new _ _ _).alloc _).alloc _).alloc _).alloc _
  have bx1 : Bx W0 (w.heap.size + 1) 2 #[.int .i64 0] := by rw [hW0]; exact ((by simpa using Bx.new (w.alloc (.cells #[.int .i64 b] 2)) #[.int .i64 0] 2 : Bx _ (w.heap.size + 1) _ _).alloc _).alloc _ |>.alloc _
  have bx2 : Bx W0 (w.heap.size + 1 + 1) 4 #[.bool false] := by rw [hW0]; exact ((by simpa using Bx.new ((w.alloc (.cells #[.int .i64 b] 2)).alloc (.cells #[.int .i64 0] 2)) #[.bool false] 4 : Bx _ (w.heap.size + 1 + 1) _ _).alloc _).alloc _
  have bx3 : Bx W0 (w.heap.size + 1 + 1 + 1) 2 #[.int .i64 0] := by rw [hW0]; exact (by simpa using Bx.new (((w.alloc (.cells #[.int .i64 b] 2)).alloc (.cells #[.int .i64 0] 2)).alloc (.cells #[.bool false] 4)) #[.int .i64 0] 2 : Bx _ (w.heap.size + 1 + 1 + 1) _ _).alloc _
  have bx4 : Bx W0 (w.heap.size + 1 + 1 + 1 + 1) 112 #[.slice a zs.length cap] := by rw [hW0]; simpa using Bx.new ((((w.alloc (.cells #[.int .i64 b] 2)).alloc (.cells #[.int .i64 0] 2)).alloc (.cells #[.bool false] 4)).alloc (.cells #[.int .i64 0] 2)) #[.slice a zs.length cap] 112
  have hB0 : Below w.heap.size w W0 := by rw [hW0]; exact (by repeat (first | exact Below.refl _ _ | refine Below.setCell ?_ (by first | omega | (simp <;> omega)) _ | refine Below.alloc ?_ (by first | omega | (simp <;> omega)) _ | refine Below.drew ?_))
  have hsz : W0.heap.size = w.heap.size + 5 := by rw [hW0]; simp
  clear hW0
  refine wpIn_rangeFunc_ownF hro h1 (gf := 155) (lb := #[.pointer (some ⟨w.heap.size + 1 + 1 + 1 + 1, 0, none⟩)]) rfl hf2 (enters_of Tryd.func155 (by kernel_rfl) rfl)
    (backward_stops F (n - 1) hf2 hro (by omega) (w.heap.size + 1 + 1 + 1 + 1) w.heap.size a cap zs hd W0 (by omega) (bx4.at_ 0 rfl) (hR.below hB0) (fun hne b' off ha => by
      obtain ⟨b'', off', e, hc⟩ := hR.cells hne
      rw [ha] at e
      cases e
      exact World.block_lt_of_cell? _ _ (hc 0 (List.length_pos_iff.2 hne)))) keepB_t (keepB_b (by omega) (by omega)) (Below.refl _ _) (fun _ => rfl)
    (fun pre W => ((0 ≤ hor b pre ∧ hor b pre ≤ 1000000000000) ∧ W.cell? ⟨w.heap.size, 0, none⟩ = some (.int .i64 b) ∧ W.cell? ⟨w.heap.size + 1, 0, none⟩ = some (.int .i64 0) ∧ W.frozen? ⟨w.heap.size + 1, 0, none⟩ = false ∧ W.cell? ⟨w.heap.size + 1 + 1, 0, none⟩ = some (.bool false) ∧ W.frozen? ⟨w.heap.size + 1 + 1, 0, none⟩ = false ∧
        W.cell? ⟨w.heap.size + 1 + 1 + 1, 0, none⟩ = some (.int .i64 (hor b pre)) ∧ W.frozen? ⟨w.heap.size + 1 + 1 + 1, 0, none⟩ = false) ∧ Below w.heap.size w W)
    (fun c pre W => (c = .ret ∧ 1000000000000 < hor b pre ∧ W.cell? ⟨w.heap.size + 1, 0, none⟩ = some (.int .i64 0) ∧ W.cell? ⟨w.heap.size + 1 + 1, 0, none⟩ = some (.bool false)) ∧ Below w.heap.size w W)
    (OwnFrom.and (Own.from (fun s A B row hs hg hr => ⟨hs.1, cell_kept hs.2.1 hg hr, cell_kept hs.2.2.1 hg hr, (frozen_kept hs.2.2.1 hg hr).trans hs.2.2.2.1, cell_kept hs.2.2.2.2.1 hg hr, (frozen_kept hs.2.2.2.2.1 hg hr).trans hs.2.2.2.2.2.1, cell_kept hs.2.2.2.2.2.2.1 hg hr, (frozen_kept hs.2.2.2.2.2.2.1 hg hr).trans hs.2.2.2.2.2.2.2⟩) _) (ownFrom_below (Nat.le_refl _) (by omega)))
    (fun c => OwnFrom.and (Own.from (fun s A B row hs hg hr => ⟨hs.1, hs.2.1, cell_kept hs.2.2.1 hg hr, cell_kept hs.2.2.2 hg hr⟩) _) (ownFrom_below (Nat.le_refl _) (by omega)))
    ⟨⟨⟨by simp [hor], by simp [hor]⟩, bx0.at_ 0 rfl, bx1.at_ 0 rfl, bx1.thaw 0, bx2.at_ 0 rfl, bx2.thaw 0, by simpa [hor] using bx3.at_ 0 rfl, bx3.thaw 0⟩, hB0⟩
    (fun x => { tmps := #[.slice a zs.length cap, .int .i64 b, undef, .pointer (some ⟨w.heap.size, 0, none⟩), .pointer (some ⟨w.heap.size + 1, 0, none⟩), .pointer (some ⟨w.heap.size + 1 + 1, 0, none⟩), .pointer (some ⟨w.heap.size + 1 + 1 + 1, 0, none⟩), undef, .int .i64 x.2.1, .slice a zs.length cap,
        .func (.func 155) #[] #[.pointer (some ⟨w.heap.size + 1 + 1 + 1 + 1, 0, none⟩)], .int .i64 (x.1 : Int), .int .i64 x.2.1, undef, undef, undef, undef, undef, undef, undef, undef], defers := [] }) ?assign ?body ?done ?stop
  case assign =>
    intro l x W K hK
    gi_wp2
    exact hK
  case body =>
    rintro l pre x W ⟨⟨⟨hl1, hl2⟩, c0, c1, f1, c2, f2, c3, f3⟩, hB⟩ _
    obtain ⟨x1, x2, hx1, hx2⟩ := x
    have hm1 : 0 ≤ hor b pre * b := Int.mul_nonneg hl1 (by omega)
    have hm2 : hor b pre * b ≤ 1000000000000 * 16 := Int.mul_le_mul hl2 hb2 (by omega) (by omega)
    by_cases hc : hor b pre * b + x2 ≤ 1000000000000
    · gi_wp2
      exact ⟨KeepsOthers.setCell _ _ _, KeepB.set_ W (by simp <;> omega) (by simp) _, ⟨by rw [hor_snoc]; exact ⟨by simp <;> omega, hc⟩, cell_far c0 (by simp <;> omega) _, cell_far c1 (by simp <;> omega) _, thaw_set f1 _ _, cell_far c2 (by simp) _, thaw_set f2 _ _,
        by rw [hor_snoc]; exact cell_put c3 _, thaw_set f3 _ _⟩, hB.setCell (by simp <;> omega) _⟩
    · gi_wp2
      refine ⟨((KeepsOthers.setCell _ _ _).trans (KeepsOthers.setCell _ _ _)).trans (KeepsOthers.setCell _ _ _), ⟨rfl, by rw [hor_snoc]; show 1000000000000 < hor b pre * b + x2; omega, ?_, ?_⟩, (by repeat (first | exact hB | refine Below.setCell ?_ (by first | omega | (simp <;> omega)) _ | refine Below.alloc ?_ (by first | omega | (simp <;> omega)) _ | refine Below.drew ?_))⟩
      · exact cell_far (cell_put (cell_far c1 (by simp <;> omega) _) _) (by simp) _
      · exact cell_put (cell_far (cell_far c2 (by simp) _) (by simp) _) _
  case done =>
    rintro D ys W hD rfl ⟨⟨⟨hl1, hl2⟩, c0, c1, f1, c2, f2, c3, f3⟩, hB⟩ hK
    rw [hor_bwd b (Nat.le_refl _), Nat.sub_self, List.drop_zero] at hl1 hl2 c3
    have HO := Lib.hid (valOr_le hl2)
    have HK := Lib.hid (valOk_le hl2)
    gi_wp2
    have hK' := (((KeepsOthers.setCell W ⟨w.heap.size + 1, 0, none⟩ (.int .i64 (valR b zs))).trans (KeepsOthers.setCell _ ⟨w.heap.size + 1 + 1, 0, none⟩ (.bool true)))).same D _ hK rfl
    refine ⟨by simp, .inl ⟨_, _, rfl, run_takeDeferred hK', ?_⟩⟩
    have r1 := cell_kept (cell_far (cell_put c1 (.int .i64 (valR b zs))) (p := ⟨w.heap.size + 1 + 1, 0, none⟩) (by simp) (.bool true)) (grownBy_putObj' _ D (.deferred none)) (fun r e => by cases e; exact ⟨_, hK', rfl⟩)
    have r2 := cell_kept (cell_put (cell_far c2 (p := ⟨w.heap.size + 1, 0, none⟩) (by simp) (.int .i64 (valR b zs))) (.bool true)) (grownBy_putObj' _ D (.deferred none)) (fun r e => by cases e; exact ⟨_, hK', rfl⟩)
    refine ⟨.tuple #[.int .i64 (valR b zs), .bool true], ?_, by rw [HO.out, HK.out], ((hB.setCell (p := ⟨w.heap.size + 1, 0, none⟩) (by simp) _).setCell (p := ⟨w.heap.size + 1 + 1, 0, none⟩) (by simp <;> omega) _).trans (belowK_b (w := w) (Nat.le_refl _) _ D _ _ (by omega) hK' rfl rfl)⟩
    simp [results, Tryd.f87, go_sem, r1, r2]
  case stop =>
    rintro D c pre W hD ⟨k, hk, rfl⟩ ⟨⟨rfl, hlt, c1, c2⟩, hB⟩ hK
    rw [hor_bwd b hk] at hlt
    have hgt := Int.lt_of_lt_of_le hlt (valR_drop_le (by omega : 1 ≤ b) zs (zs.length - k) hd)
    have HO := Lib.hid (valOr_gt hgt)
    have HK := Lib.hid (valOk_gt hgt)
    gi_wp2
    refine ⟨by simp, .inl ⟨_, _, rfl, run_takeDeferred hK, ?_⟩⟩
    have r1 := cell_kept c1 (grownBy_putObj' _ D (.deferred none)) (fun r e => by cases e; exact ⟨_, hK, rfl⟩)
    have r2 := cell_kept c2 (grownBy_putObj' _ D (.deferred none)) (fun r e => by cases e; exact ⟨_, hK, rfl⟩)
    refine ⟨.tuple #[.int .i64 0, .bool false], ?_, by rw [HO.out, HK.out], hB.trans (belowK_b (w := w) (Nat.le_refl _) W D _ _ (by omega) hK rfl rfl)⟩
    simp [results, Tryd.f87, go_sem, r1, r2]

theorem value_any (b : Int) (a : Option Addr) (cap : Nat) (zs : List Int) (w : World) (hb1 : 2 ≤ b) (hb2 : b ≤ 16) (hd : ∀ d ∈ zs, 0 ≤ d ∧ d < b) (hR : Rd w a zs) :
    Calls Tryd.prog 87 #[.slice a zs.length cap, .int .i64 b] w fun e W' =>
      e = .returned (.tuple #[.int .i64 (valOr b zs), .bool (valOk b zs)]) ∧ Below w.heap.size w W' :=
  callsIn_wide.1 (value_in Fence.wide 3 trivial trivial trivial rfl (Nat.le_refl _) b a cap zs w hb1 hb2 hd hR)
end Go.Proofs.YtgfopieojpjddaaDoor
