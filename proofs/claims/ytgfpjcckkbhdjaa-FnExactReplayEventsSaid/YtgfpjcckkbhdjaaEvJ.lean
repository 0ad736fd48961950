/-
  impl: wheels at rest, the register that wheels show.
-/
import Derived.Test.YtgfpjcckkbhdjaaEvI
import Derived.Test.YtgfpjcckkbhdjaaCloneI
import Derived.Test.YtgfpjcckkbhdjaaFin
import Derived.Test.YtgfpjcckkbhdjaaFlat
namespace Go.Proofs.Ytgfpjcckkbhdjaa
open Go.RowKit

def boolF : Flat Bool := ⟨1, fun b => [.bool b], false, fun _ => rfl, fun _ v hv => by simp at hv; subst hv; rfl, by omega⟩
theorem info_bool : (Try.prog.info? 4).map (fun i => (i.zero, i.size, i.bytes)) = some (some (.bool false), 1, 1) := by kernel_rfl

/-- make of rows, as an operation of a region that draws. -/
theorem wp_makeF {α : Type} (F : Flat α) {P : Program} {w : World} {o : Oper} {a : Act} {K : Act → World → Prop} {Q : Exit → Act → World → Prop}
    (l c : Operand) (t e : TypeId) (hop : o.op = Op.makeSlice t l c) (h1 : P.underlying t = some (.slice e)) (z0 : Value) (bytes : Nat)
    (hinfo : (P.info? e).map (fun i => (i.zero, i.size, i.bytes)) = some (some z0, F.sz, bytes)) (hz0 : z0.cells.toList = F.cells F.zero) (hby : bytes ≤ 128)
    (n : Nat) (hl : a.eval l = .int .i64 n) (hc : a.eval c = .int .i64 n) (hn : n ≤ 1000000000)
    (hK : ∀ w', OwnF F e w' w.heap.size (w.heap.size + 1) (.slice (some ⟨w.heap.size, 0, none⟩) n n) (padF F n []) → Below w.heap.size w w' → K (a.put o.dst (.slice (some ⟨w.heap.size, 0, none⟩) n n)) w') :
    o.wp P a w K Q := by
  obtain ⟨i, hi1, hi2, hi3, hi4⟩ := info_parts hinfo
  have hb : i.bytes * n ≤ 128 * 1000000000 := Nat.mul_le_mul (by omega) hn
  obtain ⟨w', hrun, hown, hgr⟩ := run_make_full (P := P) w w.heap.size t e i z0 F.sz h1 hi1 hi2 hi3 .i64 .i64 n (by omega) (by unfold maxLen; omega) (Nat.le_refl _)
  rw [made_flat F _ n hz0] at hown
  have hK2 := hK w' (ownF_first ⟨⟨by rw [padF_len (by simp)]; exact hown, fun k hk => (hown.lt k hk).2⟩, by rw [padF_len (by simp)]; exact hn⟩) ((Below.refl _ _).grown hgr (Nat.le_refl _) (by simp))
  unfold Oper.wp
  simp [execOp, hop, hl, hc, hrun, Result.andThen]
  exact hK2

set_option maxRecDepth 100000 in
set_option maxHeartbeats 4000000 in
theorem wwOf_any (B : Int) (A : Option Addr) (C : Nat) (zs : List Int) (w : World) (ha : Rd w A zs) (hne : 0 < zs.length) (hl : zs.length ≤ 16) :
    Calls Try.prog 114 #[.agg #[.int .i64 B, .slice A zs.length C]] w fun e w' => ∃ (g h C' J lo hi : Nat),
      e = .returned (.agg #[.int .i64 B, .slice (some ⟨g, 0, none⟩) zs.length C', .slice (some ⟨h, 0, none⟩) zs.length J, .slice none 0 0]) ∧
      Own 2 w' lo hi (.slice (some ⟨g, 0, none⟩) zs.length C') zs ∧ OwnF boolF 4 w' h (h + 1) (.slice (some ⟨h, 0, none⟩) zs.length J) (padF boolF zs.length []) ∧
      w.heap.size ≤ lo ∧ hi ≤ w'.heap.size ∧ w.heap.size ≤ h ∧ h < w'.heap.size ∧ (hi ≤ h ∨ h < lo) ∧ Below w.heap.size w w' := by
  obtain ⟨r, hr⟩ : ∃ r, r = w.heap.size := ⟨_, rfl⟩
  obtain ⟨u, hu⟩ : ∃ u, u = (w.alloc (.cells #[.int .i64 B, .slice A zs.length C] 26)).alloc (.cells #[.int .i64 0, .slice none 0 0, .slice none 0 0, .slice none 0 0] 122) := ⟨_, rfl⟩
  have b0 : Bx u r 26 #[.int .i64 B, .slice A zs.length C] := by rw [hu, hr]; exact (Bx.new _ _ _).alloc _
  have b1 : Bx u (r + 1) 122 #[.int .i64 0, .slice none 0 0, .slice none 0 0, .slice none 0 0] := by rw [hu, hr]; simpa using Bx.new (w.alloc (.cells #[.int .i64 B, .slice A zs.length C] 26)) #[.int .i64 0, .slice none 0 0, .slice none 0 0, .slice none 0 0] 122
  have hbel : Below w.heap.size w u := by rw [hu]; exact (by repeat (first | exact Below.refl _ _ | refine Below.setCell ?_ (by first | omega | (simp <;> omega)) _ | refine Below.alloc ?_ (by first | omega | (simp <;> omega)) _ | refine Below.drew ?_))
  have hsu : u.heap.size = r + 2 := by rw [hu, hr]; simp
  have hlr : r + 1 < u.heap.size := by omega
  clear hsu
  replace ha := ha.below hbel
  rw [← hr] at hbel
  have HU := Lib.hid hu
  have HR := Lib.hid hr
  clear hu hr
  have k0 : ∀ w', Below u.heap.size u w' → w'.cell? ⟨r, 0, none⟩ = some (.int .i64 B) := kept_all (b0.at_ 0 rfl)
  have k1 : ∀ w', Below u.heap.size u w' → w'.cell? ⟨r, 1, none⟩ = some (.slice A zs.length C) := kept_all (b0.at_ 1 rfl)
  go_enter Try.func114, Try.ntmps114
  go_upto_region 1 with fail
  rw [← HU.out, ← HR.out]
  refine wp_region_marked (fun w' => Below u.heap.size u w') 10 (by kernel_rfl) ?_
  have hS : Below u.heap.size u u.drew := (Below.refl _ _).drew
  refine wpAnyM_take (i := 0) (v := ?_) rfl (by kernel_rfl) (by kernel_rfl) (by kernel_rfl) (by kernel_rfl) (by kernel_rfl) (fun _ _ _ h => h) hS (.inl ⟨by rfl, ?_⟩) ?_
  rotate_left 1
  · intro w' hS'; go_simp; try with_reducible rfl
  simp only [Act.put, List.setIfInBounds_toArray]
  refine wpAnyM_take (i := 1) (v := ?_) rfl (by kernel_rfl) (by kernel_rfl) (by kernel_rfl) (by kernel_rfl) (by kernel_rfl) (fun _ _ _ h => h) hS (.inl ⟨by rfl, ?_⟩) ?_
  rotate_left 1
  · intro w' hS'; go_simp; try with_reducible rfl
  simp only [Act.put]
  refine wpAnyM_take (i := 2) (v := ?_) rfl (by kernel_rfl) (by kernel_rfl) (by kernel_rfl) (by kernel_rfl) (by kernel_rfl) (fun _ _ _ h => h) hS (.inl ⟨by rfl, ?_⟩) ?_
  rotate_left 1
  · intro w' hS'; go_simp; try with_reducible rfl
  simp only [Act.put]
  refine wpAnyM_take (i := 3) (v := ?_) rfl (by kernel_rfl) (by kernel_rfl) (by kernel_rfl) (by kernel_rfl) (by kernel_rfl) (fun _ _ _ h => h) hS (.inl ⟨by rfl, ?_⟩) ?_
  rotate_left 1
  · intro w' hS'; go_simp; try with_reducible rfl
  simp only [Act.put]
  refine wpAnyM_take (i := 5) (v := ?_) rfl (by kernel_rfl) (by kernel_rfl) (by kernel_rfl) (by kernel_rfl) (by kernel_rfl) (fun _ _ _ h => h) hS (.inl ⟨by rfl, ?_⟩) ?_
  rotate_left 1
  · intro w' hS'; go_simp; try with_reducible rfl
  simp only [Act.put]
  refine wpAnyM_take (i := 6) (v := ?_) rfl (by kernel_rfl) (by kernel_rfl) (by kernel_rfl) (by kernel_rfl) (by kernel_rfl) (fun _ _ _ h => h) hS (.inl ⟨by rfl, ?_⟩) ?_
  rotate_left 1
  · intro w' hS'; go_simp; try with_reducible rfl
  simp only [Act.put]
  refine wpAnyM_take (i := 7) (v := ?_) rfl (by kernel_rfl) (by kernel_rfl) (by kernel_rfl) (by kernel_rfl) (by kernel_rfl) (fun _ _ _ h => h) hS (.inl ⟨by rfl, ?_⟩) ?_
  rotate_left 1
  · intro w' hS'; go_simp; try with_reducible rfl
  simp only [Act.put]
  clear k0 k1
  refine wpAnyM_two (i := 4) (j := 8) (by kernel_rfl) rfl rfl (by rfl) (by rfl) (fun K hK => ?_) (fun K hK => ?_)
  · go_simp
    refine (clone_any A C zs u.drew ⟨ha.len, ha.cells⟩ hne).mono ?_
    rintro e w1 ⟨D, E, rfl, ow, hb⟩
    obtain ⟨g, rfl, hg0, hg1, hg2⟩ := ow.head hne
    have hS1 : Below u.heap.size u w1 := hS.trans hb
    have hs1 := hS1.size
    replace hg0 : u.heap.size ≤ g := hg0
    replace ow : Own 2 w1 u.heap.size w1.heap.size (.slice (some ⟨g, 0, none⟩) zs.length E) zs := ow
    refine hK _ _ (.inr hS1) ?_
    try simp only [Act.put, List.setIfInBounds_toArray]
    clear hK K
    refine wpAnyM_one (i := 8) (by kernel_rfl) rfl (by rfl) (fun K hK => ?_)
    refine wp_makeF boolF _ _ 43 4 rfl Try.underlying43 (.bool false) 1 info_bool rfl (by omega) zs.length rfl rfl (by omega) ?_
    intro w2 hw2 hb2
    obtain ⟨H, hH⟩ : ∃ H, H = w1.heap.size := ⟨_, rfl⟩
    replace ow := ow.below hb2
    have hs2 := hb2.size
    have hl2 := hw2.blk
    have hS2 := hS1.trans (hb2.mono hs1)
    rw [← hH] at hw2 hs2 hl2 hg1 hg2 ow hs1 ⊢
    clear hH hb hb2
    replace b1 := b1.below hS2
    refine hK _ _ (.inr hS2) ?_
    try simp only [Act.put, List.setIfInBounds_toArray]
    clear hK K
    refine wpAnyM_one (i := 9) (by kernel_rfl) rfl (by rfl) (fun K hK => ?_)
    go_simp
    refine hK _ _ (.inr hS2) ?_
    try simp only [Act.put, List.setIfInBounds_toArray]
    clear hK K
    have c0 := b1.at_ 0 rfl
    have c1 := b1.at_ 1 rfl
    have c2 := b1.at_ 2 rfl
    have c3 := b1.at_ 3 rfl
    have f0 := b1.thaw 0
    have f1 := b1.thaw 1
    have f2 := b1.thaw 2
    have f3 := b1.thaw 3
    refine wpAnyM_one (i := 10) (by kernel_rfl) rfl (by rfl) (fun K hK => ?_)
    go_simp
    obtain ⟨w8, hw8⟩ : ∃ v, v = (((w2.setCell ⟨r + 1, 0, none⟩ (.int .i64 B)).setCell ⟨r + 1, 1, none⟩ (.slice (some ⟨g, 0, none⟩) zs.length E)).setCell ⟨r + 1, 2, none⟩ (.slice (some ⟨H, 0, none⟩) zs.length zs.length)).setCell ⟨r + 1, 3, none⟩ (.slice none 0 0) := ⟨_, rfl⟩
    rw [← hw8]
    have b9 : Bx w8 (r + 1) 122 #[.int .i64 B, .slice (some ⟨g, 0, none⟩) zs.length E, .slice (some ⟨H, 0, none⟩) zs.length zs.length, .slice none 0 0] := by rw [hw8]; exact (((b1.set_ 0 _).set_ 1 _).set_ 2 _).set_ 3 _
    have t9 : Touch (r + 1) (r + 2) w2 w8 := by rw [hw8]; exact ((((Touch.refl _ _ _).setCell (by simp) (by simp) _).setCell (by simp) (by simp) _).setCell (by simp) (by simp) _).setCell (by simp) (by simp) _
    have hs9 := t9.size
    have ow9 := ow.touch t9 (.inr (by omega))
    have hw9 := hw2.touch t9 (.inr (by omega))
    have hb9 : Below r w w8 := (hbel.trans (hS2.mono (by omega))).trans (t9.below (by omega) (by omega))
    clear hw8 c0 c1 c2 c3 f0 f1 f2 f3
    refine hK _ _ (.inl rfl) ?_
    try simp only [Act.put, List.setIfInBounds_toArray]
    clear hK K
    refine wpAnyM_done (by kernel_rfl) ?_ _
    have c0 := b9.at_ 0 rfl
    have c1 := b9.at_ 1 rfl
    have c2 := b9.at_ 2 rfl
    have c3 := b9.at_ 3 rfl
    go_wp2_with fail
    refine bodyPost_ret (v := .agg #[.int .i64 B, .slice (some ⟨g, 0, none⟩) zs.length E, .slice (some ⟨H, 0, none⟩) zs.length zs.length, .slice none 0 0]) (by simp [results, Try.results114, go_sem, c0, c1, c2, c3]) rfl ?_
    have hr := HR.out
    exact ⟨g, H, E, zs.length, u.heap.size, H, rfl, ow9, hw9, by omega, by omega, by omega, by omega, by omega, by rw [← hr]; exact hb9⟩
  · go_simp
    obtain ⟨i, hi1, hi2, hi3, hi4⟩ := info_parts info_bool
    obtain ⟨w1, hrun, hown, hgr⟩ := run_make_full (P := Try.prog) u.drew u.drew.heap.size 43 4 i (.bool false) boolF.sz Try.underlying43 hi1 hi2 hi3 .i64 .i64 zs.length (by rw [hi4]; omega) (by unfold maxLen; omega) (Nat.le_refl _)
    rw [made_flat boolF (Value.bool false).cells zs.length rfl] at hown
    have hw1 : OwnF boolF 4 w1 u.heap.size (u.heap.size + 1) (.slice (some ⟨u.heap.size, 0, none⟩) zs.length zs.length) (padF boolF zs.length []) := ownF_first ⟨⟨by rw [padF_len (by simp)]; exact hown, fun k hk => (hown.lt k hk).2⟩, by rw [padF_len (by simp)]; omega⟩
    have hb1 : Below u.drew.heap.size u.drew w1 := (Below.refl _ _).grown hgr (Nat.le_refl _) (by simp)
    have hS1 : Below u.heap.size u w1 := hS.trans hb1
    have hs1 := hS1.size
    have hl1 := hw1.blk
    clear hi1 hi2 hi3 hi4 hown hgr
    go_simp
    clear hrun
    obtain ⟨H, hH⟩ : ∃ H, H = u.heap.size := ⟨_, rfl⟩
    rw [← hH] at hw1 hl1 ⊢
    have hH0 : r + 1 < H := by omega
    clear hH
    refine hK _ _ (.inr hS1) ?_
    try simp only [Act.put, List.setIfInBounds_toArray]
    clear hK K hb1
    refine wpAnyM_one (i := 4) (by kernel_rfl) rfl (by rfl) (fun K hK => ?_)
    go_simp
    refine (clone_any A C zs w1 (ha.below hS1) hne).mono ?_
    rintro e w2 ⟨D, E, rfl, ow, hb⟩
    obtain ⟨g, rfl, hg0, hg1, hg2⟩ := ow.head hne
    have hw2 := hw1.below hb
    have hs2 := hb.size
    have hS2 := hS1.trans (hb.mono hs1)
    replace b1 := b1.below hS2
    clear hb hw1
    refine hK _ _ (.inr hS2) ?_
    try simp only [Act.put, List.setIfInBounds_toArray]
    clear hK K
    refine wpAnyM_one (i := 9) (by kernel_rfl) rfl (by rfl) (fun K hK => ?_)
    go_simp
    refine hK _ _ (.inr hS2) ?_
    try simp only [Act.put, List.setIfInBounds_toArray]
    clear hK K
    have c0 := b1.at_ 0 rfl
    have c1 := b1.at_ 1 rfl
    have c2 := b1.at_ 2 rfl
    have c3 := b1.at_ 3 rfl
    have f0 := b1.thaw 0
    have f1 := b1.thaw 1
    have f2 := b1.thaw 2
    have f3 := b1.thaw 3
    refine wpAnyM_one (i := 10) (by kernel_rfl) rfl (by rfl) (fun K hK => ?_)
    go_simp
    obtain ⟨w8, hw8⟩ : ∃ v, v = (((w2.setCell ⟨r + 1, 0, none⟩ (.int .i64 B)).setCell ⟨r + 1, 1, none⟩ (.slice (some ⟨g, 0, none⟩) zs.length E)).setCell ⟨r + 1, 2, none⟩ (.slice (some ⟨H, 0, none⟩) zs.length zs.length)).setCell ⟨r + 1, 3, none⟩ (.slice none 0 0) := ⟨_, rfl⟩
    rw [← hw8]
    have b9 : Bx w8 (r + 1) 122 #[.int .i64 B, .slice (some ⟨g, 0, none⟩) zs.length E, .slice (some ⟨H, 0, none⟩) zs.length zs.length, .slice none 0 0] := by rw [hw8]; exact (((b1.set_ 0 _).set_ 1 _).set_ 2 _).set_ 3 _
    have t9 : Touch (r + 1) (r + 2) w2 w8 := by rw [hw8]; exact ((((Touch.refl _ _ _).setCell (by simp) (by simp) _).setCell (by simp) (by simp) _).setCell (by simp) (by simp) _).setCell (by simp) (by simp) _
    have hs9 := t9.size
    have ow9 := ow.touch t9 (.inr (by omega))
    have hw9 := hw2.touch t9 (.inr (by omega))
    have hb9 : Below r w w8 := (hbel.trans (hS2.mono (by omega))).trans (t9.below (by omega) (by omega))
    clear hw8 c0 c1 c2 c3 f0 f1 f2 f3
    refine hK _ _ (.inl rfl) ?_
    try simp only [Act.put, List.setIfInBounds_toArray]
    clear hK K
    refine wpAnyM_done (by kernel_rfl) ?_ _
    have c0 := b9.at_ 0 rfl
    have c1 := b9.at_ 1 rfl
    have c2 := b9.at_ 2 rfl
    have c3 := b9.at_ 3 rfl
    go_wp2_with fail
    refine bodyPost_ret (v := .agg #[.int .i64 B, .slice (some ⟨g, 0, none⟩) zs.length E, .slice (some ⟨H, 0, none⟩) zs.length zs.length, .slice none 0 0]) (by simp [results, Try.results114, go_sem, c0, c1, c2, c3]) rfl ?_
    have hr := HR.out
    exact ⟨g, H, E, zs.length, w1.heap.size, w2.heap.size, rfl, ow9, hw9, by omega, by omega, by omega, by omega, by omega, by rw [← hr]; exact hb9⟩

end Go.Proofs.Ytgfpjcckkbhdjaa
