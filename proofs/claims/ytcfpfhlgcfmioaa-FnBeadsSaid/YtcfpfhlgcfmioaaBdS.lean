/-
  spec.l03S.add: adds a digit to a plain rod of an abacus of its own.
-/
import Derived.Test.YtcfpfhlgcfmioaaAbaU
import Derived.Test.YtcfpfhlgcfmioaaBdA
import Derived.Test.YtcfpfhlgcfmioaaBdG
import Derived.Deep.Cut
import Derived.RegionTactic
namespace Go.Proofs.Ytcfpfhlgcfmioaa
open Go.RowKit

/-- Between p and q nothing has turned. -/
def Mid (p q : Nat) (w w' : World) : Prop := ∀ b, p < b → b < q → w'.heap[b]? = w.heap[b]?
theorem Mid.refl (p q : Nat) (w : World) : Mid p q w w := fun _ _ _ => rfl
theorem Mid.trans {p q : Nat} {a b c : World} (h : Mid p q a b) (k : Mid p q b c) : Mid p q a c := fun i h1 h2 => (k i h1 h2).trans (h i h1 h2)
theorem Mid.of_below {p q : Nat} {w w' : World} (h : Below q w w') : Mid p q w w' := fun i _ h2 => h.block i h2
theorem Mid.setCell {p q : Nat} {a w : World} (h : Mid p q a w) {x : Addr} (hx : x.block ≤ p ∨ q ≤ x.block) (u : Value) : Mid p q a (w.setCell x u) := fun i h1 h2 => (Below.heap_setCell _ _ _ _ (by omega)).trans (h i h1 h2)
theorem Mid.drew {p q : Nat} {a w : World} (h : Mid p q a w) : Mid p q a w.drew := h

/-- What add leaves: whether there were all the rods; the rods, the moves; the box. -/
def AddP (U L W : Int) (A : Option Addr) (C : Nat) (lo hi lo2 p : Nat) (rs : List (Int × Int)) (k : Nat) (d : Int) (ms : List (Int × Int × Int)) (w : World) (e : Ending) (w' : World) : Prop :=
  e = .returned (.bool (addD U W rs k d).2.2) ∧ ∃ LA LC, Bx w' p 116 #[.int .i64 U, .int .i64 L, .int .i64 W, .slice A rs.length C, .slice LA (ms ++ (addD U W rs k d).2.1).length LC] ∧
    OwnF pairF 102 w' lo hi (.slice A rs.length C) (addD U W rs k d).1 ∧ LM w' lo2 w'.heap.size LA LC (ms ++ (addD U W rs k d).2.1) ∧ Below lo w w' ∧ Mid p lo2 w w'
theorem addP_none {U L W : Int} {A : Option Addr} {C lo hi lo2 hi2 p : Nat} {rs : List (Int × Int)} {k : Nat} {d : Int} {ms : List (Int × Int × Int)} {w : World} {e : Ending} {b : Bool} {LA : Option Addr} {LC : Nat} (h : addD U W rs k d = (rs, [], b)) (he : e = .returned (.bool b))
    (bx : Bx w p 116 #[.int .i64 U, .int .i64 L, .int .i64 W, .slice A rs.length C, .slice LA ms.length LC]) (ow : OwnF pairF 102 w lo hi (.slice A rs.length C) rs) (ow2 : LM w lo2 hi2 LA LC ms) (hh : hi2 ≤ w.heap.size) :
    AddP U L W A C lo hi lo2 p rs k d ms w e w := by
  unfold AddP
  rw [h]
  refine ⟨he, LA, LC, ?_, ow, ?_, Below.refl _ _, Mid.refl _ _ _⟩
  · simpa using bx
  · simpa using ow2.wide (Nat.le_refl _) hh

theorem info_Move : (Try.prog.info? 37).map (fun i => (i.zero, i.size, i.bytes)) = some (some (.agg #[.int .i64 0, .int .i64 0, .int .i64 0]), 3, 24) := by kernel_rfl
theorem news_move (V : World) (x : Int × Int × Int) : ∀ j u, (flat tripF [x])[j]? = some u → (V.alloc (.cells #[.int .i64 x.1, .int .i64 x.2.1, .int .i64 x.2.2] 37)).cell? ((⟨V.heap.size, 0, none⟩ : Addr).add j) = some u := by
  intro j u h
  have := (Bx.new V #[.int .i64 x.1, .int .i64 x.2.1, .int .i64 x.2.2] 37).cell j
  rw [show (⟨V.heap.size, 0, none⟩ : Addr).add j = ⟨V.heap.size, j, none⟩ by simp [Addr.add]; exact fun e => e.symm, this]
  have h' : [Value.int .i64 x.1, Value.int .i64 x.2.1, Value.int .i64 x.2.2][j]? = some u := h
  simpa using h'
/-- Three boxes as they are. -/
def See3 (p g h : Nat) (t1 t2 t3 : TypeId) (c1 c2 c3 : Array Value) (w : World) : Prop := Bx w p t1 c1 ∧ Bx w g t2 c2 ∧ Bx w h t3 c3
theorem flat3_one (x : Int × Int × Int) : flat tripF [x] = [.int .i64 x.1, .int .i64 x.2.1, .int .i64 x.2.2] := rfl

set_option maxRecDepth 100000 in
set_option maxHeartbeats 4000000 in
theorem l03Add_any (U L W : Int) (A : Option Addr) (C lo hi lo2 p : Nat) (hp : hi ≤ p) (hp2 : p < lo2) : ∀ (f : Nat) (rs : List (Int × Int)) (k : Nat) (d : Int) (ms : List (Int × Int × Int)) (LA : Option Addr) (LC hi2 : Nat) (w : World), rs.length - k ≤ f → Pln U L W rs → 0 ≤ d → d ≤ 9 → k + f ≤ 100 → ms.length + f ≤ 1000 →
    Bx w p 116 #[.int .i64 U, .int .i64 L, .int .i64 W, .slice A rs.length C, .slice LA ms.length LC] → OwnF pairF 102 w lo hi (.slice A rs.length C) rs → LM w lo2 hi2 LA LC ms → lo2 ≤ w.heap.size → hi2 ≤ w.heap.size →
    Calls Try.prog 79 #[.pointer (some ⟨p, 0, none⟩), .int .i64 k, .int .i64 d] w (AddP U L W A C lo hi lo2 p rs k d ms w)
  | f, rs, k, d, ms, LA, LC, hi2, w, hf, hP, d0, d1, hk, hms, bx, ow, ow2, hl2, hh2 => by
    have hxl := ow.len
    by_cases hd : d = 0
    · subst hd
      have HR := Lib.hid (addP_none (p := p) (lo := lo) (hi := hi) (lo2 := lo2) (hi2 := hi2) (L := L) (A := A) (C := C) (LA := LA) (LC := LC) (addD_zero U W rs k) rfl bx ow ow2 hh2)
      have c3 := bx.at_ 3 rfl
      clear ow ow2 bx
      by_cases hlt : k < rs.length
      · go_enter Try.func79, Try.ntmps79
        go_wp2
        go_ret
        exact HR.out
      · go_enter Try.func79, Try.ntmps79
        go_wp2
        go_ret
        exact HR.out
    · have hdb : (d == 0) = false := by simp [hd]
      by_cases hlt : k < rs.length
      · have HP := Lib.hid hP
        have HC := Lib.hid (hP.carry hlt d0 d1)
        have HPS := Lib.hid (hP.set hlt d0 d1)
        obtain ⟨s0, s1⟩ := hP.show hlt
        have HT := Lib.hid (show addT U W rs k d = digP U W ((showR W (elt pairF rs k) + d) % 10) from rfl)
        obtain ⟨s, hs⟩ : ∃ s, s = showR W (elt pairF rs k) := ⟨_, rfl⟩
        have hrb := rodB_true (rodsB_at hP.aba.rods hlt)
        have htb := rodB_true (rodsB_at HPS.out.aba.rods (k := k) (by simpa using hlt))
        have hu1 := hP.aba.u1
        have hll := hP.aba.l1
        have he : elt pairF (rs.set k (addT U W rs k d)) k = addT U W rs k d := by rw [elt_get (F := pairF) (by simpa using hlt)]; simp
        rw [he] at htb
        obtain ⟨t, ht⟩ : ∃ t, t = addT U W rs k d := ⟨_, rfl⟩
        rw [← ht] at htb HT
        have HTT := Lib.hid ht
        have hw1 : IntKind.i64.wrap (s + d) = s + d := IntWalk.i64_in _ (by omega)
        have hrm : (s + d).tmod 10 = (s + d) % 10 := Int.tmod_eq_emod_of_nonneg (by omega)
        have hw3 : IntKind.i64.wrap (t.1 - (elt pairF rs k).1) = t.1 - (elt pairF rs k).1 := IntWalk.i64_in _ (by omega)
        have hw4 : IntKind.i64.wrap (t.2 - (elt pairF rs k).2) = t.2 - (elt pairF rs k).2 := IntWalk.i64_in _ (by omega)
        have at0 : AbaAt w p U L W A rs.length C := ⟨bx.at_ 0 rfl, bx.at_ 1 rfl, bx.at_ 2 rfl, bx.at_ 3 rfl⟩
        have hpz : p < w.heap.size := bx.lt
        have HR := Lib.hid (l03Rod_any p U L W A C rs k w at0 ow.rd HP.out.aba hlt)
        rw [← hs] at HR HC HT
        have HS := Lib.hid hs
        obtain ⟨gb, rfl, l1, l2, l3⟩ := ow.head (by omega)
        have c3 := bx.at_ 3 rfl
        clear hs ht he hP hd at0
        go_enter Try.func79, Try.ntmps79
        go_wp2_with fail
        refine HR.out.mono ?_
        rintro e V ⟨rfl, nn, hVn⟩
        have hbV : Below w.heap.size w V := by rw [hVn]; exact bel_drewN (Below.refl _ _) nn
        clear hVn c3
        replace bx := bx.below hbV
        replace ow := ow.below hbV
        replace ow2 := ow2.below hbV
        have hVz : w.heap.size ≤ V.heap.size := hbV.size
        have HB0 := Lib.hid hbV
        clear hbV HR
        have HD := Lib.hid (l03Digit_any p U L W (some ⟨gb, 0, none⟩) rs.length C ((s + d) % 10) V ⟨bx.at_ 0 rfl, bx.at_ 1 rfl, bx.at_ 2 rfl, bx.at_ 3 rfl⟩ HP.out.aba.u0 HP.out.aba.u1 HP.out.aba.w0 HP.out.aba.w1 (by omega) (by omega))
        go_wp2_with fail
        refine HD.out.mono ?_
        rintro e V2 ⟨rfl, hb2⟩
        rw [← HT.out]
        replace bx := bx.below hb2
        replace ow := ow.below hb2
        replace ow2 := ow2.below hb2
        have hV2z : V.heap.size ≤ V2.heap.size := hb2.size
        have HB2 := Lib.hid (HB0.out.trans (hb2.mono hVz))
        clear hb2 HD
        go_upto_region 7 with fail
        obtain ⟨V3, hV3⟩ : ∃ V3, V3 = V2.alloc (.cells #[.int .i64 t.1, .int .i64 t.2] 102) := ⟨_, rfl⟩
        rw [← hV3]
        have hb3 : Below V2.heap.size V2 V3 := by rw [hV3]; exact (Below.refl _ _).alloc (Nat.le_refl _) _
        have bt : Bx V3 V2.heap.size 102 #[.int .i64 t.1, .int .i64 t.2] := by rw [hV3]; exact Bx.new _ _ _
        clear hV3
        replace bx := bx.below hb3
        replace ow := ow.below hb3
        replace ow2 := ow2.below hb3
        have HB3 := Lib.hid (HB2.out.trans (hb3.mono HB2.out.size))
        have hV3z : V2.heap.size < V3.heap.size := bt.lt
        clear hb3
        obtain ⟨g0, g1⟩ := ow.get2 (k := k) hlt
        have c3 := bx.at_ 3 rfl
        go_upto_region 8 with fail
        obtain ⟨V4, hV4⟩ : ∃ V4, V4 = V3.alloc (.cells #[.int .i64 (elt pairF rs k).1, .int .i64 (elt pairF rs k).2] 102) := ⟨_, rfl⟩
        rw [← hV4]
        have hb4 : Below V3.heap.size V3 V4 := by rw [hV4]; exact (Below.refl _ _).alloc (Nat.le_refl _) _
        have bf : Bx V4 V3.heap.size 102 #[.int .i64 (elt pairF rs k).1, .int .i64 (elt pairF rs k).2] := by rw [hV4]; exact Bx.new _ _ _
        clear hV4 g0 g1 c3
        replace bx := bx.below hb4
        replace ow := ow.below hb4
        replace ow2 := ow2.below hb4
        replace bt := bt.below hb4
        have HB4 := Lib.hid (HB3.out.trans (hb4.mono HB3.out.size))
        have HM4 := Lib.hid (Mid.of_below (p := p) (HB4.out.mono hl2))
        have hV4z : V3.heap.size < V4.heap.size := bf.lt
        clear hb4
        have k0 : ∀ w', See3 p V2.heap.size V3.heap.size 116 102 102 #[.int .i64 U, .int .i64 L, .int .i64 W, .slice (some ⟨gb, 0, none⟩) rs.length C, .slice LA ms.length LC] #[.int .i64 t.1, .int .i64 t.2] #[.int .i64 (elt pairF rs k).1, .int .i64 (elt pairF rs k).2] w' → w'.cell? ⟨p, 4, none⟩ = some (.slice LA ms.length LC) := fun w' h => h.1.at_ 4 rfl
        have k1 : ∀ w', See3 p V2.heap.size V3.heap.size 116 102 102 #[.int .i64 U, .int .i64 L, .int .i64 W, .slice (some ⟨gb, 0, none⟩) rs.length C, .slice LA ms.length LC] #[.int .i64 t.1, .int .i64 t.2] #[.int .i64 (elt pairF rs k).1, .int .i64 (elt pairF rs k).2] w' → w'.cell? ⟨V2.heap.size, 0, none⟩ = some (.int .i64 t.1) := fun w' h => h.2.1.at_ 0 rfl
        have k2 : ∀ w', See3 p V2.heap.size V3.heap.size 116 102 102 #[.int .i64 U, .int .i64 L, .int .i64 W, .slice (some ⟨gb, 0, none⟩) rs.length C, .slice LA ms.length LC] #[.int .i64 t.1, .int .i64 t.2] #[.int .i64 (elt pairF rs k).1, .int .i64 (elt pairF rs k).2] w' → w'.cell? ⟨V2.heap.size, 1, none⟩ = some (.int .i64 t.2) := fun w' h => h.2.1.at_ 1 rfl
        have k3 : ∀ w', See3 p V2.heap.size V3.heap.size 116 102 102 #[.int .i64 U, .int .i64 L, .int .i64 W, .slice (some ⟨gb, 0, none⟩) rs.length C, .slice LA ms.length LC] #[.int .i64 t.1, .int .i64 t.2] #[.int .i64 (elt pairF rs k).1, .int .i64 (elt pairF rs k).2] w' → w'.cell? ⟨V3.heap.size, 0, none⟩ = some (.int .i64 (elt pairF rs k).1) := fun w' h => h.2.2.at_ 0 rfl
        have k4 : ∀ w', See3 p V2.heap.size V3.heap.size 116 102 102 #[.int .i64 U, .int .i64 L, .int .i64 W, .slice (some ⟨gb, 0, none⟩) rs.length C, .slice LA ms.length LC] #[.int .i64 t.1, .int .i64 t.2] #[.int .i64 (elt pairF rs k).1, .int .i64 (elt pairF rs k).2] w' → w'.cell? ⟨V3.heap.size, 1, none⟩ = some (.int .i64 (elt pairF rs k).2) := fun w' h => h.2.2.at_ 1 rfl
        refine wp_region_marked (See3 p V2.heap.size V3.heap.size 116 102 102 #[.int .i64 U, .int .i64 L, .int .i64 W, .slice (some ⟨gb, 0, none⟩) rs.length C, .slice LA ms.length LC] #[.int .i64 t.1, .int .i64 t.2] #[.int .i64 (elt pairF rs k).1, .int .i64 (elt pairF rs k).2]) 21 (by kernel_rfl) ?_
        have hS : See3 p V2.heap.size V3.heap.size 116 102 102 #[.int .i64 U, .int .i64 L, .int .i64 W, .slice (some ⟨gb, 0, none⟩) rs.length C, .slice LA ms.length LC] #[.int .i64 t.1, .int .i64 t.2] #[.int .i64 (elt pairF rs k).1, .int .i64 (elt pairF rs k).2] V4.drew := ⟨bx.drew, bt.drew, bf.drew⟩
        refine wpAnyM_take (i := 0) (v := ?_) rfl (by kernel_rfl) (by kernel_rfl) (by kernel_rfl) (by kernel_rfl) (by kernel_rfl) (fun _ _ _ h => h) hS (.inl ⟨by rfl, ?_⟩) ?_
        rotate_left 1
        · intro w' hS'; go_simp; try with_reducible rfl
        simp only [Act.put, List.setIfInBounds_toArray]
        refine wpAnyM_take (i := 1) (v := ?_) rfl (by kernel_rfl) (by kernel_rfl) (by kernel_rfl) (by kernel_rfl) (by kernel_rfl) (fun _ _ _ h => h) hS (.inl ⟨by rfl, ?_⟩) ?_
        rotate_left 1
        · intro w' hS'; go_simp; try with_reducible rfl
        simp only [Act.put]
        refine wpAnyM_take (i := 2) (v := ?_) rfl (by kernel_rfl) (by kernel_rfl) (by kernel_rfl) (by kernel_rfl) (by kernel_rfl) (fun _ _ _ h => h) hS (.inl ⟨by rfl, ?_⟩) ?_
        rotate_left 1
        · intro w' hS'; go_simp; try with_reducible rfl
        simp only [Act.put]
        refine wpAnyM_take (i := 3) (v := ?_) rfl (by kernel_rfl) (by kernel_rfl) (by kernel_rfl) (by kernel_rfl) (by kernel_rfl) (fun _ _ _ h => h) hS (.inl ⟨by rfl, ?_⟩) ?_
        rotate_left 1
        · intro w' hS'; go_simp; try with_reducible rfl
        simp only [Act.put]
        refine wpAnyM_take (i := 4) (v := ?_) rfl (by kernel_rfl) (by kernel_rfl) (by kernel_rfl) (by kernel_rfl) (by kernel_rfl) (fun _ _ _ h => h) hS (.inl ⟨by rfl, ?_⟩) ?_
        rotate_left 1
        · intro w' hS'; go_simp; try with_reducible rfl
        simp only [Act.put]
        refine wpAnyM_take (i := 5) (v := ?_) rfl (by kernel_rfl) (by kernel_rfl) (by kernel_rfl) (by kernel_rfl) (by kernel_rfl) (fun _ _ _ h => h) hS (.inl ⟨by rfl, ?_⟩) ?_
        rotate_left 1
        · intro w' hS'; go_simp; try with_reducible rfl
        simp only [Act.put]
        refine wpAnyM_take (i := 6) (v := ?_) rfl (by kernel_rfl) (by kernel_rfl) (by kernel_rfl) (by kernel_rfl) (by kernel_rfl) (fun _ _ _ h => h) hS (.inl ⟨by rfl, ?_⟩) ?_
        rotate_left 1
        · intro w' hS'; go_simp; try with_reducible rfl
        simp only [Act.put]
        refine wpAnyM_take (i := 7) (v := ?_) rfl (by kernel_rfl) (by kernel_rfl) (by kernel_rfl) (by kernel_rfl) (by kernel_rfl) (fun _ _ _ h => h) hS (.inl ⟨by rfl, ?_⟩) ?_
        rotate_left 1
        · intro w' hS'; go_simp; try with_reducible rfl
        simp only [Act.put]
        refine wpAnyM_take (i := 8) (v := ?_) rfl (by kernel_rfl) (by kernel_rfl) (by kernel_rfl) (by kernel_rfl) (by kernel_rfl) (fun _ _ _ h => h) hS (.inl ⟨by rfl, ?_⟩) ?_
        rotate_left 1
        · intro w' hS'; go_simp; try with_reducible rfl
        simp only [Act.put]
        refine wpAnyM_take (i := 9) (v := ?_) rfl (by kernel_rfl) (by kernel_rfl) (by kernel_rfl) (by kernel_rfl) (by kernel_rfl) (fun _ _ _ h => h) hS (.inl ⟨by rfl, ?_⟩) ?_
        rotate_left 1
        · intro w' hS'; go_simp; try with_reducible rfl
        simp only [Act.put]
        refine wpAnyM_take (i := 10) (v := ?_) rfl (by kernel_rfl) (by kernel_rfl) (by kernel_rfl) (by kernel_rfl) (by kernel_rfl) (fun _ _ _ h => h) hS (.inl ⟨by rfl, ?_⟩) ?_
        rotate_left 1
        · intro w' hS'; go_simp; try with_reducible rfl
        simp only [Act.put]
        refine wpAnyM_take (i := 11) (v := ?_) rfl (by kernel_rfl) (by kernel_rfl) (by kernel_rfl) (by kernel_rfl) (by kernel_rfl) (fun _ _ _ h => h) hS (.inl ⟨by rfl, ?_⟩) ?_
        rotate_left 1
        · intro w' hS'; go_simp; try with_reducible rfl
        simp only [Act.put]
        refine wpAnyM_take (i := 12) (v := ?_) rfl (by kernel_rfl) (by kernel_rfl) (by kernel_rfl) (by kernel_rfl) (by kernel_rfl) (fun _ _ _ h => h) hS (.inl ⟨by rfl, ?_⟩) ?_
        rotate_left 1
        · intro w' hS'; go_simp; try with_reducible rfl
        simp only [Act.put]
        refine wpAnyM_take (i := 13) (v := ?_) rfl (by kernel_rfl) (by kernel_rfl) (by kernel_rfl) (by kernel_rfl) (by kernel_rfl) (fun _ _ _ h => h) hS (.inl ⟨by rfl, ?_⟩) ?_
        rotate_left 1
        · intro w' hS'; go_simp; try with_reducible rfl
        simp only [Act.put]
        refine wpAnyM_take (i := 14) (v := ?_) rfl (by kernel_rfl) (by kernel_rfl) (by kernel_rfl) (by kernel_rfl) (by kernel_rfl) (fun _ _ _ h => h) hS (.inl ⟨by rfl, ?_⟩) ?_
        rotate_left 1
        · intro w' hS'; go_simp; try with_reducible rfl
        simp only [Act.put]
        refine wpAnyM_take (i := 15) (v := ?_) rfl (by kernel_rfl) (by kernel_rfl) (by kernel_rfl) (by kernel_rfl) (by kernel_rfl) (fun _ _ _ h => h) hS (.inl ⟨by rfl, ?_⟩) ?_
        rotate_left 1
        · intro w' hS'; go_simp; try with_reducible rfl
        simp only [Act.put]
        refine wpAnyM_take (i := 16) (v := ?_) rfl (by kernel_rfl) (by kernel_rfl) (by kernel_rfl) (by kernel_rfl) (by kernel_rfl) (fun _ _ _ h => h) hS (.inl ⟨by rfl, ?_⟩) ?_
        rotate_left 1
        · intro w' hS'; go_simp; try with_reducible rfl
        simp only [Act.put]
        clear k0 k1 k2 k3 k4
        refine wpAnyM_one (i := 17) (by kernel_rfl) rfl (by rfl) (fun K hK => ?_)
        go_simp
        obtain ⟨x, hx⟩ : ∃ x, x = addM U W rs k d := ⟨_, rfl⟩
        have hx1 : x.1 = (k : Int) := by rw [hx]; rfl
        have hx2 : t.1 - (elt pairF rs k).1 = x.2.1 := by rw [hx, HTT.out]; rfl
        have hx3 : t.2 - (elt pairF rs k).2 = x.2.2 := by rw [hx, HTT.out]; rfl
        have HX := Lib.hid hx
        clear hx
        rw [hx2, hx3, ← hx1]
        replace hS := And.intro (hS.1.alloc (.cells #[.int .i64 x.1, .int .i64 x.2.1, .int .i64 x.2.2] 37)) (And.intro (hS.2.1.alloc (.cells #[.int .i64 x.1, .int .i64 x.2.1, .int .i64 x.2.2] 37)) (hS.2.2.alloc (.cells #[.int .i64 x.1, .int .i64 x.2.1, .int .i64 x.2.2] 37)))
        refine hK _ _ (.inr hS) ?_
        clear hK K
        try simp only [Act.put, List.setIfInBounds_toArray]
        refine wpAnyM_one (i := 18) (by kernel_rfl) rfl (by rfl) (fun K hK => ?_)
        refine wp_appLM rfl (.tmp 47) (.tmp 60) 29 37 rfl Try.underlying29 info_Move rfl rfl ((ow2.drew).alloc _) ⟨V4.heap.size, 0, none⟩ x rfl (news_move V4.drew x) (by omega) (by simp; omega) ?_
        intro A' C' V5 hrow htc
        replace hS := And.intro (hS.1.touch htc (.inl hp2)) (And.intro (hS.2.1.touch htc (.inr (by omega))) (hS.2.2.touch htc (.inr (by omega))))
        have bx5 := hS.1
        have bt5 := hS.2.1
        have cc := bx5.at_ 4 rfl
        have ff := bx5.thaw 4
        have ow5 := ((ow.drew).alloc (.cells #[.int .i64 x.1, .int .i64 x.2.1, .int .i64 x.2.2] 37)).touch htc (.inl (by omega))
        have ow6 : OwnF tripF 37 V5 lo2 V5.heap.size (.slice A' (ms.length + 1) C') (ms ++ [x]) := hrow
        have hb52 : Below lo2 V4 V5 := ((Below.refl _ _).drew.alloc (by simp; omega) (.cells #[.int .i64 x.1, .int .i64 x.2.1, .int .i64 x.2.2] 37)).trans (htc.below (Nat.le_refl _) (by simp; omega))
        have hb5 : Below lo V4 V5 := hb52.mono (by omega)
        have HM5 := Lib.hid (HM4.out.trans (Mid.of_below hb52))
        have HB5 := Lib.hid ((HB4.out.mono (by omega)).trans hb5)
        have hV5z : V4.heap.size < V5.heap.size := by have := htc.size; simp at this; omega
        clear hb5 hb52 hrow htc ow ow2 bx bt bf
        refine hK _ _ (.inr hS) ?_
        try simp only [Act.put, List.setIfInBounds_toArray]
        clear hK K
        refine wpAnyM_one (i := 19) (by kernel_rfl) rfl (by rfl) (fun K hK => ?_)
        go_simp
        refine hK _ _ (.inr hS) ?_
        try simp only [Act.put, List.setIfInBounds_toArray]
        clear hK K
        refine wpAnyM_one (i := 20) (by kernel_rfl) rfl (by rfl) (fun K hK => ?_)
        go_simp
        refine hK _ _ (.inr hS) ?_
        try simp only [Act.put, List.setIfInBounds_toArray]
        clear hK K
        refine wpAnyM_one (i := 21) (by kernel_rfl) rfl (by rfl) (fun K hK => ?_)
        go_simp
        refine hK _ _ (.inl rfl) ?_
        clear hK K
        refine wpAnyM_done (by kernel_rfl) ?_ _
        go_upto_region 9 with fail
        obtain ⟨V6, hV6⟩ : ∃ V6, V6 = V5.setCell ⟨p, 4, none⟩ (.slice A' (ms.length + 1) C') := ⟨_, rfl⟩
        rw [← hV6]
        have ow7 : OwnF pairF 102 V6 lo hi (.slice (some ⟨gb, 0, none⟩) rs.length C) rs := by rw [hV6]; exact ow5.setCell (.inr hp) _
        have ow8 : OwnF tripF 37 V6 lo2 V6.heap.size (.slice A' (ms.length + 1) C') (ms ++ [x]) := by rw [hV6]; simpa using ow6.setCell (p := ⟨p, 4, none⟩) (.inl hp2) (.slice A' (ms.length + 1) C')
        have bx7 : Bx V6 p 116 #[.int .i64 U, .int .i64 L, .int .i64 W, .slice (some ⟨gb, 0, none⟩) rs.length C, .slice A' (ms.length + 1) C'] := by rw [hV6]; simpa using bx5.set_ 4 (.slice A' (ms.length + 1) C')
        have bt7 : Bx V6 V2.heap.size 102 #[.int .i64 t.1, .int .i64 t.2] := by rw [hV6]; exact bt5.far (by simp; omega) _
        have HB6 : Hid (Below lo w V6) := by rw [hV6]; exact Lib.hid (HB5.out.setCell (by simp; omega) _)
        have HM6 : Hid (Mid p lo2 w V6) := by rw [hV6]; exact Lib.hid (HM5.out.setCell (.inl (Nat.le_refl _)) _)
        have hV6z : V4.heap.size < V6.heap.size := by rw [hV6]; simpa using hV5z
        clear hV6 ow5 ow6 bx5 bt5 HB5 hS cc ff
        obtain ⟨g0, g1⟩ := ow7.get2 (k := k) hlt
        have f0 := ow7.thaw (k * 2)
        have f1 := ow7.thaw (k * 2 + 1)
        have HP7 := Lib.hid (ow7.put2 (k := k) hlt t)
        have k0 := kept_all (p := ⟨p, 3, none⟩) (v := .slice (some ⟨gb, 0, none⟩) rs.length C) (bx7.at_ 3 rfl)
        have k1 := kept_all (p := ⟨V2.heap.size, 0, none⟩) (v := .int .i64 t.1) (bt7.at_ 0 rfl)
        have k2 := kept_all (p := ⟨V2.heap.size, 1, none⟩) (v := .int .i64 t.2) (bt7.at_ 1 rfl)
        refine wp_region_marked (fun w' => Below V6.heap.size V6 w') 8 (by kernel_rfl) ?_
        have hS : Below V6.heap.size V6 V6.drew := (Below.refl _ _).drew
        refine wpAnyM_take (i := 0) (v := ?_) rfl (by kernel_rfl) (by kernel_rfl) (by kernel_rfl) (by kernel_rfl) (by kernel_rfl) (fun _ _ _ h => h) hS (.inl ⟨by rfl, ?_⟩) ?_
        rotate_left 1
        · intro w' hS'; go_simp; try with_reducible rfl
        simp only [Act.put, List.setIfInBounds_toArray]
        refine wpAnyM_take (i := 1) (v := ?_) rfl (by kernel_rfl) (by kernel_rfl) (by kernel_rfl) (by kernel_rfl) (by kernel_rfl) (fun _ _ _ h => h) hS (.inl ⟨by rfl, ?_⟩) ?_
        rotate_left 1
        · intro w' hS'; go_simp; try with_reducible rfl
        simp only [Act.put]
        refine wpAnyM_take (i := 2) (v := ?_) rfl (by kernel_rfl) (by kernel_rfl) (by kernel_rfl) (by kernel_rfl) (by kernel_rfl) (fun _ _ _ h => h) hS (.inl ⟨by rfl, ?_⟩) ?_
        rotate_left 1
        · intro w' hS'; go_simp; try with_reducible rfl
        simp only [Act.put]
        refine wpAnyM_take (i := 3) (v := ?_) rfl (by kernel_rfl) (by kernel_rfl) (by kernel_rfl) (by kernel_rfl) (by kernel_rfl) (fun _ _ _ h => h) hS (.inl ⟨by rfl, ?_⟩) ?_
        rotate_left 1
        · intro w' hS'; go_simp; try with_reducible rfl
        simp only [Act.put]
        refine wpAnyM_take (i := 4) (v := ?_) rfl (by kernel_rfl) (by kernel_rfl) (by kernel_rfl) (by kernel_rfl) (by kernel_rfl) (fun _ _ _ h => h) hS (.inl ⟨by rfl, ?_⟩) ?_
        rotate_left 1
        · intro w' hS'; go_simp; try with_reducible rfl
        simp only [Act.put]
        refine wpAnyM_take (i := 5) (v := ?_) rfl (by kernel_rfl) (by kernel_rfl) (by kernel_rfl) (by kernel_rfl) (by kernel_rfl) (fun _ _ _ h => h) hS (.inl ⟨by rfl, ?_⟩) ?_
        rotate_left 1
        · intro w' hS'; go_simp; try with_reducible rfl
        simp only [Act.put]
        refine wpAnyM_take (i := 6) (v := ?_) rfl (by kernel_rfl) (by kernel_rfl) (by kernel_rfl) (by kernel_rfl) (by kernel_rfl) (fun _ _ _ h => h) hS (.inl ⟨by rfl, ?_⟩) ?_
        rotate_left 1
        · intro w' hS'; go_simp; try with_reducible rfl
        simp only [Act.put]
        clear k0 k1 k2
        refine wpAnyM_one (i := 7) (by kernel_rfl) rfl (by rfl) (fun K hK => ?_)
        go_simp
        refine hK _ _ (.inr hS) ?_
        try simp only [Act.put, List.setIfInBounds_toArray]
        clear hK K
        refine wpAnyM_one (i := 8) (by kernel_rfl) rfl (by rfl) (fun K hK => ?_)
        go_simp
        refine hK _ _ (.inl rfl) ?_
        clear hK K
        refine wpAnyM_done (by kernel_rfl) ?_ _
        go_upto_region 10 with fail
        obtain ⟨V9, hV9⟩ : ∃ V9, V9 = ((V6.setCell ⟨gb, k * 2, none⟩ (.int .i64 t.1)).setCell ⟨gb, k * 2 + 1, none⟩ (.int .i64 t.2)).drew := ⟨_, rfl⟩
        rw [← hV9]
        have hgp : p ≠ gb := by omega
        have ow9 : OwnF pairF 102 V9 lo hi (.slice (some ⟨gb, 0, none⟩) rs.length C) (rs.set k t) := by rw [hV9]; exact HP7.out.drew
        have bx9 : Bx V9 p 116 #[.int .i64 U, .int .i64 L, .int .i64 W, .slice (some ⟨gb, 0, none⟩) rs.length C, .slice A' (ms.length + 1) C'] := by rw [hV9]; exact ((bx7.far (p := ⟨gb, k * 2, none⟩) hgp _).far (p := ⟨gb, k * 2 + 1, none⟩) hgp _).drew
        have ow29 : OwnF tripF 37 V9 lo2 V9.heap.size (.slice A' (ms.length + 1) C') (ms ++ [x]) := by rw [hV9]; simpa using ((ow8.setCell (p := ⟨gb, k * 2, none⟩) (.inl (by simp; omega)) (.int .i64 t.1)).setCell (p := ⟨gb, k * 2 + 1, none⟩) (.inl (by simp; omega)) (.int .i64 t.2)).drew
        have HB9 : Hid (Below lo w V9) := by rw [hV9]; exact Lib.hid ((HB6.out.setCell (p := ⟨gb, k * 2, none⟩) l1 _).setCell (p := ⟨gb, k * 2 + 1, none⟩) l1 _).drew
        have HM9 : Hid (Mid p lo2 w V9) := by rw [hV9]; exact Lib.hid ((HM6.out.setCell (p := p) (x := ⟨gb, k * 2, none⟩) (.inl (by simp; omega)) _).setCell (x := ⟨gb, k * 2 + 1, none⟩) (.inl (by simp; omega)) _).drew
        have hV9z : V4.heap.size < V9.heap.size := by rw [hV9]; simpa using hV6z
        clear hV9 HP7 bx7 ow7 ow8 HB6 bt7 g0 g1 f0 f1 hS
        have hstep : addD U W rs k d = ((addD U W (rs.set k t) (k + 1) (addC W rs k d)).1, x :: (addD U W (rs.set k t) (k + 1) (addC W rs k d)).2.1, (addD U W (rs.set k t) (k + 1) (addC W rs k d)).2.2) := by
          rw [HTT.out, HX.out]; exact addD_step (by simpa using hdb) hlt
        have HST := Lib.hid hstep
        clear hstep
        rcases HC.out with ⟨hc, hsd⟩ | ⟨hc, hsd⟩
        · have hlt10 : decide (s + d < 10) = true := decide_eq_true hsd
          have HRES := Lib.hid (show AddP U L W (some ⟨gb, 0, none⟩) C lo hi lo2 p rs k d ms w (.returned (.bool true)) V9 from by
            have h1 := HST.out
            rw [hc, addD_zero] at h1
            unfold AddP
            rw [h1]
            exact ⟨rfl, A', C', by simpa using bx9, ow9, .inr (by simpa using ow29), HB9.out, HM9.out⟩)
          clear bx9 ow9 ow29 hc hsd
          go_wp2
          go_ret
          exact HRES.out
        · have hlt10 : decide (s + d < 10) = false := decide_eq_false (by omega)
          cases f with
          | zero => omega
          | succ f =>
            have HRC := Lib.hid (l03Add_any U L W (some ⟨gb, 0, none⟩) C lo hi lo2 p hp hp2 f (rs.set k t) (k + 1) 1 (ms ++ [x]) A' C' V9.heap.size V9 (by simp; omega) (by rw [HTT.out]; exact HPS.out) (by omega) (by omega) (by omega) (by simp; omega)
              (by simpa using bx9) (by simpa using ow9) (.inr (by simpa using ow29)) (by omega) (Nat.le_refl _))
            rw [show ((k + 1 : Nat) : Int) = (k : Int) + 1 by simp] at HRC
            have HFIN := Lib.hid (fun (e : Ending) (w' : World) (h : AddP U L W (some ⟨gb, 0, none⟩) C lo hi lo2 p (rs.set k t) (k + 1) 1 (ms ++ [x]) V9 e w') => show AddP U L W (some ⟨gb, 0, none⟩) C lo hi lo2 p rs k d ms w e w' from by
              have h1 := HST.out
              rw [hc] at h1
              obtain ⟨he, LA', LC', b1, b2, b3, b4, b5⟩ := h
              unfold AddP
              rw [h1]
              rw [List.append_assoc, List.singleton_append] at b1 b3
              rw [List.length_set] at b1 b2
              exact ⟨he, LA', LC', b1, b2, b3, HB9.out.trans b4, HM9.out.trans b5⟩)
            clear bx9 ow9 ow29 hc hsd
            go_wp2_with fail
            refine HRC.out.mono ?_
            rintro e w' hpost
            have hfin := HFIN.out e w' hpost
            obtain ⟨rfl, _⟩ := hpost
            go_wp2
            go_ret
            exact hfin
      · have HR := Lib.hid (addP_none (p := p) (lo := lo) (hi := hi) (lo2 := lo2) (hi2 := hi2) (L := L) (A := A) (C := C) (LA := LA) (LC := LC) (addD_full (U := U) (W := W) hd hlt) rfl bx ow ow2 hh2)
        have c3 := bx.at_ 3 rfl
        clear ow ow2 bx
        go_enter Try.func79, Try.ntmps79
        go_wp2
        go_ret
        exact HR.out
end Go.Proofs.Ytcfpfhlgcfmioaa
