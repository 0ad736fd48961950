/-
  impl: kinds of events, wheels that are turned.
-/
import Derived.Test.YtgfpjcckkbhdjaaEvM
import Derived.Test.YtgfpjcckkbhdjaaWithin
import Derived.Test.YtgfpjcckkbhdjaaInS
import Derived.Test.YtgfpjcckkbhdjaaApp
import Derived.Test.YtgfpjcckkbhdjaaOrd
import Derived.Deep.Cut
namespace Go.Proofs.Ytgfpjcckkbhdjaa
open Go.RowKit

theorem Own.head {t : TypeId} {w : World} {lo hi : Nat} {zs : List Int} {a : Option Addr} {n c : Nat} (h : Own t w lo hi (.slice a n c) zs) (hne : 0 < zs.length) : ∃ g, a = some ⟨g, 0, none⟩ ∧ lo ≤ g ∧ g < hi ∧ g < w.heap.size := by
  rcases h.row.2 with ⟨_, h0⟩ | ⟨g, cap, cur, hv, _⟩
  · omega
  · injection hv with ha _ _
    subst ha
    exact ⟨g, rfl, h.lo_le rfl⟩

theorem evKind_any (k : Int) (w : World) : Calls Try.prog 119 #[.int .i64 k] w fun e w' => e = .returned (.bool (inB k 1 3)) ∧ Below w.heap.size w w' := by
  go_enter Try.func119, Try.ntmps119
  go_wp2_with (go_at_call 166; refine (within1_at _ _ k _ _ _ (by go_simp)).mono ?_; rintro e w1 ⟨rfl, hq⟩; subst w1)
  go_ret
  exact ⟨rfl, (by repeat (first | exact Below.refl _ _ | refine Below.setCell ?_ (by first | omega | (simp <;> omega)) _ | refine Below.alloc ?_ (by first | omega | (simp <;> omega)) _ | refine Below.drew ?_))⟩

set_option maxHeartbeats 1000000 in
theorem canHap_any (k h s B : Int) (A : Option Addr) (n C : Nat) (w : World) (hB : 2 ≤ B ∧ B ≤ 16) (hn : n ≤ 16) :
    Calls Try.prog 113 #[.agg #[.int .i64 k, .int .i64 h, .int .i64 s], .agg #[.int .i64 B, .slice A n C]] w fun e w' => e = .returned (.bool (evOk B n (k, h, s))) ∧ Below w.heap.size w w' := by
  have v1 : IntKind.i64.wrap ((n : Int) - 1) = (n : Int) - 1 := fits_int _ (by omega) (by omega)
  have v2 : IntKind.i64.wrap (B - 1) = B - 1 := fits_int _ (by omega) (by omega)
  have HO := Lib.hid (show evOk B n (k, h, s) = (inB k 1 3 && inB h 0 ((n : Int) - 1) && inB s 0 (B - 1)) from rfl)
  obtain ⟨u, hu⟩ : ∃ u, u = (w.alloc (.cells #[.int .i64 k, .int .i64 h, .int .i64 s] 41)).alloc (.cells #[.int .i64 B, .slice A n C] 26) := ⟨_, rfl⟩
  have b0 : Bx u w.heap.size 41 #[.int .i64 k, .int .i64 h, .int .i64 s] := by rw [hu]; exact (Bx.new _ _ _).alloc _
  have b1 : Bx u (w.heap.size + 1) 26 #[.int .i64 B, .slice A n C] := by rw [hu]; simpa using Bx.new (w.alloc (.cells #[.int .i64 k, .int .i64 h, .int .i64 s] 41)) #[.int .i64 B, .slice A n C] 26
  have hbel : Below w.heap.size w u := by rw [hu]; exact (by repeat (first | exact Below.refl _ _ | refine Below.setCell ?_ (by first | omega | (simp <;> omega)) _ | refine Below.alloc ?_ (by first | omega | (simp <;> omega)) _ | refine Below.drew ?_))
  have HU := Lib.hid hu
  have c0 := b0.at_ 0 rfl
  have c5 := b1.at_ 1 rfl
  clear hu
  go_enter Try.func113, Try.ntmps113
  go_wp2_with fail
  rw [← HU.out]
  go_wp2_with fail
  refine (evKind_any k u).mono ?_
  rintro e w1 ⟨rfl, hb⟩
  clear c0 c5
  replace b0 := b0.below hb
  replace b1 := b1.below hb
  replace hbel := hbel.trans (hb.mono hbel.size)
  clear hb HU
  have hsz := hbel.size
  have hlt1 := b1.lt
  have hlt0 := b0.lt
  cases hk : inB k 1 3 with
  | false =>
    rw [hk] at HO
    go_wp2
    go_ret
    exact ⟨ret_bool HO.out.symm, (by repeat (first | exact hbel | refine Below.setCell ?_ (by first | omega | (simp <;> omega)) _ | refine Below.alloc ?_ (by first | omega | (simp <;> omega)) _ | refine Below.drew ?_))⟩
  | true =>
    rw [hk] at HO
    have c1 := b0.at_ 1 rfl
    have c2 := b0.at_ 2 rfl
    have c4 := b1.at_ 0 rfl
    cases hh : inB h 0 ((n : Int) - 1) with
    | false =>
      rw [hh] at HO
      have H1 := Lib.hid hh
      clear hh hk
      go_wp2_with (go_at_call 166; refine (within1_at _ _ h _ _ _ (by go_simp)).mono ?_; rintro e w2 ⟨rfl, hq⟩; subst w2; rw [H1.out])
      go_ret
      exact ⟨ret_bool HO.out.symm, (by repeat (first | exact hbel | refine Below.setCell ?_ (by first | omega | (simp <;> omega)) _ | refine Below.alloc ?_ (by first | omega | (simp <;> omega)) _ | refine Below.drew ?_))⟩
    | true =>
      rw [hh] at HO
      have H1 := Lib.hid hh
      have HO2 := Lib.hid (show evOk B n (k, h, s) = inB s 0 (B - 1) by rw [HO.out]; rfl)
      clear hh hk HO
      go_wp2_with fail
      refine (within1_at _ _ h _ _ _ (by go_simp)).mono ?_
      rintro e w2 ⟨rfl, hq⟩
      subst w2
      rw [H1.out]
      go_wp2_with (first | (go_at_call 166; refine (within1_at _ _ s _ _ _ (by go_simp)).mono ?_; rintro e w2 ⟨rfl, hq⟩; subst w2))
      go_ret
      exact ⟨ret_bool HO2.out.symm, (by repeat (first | exact hbel | refine Below.setCell ?_ (by first | omega | (simp <;> omega)) _ | refine Below.alloc ?_ (by first | omega | (simp <;> omega)) _ | refine Below.drew ?_))⟩

theorem evOf1 (h s : Int) (w : World) : Calls Try.prog 116 #[.agg #[.int .i64 1, .int .i64 h, .int .i64 s]] w fun e w' => e = .returned (.iface 241 (.agg #[.int .i64 1, .int .i64 h, .int .i64 s])) ∧ Below w.heap.size w w' := by
  go_enter Try.func116, Try.ntmps116
  go_wp2
  go_ret
  exact ⟨rfl, (by repeat (first | exact Below.refl _ _ | refine Below.setCell ?_ (by first | omega | (simp <;> omega)) _ | refine Below.alloc ?_ (by first | omega | (simp <;> omega)) _ | refine Below.drew ?_))⟩
theorem evOf2 (h s : Int) (w : World) : Calls Try.prog 116 #[.agg #[.int .i64 2, .int .i64 h, .int .i64 s]] w fun e w' => e = .returned (.iface 242 (.agg #[.int .i64 2, .int .i64 h, .int .i64 s])) ∧ Below w.heap.size w w' := by
  go_enter Try.func116, Try.ntmps116
  go_wp2
  go_ret
  exact ⟨rfl, (by repeat (first | exact Below.refl _ _ | refine Below.setCell ?_ (by first | omega | (simp <;> omega)) _ | refine Below.alloc ?_ (by first | omega | (simp <;> omega)) _ | refine Below.drew ?_))⟩
theorem evOf3 (h s : Int) (w : World) : Calls Try.prog 116 #[.agg #[.int .i64 3, .int .i64 h, .int .i64 s]] w fun e w' => e = .returned (.iface 243 (.agg #[.int .i64 3, .int .i64 h, .int .i64 s])) ∧ Below w.heap.size w w' := by
  go_enter Try.func116, Try.ntmps116
  go_wp2
  go_ret
  exact ⟨rfl, (by repeat (first | exact Below.refl _ _ | refine Below.setCell ?_ (by first | omega | (simp <;> omega)) _ | refine Below.alloc ?_ (by first | omega | (simp <;> omega)) _ | refine Below.drew ?_))⟩
theorem evTurning1 (h s : Int) (w : World) : Calls Try.prog 257 #[.agg #[.int .i64 1, .int .i64 h, .int .i64 s]] w fun e w' => e = .returned (.tuple #[.int .i64 h, .int .i64 s]) ∧ Below w.heap.size w w' := by
  go_enter Try.func257, Try.ntmps257
  go_wp2
  go_quiet (fail)
  go_wp2
  exact bodyPost_ret (v := .tuple #[.int .i64 h, .int .i64 s]) (by simp [results, Try.results257, go_sem]) rfl ⟨rfl, bel_drewN (by repeat (first | exact Below.refl _ _ | refine Below.setCell ?_ (by first | omega | (simp <;> omega)) _ | refine Below.alloc ?_ (by first | omega | (simp <;> omega)) _ | refine Below.drew ?_)) _⟩
theorem evTurning2 (h s : Int) (w : World) : Calls Try.prog 273 #[.agg #[.int .i64 2, .int .i64 h, .int .i64 s]] w fun e w' => e = .returned (.tuple #[.int .i64 h, .int .i64 0]) ∧ Below w.heap.size w w' := by
  go_enter Try.func273, Try.ntmps273
  go_wp2
  exact bodyPost_ret (v := .tuple #[.int .i64 h, .int .i64 0]) (by simp [results, Try.results273, go_sem]) rfl ⟨rfl, (by repeat (first | exact Below.refl _ _ | refine Below.setCell ?_ (by first | omega | (simp <;> omega)) _ | refine Below.alloc ?_ (by first | omega | (simp <;> omega)) _ | refine Below.drew ?_))⟩
theorem evTurning3 (h s : Int) (w : World) (h0 : 0 ≤ h) (h1 : h ≤ 100) : Calls Try.prog 275 #[.agg #[.int .i64 3, .int .i64 h, .int .i64 s]] w fun e w' => e = .returned (.tuple #[.int .i64 (h + 1), .int .i64 1]) ∧ Below w.heap.size w w' := by
  have v1 : IntKind.i64.wrap (h + 1) = h + 1 := fits_int _ (by omega) (by omega)
  go_enter Try.func275, Try.ntmps275
  go_wp2
  exact bodyPost_ret (v := .tuple #[.int .i64 (h + 1), .int .i64 1]) (by simp [results, Try.results275, go_sem]) rfl ⟨rfl, (by repeat (first | exact Below.refl _ _ | refine Below.setCell ?_ (by first | omega | (simp <;> omega)) _ | refine Below.alloc ?_ (by first | omega | (simp <;> omega)) _ | refine Below.drew ?_))⟩
set_option maxRecDepth 100000 in
theorem evMeth1 (h s : Int) (n : Nat) (w : World) : (method (n + 1) 241 (.agg #[.int .i64 1, .int .i64 h, .int .i64 s]) "loop.example/g00930/impl.turning").run Try.prog w = .ok (257, .agg #[.int .i64 1, .int .i64 h, .int .i64 s]) w := by kernel_rfl
set_option maxRecDepth 100000 in
theorem evMeth2 (h s : Int) (n : Nat) (w : World) : (method (n + 1) 242 (.agg #[.int .i64 2, .int .i64 h, .int .i64 s]) "loop.example/g00930/impl.turning").run Try.prog w = .ok (273, .agg #[.int .i64 2, .int .i64 h, .int .i64 s]) w := by kernel_rfl
set_option maxRecDepth 100000 in
theorem evMeth3 (h s : Int) (n : Nat) (w : World) : (method (n + 1) 243 (.agg #[.int .i64 3, .int .i64 h, .int .i64 s]) "loop.example/g00930/impl.turning").run Try.prog w = .ok (275, .agg #[.int .i64 3, .int .i64 h, .int .i64 s]) w := by kernel_rfl

theorem addAt_low {B : Int} {zs : List Int} {k : Nat} {s : Int} (hk : k < zs.length) (h0 : 0 ≤ nth zs k + s) (h1 : nth zs k + s < B) : zs.set k (nth zs k + s) = addAt B zs k s := by
  rw [addAt, if_pos hk, Int.emod_eq_of_lt h0 h1]
theorem addAt_high {B : Int} {zs : List Int} {k : Nat} {s : Int} (hk : k < zs.length) (h0 : B ≤ nth zs k + s) (h1 : nth zs k + s < B + B) : zs.set k (nth zs k + s - B) = addAt B zs k s := by
  rw [addAt, if_pos hk, show (nth zs k + s) % B = nth zs k + s - B by rw [← Int.sub_emod_right]; exact Int.emod_eq_of_lt (by omega) (by omega)]
theorem nth_set {zs : List Int} {k : Nat} {z : Int} (hk : k < zs.length) : nth (zs.set k z) k = z := by rw [nth_get (by simpa using hk)]; simp

/-- Does the wheel go on from 0? -/
def carB (B : Int) (zs : List Int) (k : Nat) (s : Int) : Bool := decide (k < zs.length ∧ B ≤ nth zs k + s)
set_option maxHeartbeats 4000000 in
theorem wwTurn_any (B : Int) (g C : Nat) (F : Option Addr) (f G : Nat) (H : Option Addr) (m J : Nat) (k : Nat) (s : Int) (zs : List Int) (lo hi : Nat) (w : World)
    (own : Own 2 w lo hi (.slice (some ⟨g, 0, none⟩) zs.length C) zs) (hB : 2 ≤ B ∧ B ≤ 16) (hd : Dgs B zs) (hs : 0 ≤ s ∧ s < B) (hk : k ≤ zs.length) (_ : zs.length ≤ 16) (hhi : hi ≤ w.heap.size) :
    Calls Try.prog 115 #[.agg #[.int .i64 B, .slice (some ⟨g, 0, none⟩) zs.length C, .slice F f G, .slice H m J], .int .i64 k, .int .i64 s] w fun e w' =>
      e = .returned (.bool (carB B zs k s)) ∧ Own 2 w' lo hi (.slice (some ⟨g, 0, none⟩) zs.length C) (addAt B zs k s) ∧ Touch lo hi w w' := by
  obtain ⟨P, hP⟩ : ∃ P, P = w.heap.size := ⟨_, rfl⟩
  obtain ⟨u, hu⟩ : ∃ u, u = w.alloc (.cells #[.int .i64 B, .slice (some ⟨g, 0, none⟩) zs.length C, .slice F f G, .slice H m J] 122) := ⟨_, rfl⟩
  have b0 : Bx u P 122 #[.int .i64 B, .slice (some ⟨g, 0, none⟩) zs.length C, .slice F f G, .slice H m J] := by rw [hu, hP]; exact Bx.new _ _ _
  have tt : Touch lo hi w u := by rw [hu]; exact (Touch.refl _ _ _).alloc _
  replace own : Own 2 u lo hi (.slice (some ⟨g, 0, none⟩) zs.length C) zs := by rw [hu]; exact own.alloc _
  have hbk := own.block
  have HU := Lib.hid hu
  rw [← hP] at hhi
  have HP := Lib.hid hP
  clear hu hP
  have c1 := b0.at_ 1 rfl
  go_enter Try.func115, Try.ntmps115
  go_upto_region 1 with fail
  rw [← HU.out, ← HP.out]
  by_cases hlt : k < zs.length
  · have hne : ((k : Int) == (zs.length : Int)) = false := beq_eq_false_iff_ne.2 (by omega)
    have hz := hd (nth zs k) (by rw [nth_get hlt]; exact List.getElem_mem _)
    have hcell := own.get hlt
    have hth := own.thaw k
    have v1 : IntKind.i64.wrap (nth zs k + s) = nth zs k + s := fits_int _ (by omega) (by omega)
    have ow2 := own.put k (nth zs k + s)
    have hset := nth_set (z := nth zs k + s) hlt
    have b2 := b0.far (p := ⟨g, k, none⟩) (by show P ≠ g; omega) (.int .i64 (nth zs k + s))
    have t2 := tt.setCell (p := ⟨g, k, none⟩) hbk.1 hbk.2.1 (.int .i64 (nth zs k + s))
    go_upto_region 4 with fail
    obtain ⟨V, hV⟩ : ∃ V, V = u.setCell ⟨g, k, none⟩ (.int .i64 (nth zs k + s)) := ⟨_, rfl⟩
    rw [← hV] at ow2 b2 t2 ⊢
    clear hV own b0 tt hcell hth c1 HU
    have c0 := b2.at_ 0 rfl
    have c1 := b2.at_ 1 rfl
    have hl2 : (zs.set k (nth zs k + s)).length = zs.length := by simp
    have hc2 := ow2.get (j := k) (by rw [hl2]; exact hlt)
    rw [hset] at hc2
    have hbk2 := ow2.block
    by_cases hlo : nth zs k + s < B
    · have HB := Lib.hid (show carB B zs k s = false from decide_eq_false (by omega))
      have HA := Lib.hid (addAt_low (B := B) (s := s) hlt (by omega) hlo)
      go_quiet (fail)
      go_wp2
      go_ret
      exact ⟨ret_bool HB.out.symm, by rw [← HA.out]; exact ow2.drewN _, t2.drewN _⟩
    · have HB := Lib.hid (show carB B zs k s = true from decide_eq_true ⟨hlt, by omega⟩)
      have HA := Lib.hid (addAt_high (B := B) (s := s) hlt (by omega) (by omega))
      have v2 : IntKind.i64.wrap (nth zs k + s - B) = nth zs k + s - B := fits_int _ (by omega) (by omega)
      go_quiet (fail)
      obtain ⟨X, hX⟩ : ∃ X, X = V.drewN nq := ⟨_, rfl⟩
      have b3 : Bx X P 122 #[.int .i64 B, .slice (some ⟨g, 0, none⟩) zs.length C, .slice F f G, .slice H m J] := by rw [hX]; exact b2.drewN _
      have ow3 : Own 2 X lo hi (.slice (some ⟨g, 0, none⟩) zs.length C) (zs.set k (nth zs k + s)) := by rw [hX]; exact ow2.drewN _
      have t3 : Touch lo hi w X := by rw [hX]; exact t2.drewN _
      rw [← hX]
      clear hX b2 ow2 t2 c0 c1 hc2 hbk2
      go_upto_region 6 with fail
      have k0 := kept_all (b3.at_ 0 rfl)
      have k1 := kept_all (b3.at_ 1 rfl)
      have hc3 := ow3.get (j := k) (by rw [hl2]; exact hlt)
      rw [hset] at hc3
      have k2 := kept_all hc3
      have hth3 := ow3.thaw k
      have ow4 := ow3.drew.put k (nth zs k + s - B)
      rw [List.set_set, HA.out] at ow4
      refine wp_region_marked (fun w' => Below X.heap.size X w') 9 (by kernel_rfl) ?_
      have hS : Below X.heap.size X X.drew := (Below.refl _ _).drew
      refine wpAnyM_take (i := 0) (v := ?_) rfl (by kernel_rfl) (by kernel_rfl) (by kernel_rfl) (by kernel_rfl) (by kernel_rfl) (fun _ _ _ h => h) hS (.inl ⟨by rfl, ?_⟩) ?_
      rotate_left 1
      · intro w' hS'; go_simp; try with_reducible rfl
      simp only [Act.put, List.setIfInBounds_toArray]
      refine wpAnyM_take (i := 1) (v := ?_) rfl (by kernel_rfl) (by kernel_rfl) (by kernel_rfl) (by kernel_rfl) (by kernel_rfl) (fun _ _ _ h => h) hS (.inl ⟨by rfl, ?_⟩) ?_
      rotate_left 1
      · intro w' hS'; go_simp; try with_reducible rfl
      simp only [Act.put]
      refine wpAnyM_take (i := 2) (v := ?_) rfl (by kernel_rfl) (by kernel_rfl) (by kernel_rfl) (by kernel_rfl) (by kernel_rfl) (fun _ _ _ h => h) hS (.inl ⟨by rfl, ?_⟩) ?_
      rotate_left 1
      · intro w' hS'; go_simp; try with_reducible rfl
      simp only [Act.put]
      refine wpAnyM_take (i := 3) (v := ?_) rfl (by kernel_rfl) (by kernel_rfl) (by kernel_rfl) (by kernel_rfl) (by kernel_rfl) (fun _ _ _ h => h) hS (.inl ⟨by rfl, ?_⟩) ?_
      rotate_left 1
      · intro w' hS'; go_simp; try with_reducible rfl
      simp only [Act.put]
      refine wpAnyM_take (i := 4) (v := ?_) rfl (by kernel_rfl) (by kernel_rfl) (by kernel_rfl) (by kernel_rfl) (by kernel_rfl) (fun _ _ _ h => h) hS (.inl ⟨by rfl, ?_⟩) ?_
      rotate_left 1
      · intro w' hS'; go_simp; try with_reducible rfl
      simp only [Act.put]
      refine wpAnyM_take (i := 5) (v := ?_) rfl (by kernel_rfl) (by kernel_rfl) (by kernel_rfl) (by kernel_rfl) (by kernel_rfl) (fun _ _ _ h => h) hS (.inl ⟨by rfl, ?_⟩) ?_
      rotate_left 1
      · intro w' hS'; go_simp; try with_reducible rfl
      simp only [Act.put]
      refine wpAnyM_take (i := 6) (v := ?_) rfl (by kernel_rfl) (by kernel_rfl) (by kernel_rfl) (by kernel_rfl) (by kernel_rfl) (fun _ _ _ h => h) hS (.inl ⟨by rfl, ?_⟩) ?_
      rotate_left 1
      · intro w' hS'; go_simp; try with_reducible rfl
      simp only [Act.put]
      refine wpAnyM_take (i := 7) (v := ?_) rfl (by kernel_rfl) (by kernel_rfl) (by kernel_rfl) (by kernel_rfl) (by kernel_rfl) (fun _ _ _ h => h) hS (.inl ⟨by rfl, ?_⟩) ?_
      rotate_left 1
      · intro w' hS'; go_simp; try with_reducible rfl
      simp only [Act.put]
      clear k0 k1 k2
      refine wpAnyM_one (i := 8) (by kernel_rfl) rfl (by rfl) (fun K hK => ?_)
      go_simp
      refine hK _ _ (.inr hS) ?_
      try simp only [Act.put, List.setIfInBounds_toArray]
      clear hK K
      refine wpAnyM_one (i := 9) (by kernel_rfl) rfl (by rfl) (fun K hK => ?_)
      go_simp
      refine hK _ _ (.inl rfl) ?_
      clear hK K
      refine wpAnyM_done (by kernel_rfl) ?_ _
      go_wp2
      go_ret
      exact ⟨ret_bool HB.out.symm, ow4, (t3.drewN 1).setCell (p := ⟨g, k, none⟩) hbk.1 hbk.2.1 _⟩
  · obtain rfl : k = zs.length := by omega
    have HB := Lib.hid (show carB B zs zs.length s = false from decide_eq_false (by omega))
    have HA := Lib.hid (show addAt B zs zs.length s = zs by rw [addAt, if_neg (by omega)])
    go_wp2
    go_ret
    exact ⟨ret_bool HB.out.symm, by rw [HA.out]; exact own, tt⟩
end Go.Proofs.Ytgfpjcckkbhdjaa
