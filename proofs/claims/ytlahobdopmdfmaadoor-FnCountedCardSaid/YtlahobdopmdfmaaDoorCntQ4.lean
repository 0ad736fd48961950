/-
  Several texts in one: DrawR, Among, MadM, CntM, MadS, SamN, StkW, CarS, AddS, SubS, PairS, Bytes.
-/
import Derived.Test.YtlahobdopmdfmaaDoorCntQ3
import Derived.Test.YtlahobdopmdfmaaDoorCntQ1
import Derived.Test.YtlahobdopmdfmaaDoorCntQ2
import Derived.Test.YtlahobdopmdfmaaDoorProg
import Derived.Deep.Cut
import Derived.Deep.CutBlock
import Derived.BigQuiet

/- DrawR -/
namespace Go.Proofs.YtlahobdopmdfmaaDoor
open Go.RowKit

theorem l02Most_any (b : Int) (w : World) (h0 : 2 ≤ b) (h1 : b ≤ 16) :
    Calls Tryd.prog 187 #[.int .i64 b] w fun e w' => ∃ n : Nat, e = .returned (.int .i64 (n : Nat)) ∧ 1 ≤ n ∧ n ≤ 16 ∧ w' = w := by
  have bb : 4 ≤ b * b ∧ b * b ≤ 256 := ⟨Int.mul_le_mul h0 h0 (by omega) (by omega), Int.mul_le_mul h1 h1 (by omega) (by omega)⟩
  go_enter Tryd.func187, Tryd.ntmps187
  go_wp2_with fail
  go_loop [3, 4] (fun n p => ∃ (k : Nat) (c : Int), n = .int .i64 (k : Nat) ∧ p = .int .i64 c ∧ 1 ≤ k ∧ k ≤ 16 ∧ 0 ≤ c ∧ c ≤ 20000000000000) (fun n _ => 16 - (intOf n).toNat)
  case atStart => exact ⟨1, b * b, rfl, rfl, by omega, by omega, by omega, by omega⟩
  case round =>
    clear bb
    obtain ⟨k, c, rfl, rfl, hk1, hk2, c0, c1⟩ := hrel
    by_cases hc : c - 1 ≤ 1000000000000
    · by_cases hk : k < 16
      · have hm : 0 ≤ c * b ∧ c * b ≤ 1000000000001 * 16 := ⟨Int.mul_nonneg c0 (by omega), Int.mul_le_mul (by omega) h1 (by omega) (by omega)⟩
        obtain ⟨d, hd⟩ : ∃ d, d = c * b := ⟨_, rfl⟩
        rw [← hd] at hm
        have v1 : IntKind.i64.wrap (c * b) = d := by rw [← hd]; exact IntWalk.i64_in _ (by omega)
        clear hd
        go_wp2_with fail
        clear v1
        go_round
        case rel => exact ⟨k + 1, d, by go_num, rfl, by omega, by omega, by omega, by omega⟩
        case measure => (simp [intOf]) <;> omega
      · go_wp2_with fail
        refine bodyPost_ret (v := .int .i64 (k : Nat)) (by simp [results, Tryd.results187, go_sem]) rfl ⟨k, rfl, hk1, hk2, rfl⟩
    · go_wp2_with fail
      refine bodyPost_ret (v := .int .i64 (k : Nat)) (by simp [results, Tryd.results187, go_sem]) rfl ⟨k, rfl, hk1, hk2, rfl⟩

/-- Digits of a base. -/
def DigsOf (b : Int) (ds : List Int) : Prop := ∀ d ∈ ds, 0 ≤ d ∧ d < b
theorem digsOf_nil (b : Int) : DigsOf b [] := fun d hd => by cases hd
set_option maxHeartbeats 4000000 in
theorem drawDigits_any (s K : Nat) (b : Int) (n : Nat) (w : World) (h : Src w s K) (hK : K ≤ 800000) (b0 : 2 ≤ b) (b1 : b ≤ 16) (hn : n ≤ 100) :
    Calls Tryd.prog 128 #[.pointer (some ⟨s, 0, none⟩), .int .i64 b, .int .i64 (n : Nat)] w fun e w' => ∃ ds A C, e = .returned (.slice A n C) ∧ List.length ds = n ∧ DigsOf b ds ∧
      Own 2 w' w.heap.size w'.heap.size (.slice A n C) ds ∧ Touch s (s + 1) w w' ∧ Src w' s (K + 4 * n) := by
  have hs := h.lt
  obtain ⟨G, hG⟩ : ∃ G, G = w.heap.size := ⟨_, rfl⟩
  obtain ⟨u, hu⟩ : ∃ u, u = w.alloc (.cells #[] 2) := ⟨_, rfl⟩
  have hbu : Below w.heap.size w u := by rw [hu]; exact (by repeat (first | exact Below.refl _ _ | refine Below.setCell ?_ (by first | omega | (simp <;> omega)) _ | refine Below.alloc ?_ (by first | omega | (simp <;> omega)) _ | refine Below.drew ?_))
  have hsu : u.heap.size = G + 1 := by rw [hu, hG]; simp
  have oq : Own 2 u G (G + 1) (.slice (some ⟨G, 0, none⟩) 0 0) [] := by
    rw [hu, hG]
    exact own_of_row (zs := []) (by simpa using row_new 2 1 w #[] 0 (by simp) (by omega)) rfl (by simp)
  have su : Src u s K := h.lo hbu hs
  have tu : Touch s (s + 1) w u := Below.touch hbu
  have HU := Lib.hid hu
  have HG := Lib.hid hG
  have hsG : s < G := by omega
  clear hu h hbu
  go_enter Tryd.func128, Tryd.ntmps128
  go_wp2_with fail
  rw [← HU.out, ← hG]
  clear hG
  go_loopw [7, 8, 9] (fun o k _ wr => ∃ (j : Nat) (ds : List Int) (g : Nat) (E : Nat), j ≤ n ∧ k = .int .i64 (j : Nat) ∧ ds.length = j ∧ o = .slice (some ⟨g, 0, none⟩) j E ∧ DigsOf b ds ∧ G ≤ g ∧ Own 2 wr g (g + 1) (.slice (some ⟨g, 0, none⟩) j E) ds ∧ Touch s (s + 1) w wr ∧ Src wr s (K + 4 * j)) (fun _ k _ _ => n - (intOf k).toNat)
  case atStart => exact ⟨0, [], G, 0, Nat.zero_le _, rfl, rfl, rfl, digsOf_nil b, Nat.le_refl _, oq, tu, su⟩
  case round =>
    clear oq tu su
    obtain ⟨j, ds, g, E, hj, rfl, hl, rfl, hd, hg, ow, ht, hsrc⟩ := hrel
    have HL := Lib.hid hl
    clear hl
    have hsz := ht.size
    have hgl := ow.lo_le (k := g) rfl
    by_cases hlt : j < n
    · go_wp2_with fail
      refine (pick_any s _ b _ hsrc (by omega) (by omega)).mono ?_
      rintro e w1 ⟨z, rfl, z0, z1, hs1, ht1⟩
      have hl1 := ht1.size
      replace ow := ow.touch ht1 (.inr (by omega))
      replace ht := ht.trans ht1
      clear ht1 hsrc
      go_wp2_with fail
      refine (one_any s _ 3 _ hs1 (by omega) (by omega)).mono ?_
      rintro e w2 ⟨x, rfl, hs2, ht2⟩
      have hl2 := ht2.size
      replace ow := ow.touch ht2 (.inr (by omega))
      replace ht := ht.trans ht2
      clear ht2 hs1
      have fin : ∀ (y : Int), 0 ≤ y → y < b → ∀ g' E' w5, (g' = g ∨ g' = (w2.alloc (.cells #[.int .i64 y] 2)).heap.size) → Own 2 w5 g' (g' + 1) (.slice (some ⟨g', 0, none⟩) (j + 1) E') (ds ++ [y]) → Touch g (g + 1) (w2.alloc (.cells #[.int .i64 y] 2)) w5 →
          G ≤ g' ∧ DigsOf b (ds ++ [y]) ∧ Touch s (s + 1) w w5 ∧ Src w5 s (K + 4 * (j + 1)) := by
        intro y y0 y1 g' E' w5 hg' ow' ht5
        have tt : Touch G (w5.heap.size + w2.heap.size + 1) w2 w5 := ((Touch.refl G (w5.heap.size + w2.heap.size + 1) w2).alloc _).trans (ht5.widen (by omega) (by have := hgl.2.2; omega))
        have hgg : g' = g ∨ g' = w2.heap.size + 1 := by simpa using hg'
        refine ⟨by omega, ?_, ht.then_ tt (by have := HG.out; omega), (hs2.touch tt hsG).mono (by omega)⟩
        intro d hd'
        rcases List.mem_append.1 hd' with h1 | h1
        · exact hd d h1
        · rw [List.mem_singleton] at h1; subst h1; exact ⟨y0, y1⟩
      have v1 : IntKind.i64.wrap (b - 1) = b - 1 := fits_int _ (by omega) (by omega)
      cases x with
      | true =>
        go_wp2_with (at_builtin; go_must (refine wpList_appAt rfl (.tmp 23) (.tmp 25) 24 2 rfl Tryd.underlying24 info_int64 rfl (ow.alloc _) HL.out ⟨w2.heap.size, 0, none⟩ 1 (b - 1) rfl (cell_new1 w2 _ _) (by omega) (by simp <;> omega) ?_); intro g' E' w5 hg' own5 ht5; have hf := Lib.hid (fin (b - 1) (by omega) (by omega) g' E' w5 hg' own5 ht5); clear ht5 hg')
        clear fin
        go_roundw
        case rel => exact ⟨j + 1, ds ++ [b - 1], g', E', by omega, by go_num, by simp [HL.out], rfl, hf.out.2.1, hf.out.1, own5, hf.out.2.2.1, hf.out.2.2.2⟩
        case measure => (simp [intOf]) <;> omega
      | false =>
        go_wp2_with (at_builtin; go_must (refine wpList_appAt rfl (.tmp 23) (.tmp 25) 24 2 rfl Tryd.underlying24 info_int64 rfl (ow.alloc _) HL.out ⟨w2.heap.size, 0, none⟩ 1 (z) rfl (cell_new1 w2 _ _) (by omega) (by simp <;> omega) ?_); intro g' E' w5 hg' own5 ht5; have hf := Lib.hid (fin (z) (by omega) (by omega) g' E' w5 hg' own5 ht5); clear ht5 hg')
        clear fin
        go_roundw
        case rel => exact ⟨j + 1, ds ++ [z], g', E', by omega, by go_num, by simp [HL.out], rfl, hf.out.2.1, hf.out.1, own5, hf.out.2.2.1, hf.out.2.2.2⟩
        case measure => (simp [intOf]) <;> omega
    · obtain rfl : j = n := by omega
      go_wp2_with fail
      exact bodyPost_ret (v := .slice (some ⟨g, 0, none⟩) j E) (by simp [results, Tryd.results128, go_sem]) rfl ⟨ds, some ⟨g, 0, none⟩, E, rfl, HL.out, hd, ow.wide (by have := HG.out; omega) (by omega), ht, hsrc⟩

/-- A register that has been drawn. -/
structure DrawnR (b : Int) (ds : List Int) (m : Nat) : Prop where
  b0 : 2 ≤ b
  b1 : b ≤ 12
  n0 : 1 ≤ ds.length
  n1 : ds.length ≤ m
  digs : DigsOf b ds
/-- A register in a box, whose base has been chosen. -/
def RegAt (w : World) (B : Nat) (wx : World) : Prop := ∃ b : Int, 2 ≤ b ∧ b ≤ 12 ∧ Bx wx B 26 #[.int .i64 b, .slice none 0 0] ∧ Touch B (B + 1) w wx
set_option maxHeartbeats 8000000 in
theorem draw02_any (s K m : Nat) (w : World) (h : Src w s K) (hK : K ≤ 700000) (m0 : 1 ≤ m) (m1 : m ≤ 16) :
    Calls Tryd.prog 170 #[.pointer (some ⟨s, 0, none⟩), .int .i64 (m : Nat)] w fun e w' => ∃ b ds A C, e = .returned (.agg #[.int .i64 b, .slice A (List.length ds) C]) ∧ DrawnR b ds m ∧
      Own 2 w' w.heap.size w'.heap.size (.slice A ds.length C) ds ∧ Touch s (s + 1) w w' ∧ Src w' s (K + 6 + 4 * m) := by
  have hs := h.lt
  obtain ⟨r, hr⟩ : ∃ r, r = w.heap.size := ⟨_, rfl⟩
  obtain ⟨u, hu⟩ : ∃ u, u = w.alloc (.cells #[.int .i64 0, .slice none 0 0] 26) := ⟨_, rfl⟩
  have br : Bx u r 26 #[.int .i64 0, .slice none 0 0] := by rw [hu, hr]; exact Bx.new _ _ _
  have hbu : Below w.heap.size w u := by rw [hu]; exact (by repeat (first | exact Below.refl _ _ | refine Below.setCell ?_ (by first | omega | (simp <;> omega)) _ | refine Below.alloc ?_ (by first | omega | (simp <;> omega)) _ | refine Below.drew ?_))
  have hsu : u.heap.size = r + 1 := by rw [hu, hr]; simp
  have su : Src u s K := h.lo hbu hs
  have tu : Touch s (s + 1) w u := Below.touch hbu
  have HU := Lib.hid hu
  have HR := Lib.hid hr
  clear hu h hbu
  have hsr : s < r := by omega
  go_enter Tryd.func170, Tryd.ntmps170
  go_wp2_with fail
  rw [← HU.out, ← hr]
  clear hr
  refine (pick_any s K 11 u su (by omega) (by omega)).mono ?_
  rintro e w1 ⟨z, rfl, z0, z1, hs1, ht1⟩
  have v1 : IntKind.i64.wrap (2 + z) = 2 + z := fits_int _ (by omega) (by omega)
  have hl1 := ht1.size
  replace br := br.touch ht1 (by omega)
  replace tu := tu.trans ht1
  clear ht1 su
  go_wp2_with fail
  obtain ⟨B, hB⟩ : ∃ B, B = w1.heap.size := ⟨_, rfl⟩
  obtain ⟨v, hv⟩ : ∃ v, v = w1.alloc (.cells #[.int .i64 (2 + z), .slice none 0 0] 26) := ⟨_, rfl⟩
  rw [← hv, ← hB]
  have hbv : Below w1.heap.size w1 v := by rw [hv]; exact (by repeat (first | exact Below.refl _ _ | refine Below.setCell ?_ (by first | omega | (simp <;> omega)) _ | refine Below.alloc ?_ (by first | omega | (simp <;> omega)) _ | refine Below.drew ?_))
  have bB : Bx v B 26 #[.int .i64 (2 + z), .slice none 0 0] := by rw [hv, hB]; exact Bx.new _ _ _
  have hvz : v.heap.size = B + 1 := by rw [hv, hB]; simp
  have sv := hs1.lo hbv (by omega)
  replace tu := tu.trans (Below.touch hbv)
  replace br := br.below hbv
  clear hv hbv hs1
  have hrB : r < B := by omega
  refine (one_any s _ 2 v sv (by omega) (by omega)).mono ?_
  rintro e w2 ⟨x, rfl, hs2, ht2⟩
  have hl2 := ht2.size
  replace bB := bB.touch ht2 (by omega)
  replace br := br.touch ht2 (by omega)
  replace tu := tu.trans ht2
  clear ht2 sv
  have HB := Lib.hid hB
  have hb0 : 2 ≤ 2 + z ∧ 2 + z ≤ 12 := by omega
  clear hB z0 z1 v1
  go_upto_if 11 with fail
  go_cut [5] from 12 (fun s5 wx => s5 = .pointer (some ⟨B, 0, none⟩) ∧ RegAt w2 B wx)
  case first =>
    have c0 := bB.at_ 0 rfl
    have f0 := bB.thaw 0
    have hBl := bB.lt
    cases x with
    | true =>
      go_wp2_with fail
      go_meet
      case rel => exact ⟨rfl, 10, by omega, by omega, bB.set_ 0 (.int .i64 10), (Touch.refl _ _ _).setCell (by simp) (by simp) _⟩
    | false =>
      go_wp2_with fail
      go_meet
      case rel => exact ⟨rfl, 2 + z, hb0.1, hb0.2, bB, Touch.refl _ _ _⟩
  case rest =>
    obtain ⟨rfl, b, b0, b1, b3, ht3⟩ := hcut
    obtain ⟨w3, rfl⟩ : ∃ v, v = wc := ⟨_, rfl⟩
    have hl3 := ht3.size
    replace br := br.touch ht3 (by omega)
    have hs3 := hs2.touch ht3 (by omega)
    replace tu := tu.then_ ht3 (by have := HR.out; omega)
    clear bB hs2 ht3
    have hB3 := b3.lt
    have k0 : ∀ w', Touch s (s + 1) w3 w' → w'.cell? ⟨B, 0, none⟩ = some (.int .i64 b) := fun _ h => keptT h (b3.at_ 0 rfl) (by omega)
    go_upto_region 4 with fail
    refine wp_region_marked (fun w' => Touch s (s + 1) w3 w') 12 (by kernel_rfl) ?_
    have hS : Touch s (s + 1) w3 w3.drew := ⟨rfl, rfl, rfl, Nat.le_refl _, fun _ _ _ => rfl⟩
    refine wpAnyM_take (i := 0) (v := ?_) rfl (by kernel_rfl) (by kernel_rfl) (by kernel_rfl) (by kernel_rfl) (by kernel_rfl) (fun _ _ _ h => h) hS (.inl ⟨by rfl, ?_⟩) ?_
    rotate_left 1
    · intro w' hS'; go_simp; try with_reducible rfl
    simp only [Act.put, List.setIfInBounds_toArray]
    refine wpAnyM_take (i := 1) (v := ?_) rfl (by kernel_rfl) (by kernel_rfl) (by kernel_rfl) (by kernel_rfl) (by kernel_rfl) (fun _ _ _ h => h) hS (.inl ⟨by rfl, ?_⟩) ?_
    rotate_left 1
    · intro w' hS'; go_simp; try with_reducible rfl
    simp only [Act.put]
    refine wpAnyM_take (i := 2) (v := ?_) rfl (by kernel_rfl) (by kernel_rfl) (by kernel_rfl) (by kernel_rfl) (by kernel_rfl) (fun _ _ _ h => h) hS (.inl ⟨by rfl, ?_⟩) ?_
    rotate_left 1
    · intro w' hS'; go_simp; try with_reducible rfl
    simp only [Act.put]
    refine wpAnyM_take (i := 3) (v := ?_) rfl (by kernel_rfl) (by kernel_rfl) (by kernel_rfl) (by kernel_rfl) (by kernel_rfl) (fun _ _ _ h => h) hS (.inl ⟨by rfl, ?_⟩) ?_
    rotate_left 1
    · intro w' hS'; go_simp; try with_reducible rfl
    simp only [Act.put]
    refine wpAnyM_take (i := 4) (v := ?_) rfl (by kernel_rfl) (by kernel_rfl) (by kernel_rfl) (by kernel_rfl) (by kernel_rfl) (fun _ _ _ h => h) hS (.inl ⟨by rfl, ?_⟩) ?_
    rotate_left 1
    · intro w' hS'; go_simp; try with_reducible rfl
    simp only [Act.put]
    refine wpAnyM_take (i := 5) (v := ?_) rfl (by kernel_rfl) (by kernel_rfl) (by kernel_rfl) (by kernel_rfl) (by kernel_rfl) (fun _ _ _ h => h) hS (.inl ⟨by rfl, ?_⟩) ?_
    rotate_left 1
    · intro w' hS'; go_simp; try with_reducible rfl
    simp only [Act.put]
    refine wpAnyM_take (i := 6) (v := ?_) rfl (by kernel_rfl) (by kernel_rfl) (by kernel_rfl) (by kernel_rfl) (by kernel_rfl) (fun _ _ _ h => h) hS (.inl ⟨by rfl, ?_⟩) ?_
    rotate_left 1
    · intro w' hS'; go_simp; try with_reducible rfl
    simp only [Act.put]
    clear k0
    refine wpAnyM_one (i := 7) (by kernel_rfl) rfl (by rfl) (fun K hK => ?_)
    go_simp
    refine (l02Most_any b w3.drew b0 (by omega)).mono ?_
    rintro e w4 ⟨n, rfl, n0, n1, rfl⟩
    refine hK _ _ (.inr hS) ?_
    try simp only [Act.put, List.setIfInBounds_toArray]
    clear hK K
    refine wpAnyM_one (i := 8) (by kernel_rfl) rfl (by rfl) (fun K hK => ?_)
    go_simp
    refine (l00Min_any (m : Nat) (n : Nat) w3.drew).mono ?_
    rintro e w4 ⟨rfl, hw⟩
    subst w4
    refine hK _ _ (.inr hS) ?_
    try simp only [Act.put, List.setIfInBounds_toArray]
    clear hK K
    refine wpAnyM_one (i := 9) (by kernel_rfl) rfl (by rfl) (fun K hK => ?_)
    go_simp
    refine (pick_any s _ _ w3.drew (hs3.lo (L := w3.heap.size) ((Below.refl _ _).drew) (by omega)) (by omega) (by omega)).mono ?_
    rintro e w5 ⟨x, rfl, x0, x1, hs5, ht5⟩
    have hx : x ≤ (m : Int) - 1 := by omega
    replace hS := hS.trans ht5
    refine hK _ _ (.inr hS) ?_
    try simp only [Act.put, List.setIfInBounds_toArray]
    clear hK K
    have v2 : IntKind.i64.wrap (1 + x) = 1 + x := fits_int _ (by omega) (by omega)
    obtain ⟨N, hN⟩ : ∃ N : Nat, 1 + x = (N : Int) := ⟨(1 + x).toNat, by omega⟩
    have hN0 : 1 ≤ N ∧ N ≤ m := by omega
    rw [hN] at v2
    refine wpAnyM_one (i := 10) (by kernel_rfl) rfl (by rfl) (fun K hK => ?_)
    go_simp
    refine hK _ _ (.inr hS) ?_
    try simp only [Act.put, List.setIfInBounds_toArray]
    clear hK K
    refine wpAnyM_one (i := 11) (by kernel_rfl) rfl (by rfl) (fun K hK => ?_)
    go_simp
    refine (drawDigits_any s _ b N w5 hs5 (by omega) b0 (by omega) (by omega)).mono ?_
    rintro e w6 ⟨ds, A, C, rfl, hds, hdg, ow, ht6, hs6⟩
    have hl5 := hS.size
    replace hS := hS.trans ht6
    refine hK _ _ (.inr hS) ?_
    try simp only [Act.put, List.setIfInBounds_toArray]
    clear hK K
    have hl6 := hS.size
    have b6 := b3.touch hS (by omega)
    have br6 := br.touch hS (by omega)
    have f1 := b6.thaw 1
    have c1 := b6.at_ 1 rfl
    refine wpAnyM_one (i := 12) (by kernel_rfl) rfl (by rfl) (fun K hK => ?_)
    go_simp
    refine hK _ _ (.inr hS) ?_
    try simp only [Act.put, List.setIfInBounds_toArray]
    clear hK K
    refine wpAnyM_one (i := 13) (by kernel_rfl) rfl (by rfl) (fun K hK => ?_)
    go_simp
    refine hK _ _ (.inl rfl) ?_
    clear hK K
    refine wpAnyM_done (by kernel_rfl) ?_ _
    obtain ⟨w7, hw7⟩ : ∃ v, v = w6.setCell ⟨B, 1, none⟩ (.slice A N C) := ⟨_, rfl⟩
    rw [← hw7]
    have b7 : Bx w7 B 26 #[.int .i64 b, .slice A N C] := by rw [hw7]; exact b6.set_ 1 _
    have br7 : Bx w7 r 26 #[.int .i64 0, .slice none 0 0] := by rw [hw7]; exact br6.far (by simp; omega) _
    have hwz : w7.heap.size = w6.heap.size := by rw [hw7]; simp
    have tt : Touch B (B + 1) w6 w7 := by rw [hw7]; exact (Touch.refl _ _ _).setCell (by simp) (by simp) _
    have ow7 : Own 2 w7 w5.heap.size w7.heap.size (.slice A N C) ds := by rw [hwz]; exact ow.touch tt (.inr (by omega))
    have tu7 := (tu.trans hS).then_ tt (by have := HR.out; omega)
    have hs7 := hs6.touch tt (by omega)
    clear hw7 c1 f1
    have d0 := b7.at_ 0 rfl
    have d1 := b7.at_ 1 rfl
    have c0 := br7.at_ 0 rfl
    have c1 := br7.at_ 1 rfl
    have f0 := br7.thaw 0
    have f1 := br7.thaw 1
    have hr7 := br7.lt
    have bz := (br7.set_ 0 (.int .i64 b)).set_ 1 (.slice A N C)
    have r0 := bz.at_ 0 rfl
    have r1 := bz.at_ 1 rfl
    go_wp2_with fail
    refine bodyPost_ret (v := .agg #[.int .i64 b, .slice A N C]) (by simp [results, Tryd.results170, go_sem, r0, r1]) rfl ?_
    subst hds
    refine ⟨b, ds, A, C, rfl, ⟨b0, b1, hN0.1, hN0.2, hdg⟩, ?_, ?_, ?_⟩
    · exact ((ow7.setCell (p := ⟨r, 0, none⟩) (.inl (by simp; omega)) (.int .i64 b)).setCell (p := ⟨r, 1, none⟩) (.inl (by simp; omega)) (.slice A ds.length C)).wide (by have := HR.out; omega) (by simp)
    · exact tu7.then_ (((Touch.refl r (r + 1) w7).setCell (by simp) (by simp) _).setCell (by simp) (by simp) _) (by have := HR.out; omega)
    · exact (hs7.touch (((Touch.refl r (r + 1) w7).setCell (by simp) (by simp) _).setCell (by simp) (by simp) _) (by omega)).mono (by omega)

end Go.Proofs.YtlahobdopmdfmaaDoor

/- Among -/
namespace Go.Proofs.YtlahobdopmdfmaaDoor
open Go.RowKit

theorem rd_at0 {w : World} {b : Nat} {zs : List Int} {k : Nat} (h : Rd w (some ⟨b, 0, none⟩) zs) (hk : k < zs.length) : w.cell? ⟨b, k, none⟩ = some (.int .i64 (nth zs k)) := by
  obtain ⟨b', o', e, hc⟩ := h.at_ hk
  injection e with e
  injection e with e1 e2
  subst e1 e2
  simpa using hc
theorem among_any (s K g c : Nat) (zs : List Int) (w : World) (h : Src w s K) (hK : K ≤ 800000) (hz : Rd w (some ⟨g, 0, none⟩) zs) (hg : s < g) (h1 : 1 ≤ zs.length) (h2 : zs.length ≤ 1000) :
    Calls Tryd.prog 116 #[.pointer (some ⟨s, 0, none⟩), .slice (some ⟨g, 0, none⟩) zs.length c] w fun e w' => ∃ z, e = .returned (.int .i64 z) ∧ z ∈ zs ∧ Src w' s (K + 2) ∧ Touch s (s + 1) w w' := by
  go_enter Tryd.func116, Tryd.ntmps116
  go_wp2_with fail
  refine (pick_any s K (zs.length : Int) w h (by omega) (by omega)).mono ?_
  rintro e w1 ⟨z, rfl, z0, z1, hs1, ht1⟩
  obtain ⟨k, rfl⟩ := Int.eq_ofNat_of_zero_le z0
  have hk : k < zs.length := by omega
  have hc := keptT ht1 (rd_at0 hz hk) (by omega)
  have HM := Lib.hid (show nth zs k ∈ zs by rw [nth_get hk]; exact List.getElem_mem hk)
  clear z0 z1 hz
  go_wp2_with fail
  go_ret
  exact ⟨nth zs k, rfl, HM.out, hs1, ht1⟩
theorem rd_new (w : World) (zs : List Int) (h : zs.length ≤ 1000) : Rd (w.alloc (.cells (zs.map (Value.int .i64)).toArray 2)) (some ⟨w.heap.size, 0, none⟩) zs := by
  refine ⟨by omega, fun _ => ⟨w.heap.size, 0, rfl, fun i hi => ?_⟩⟩
  rw [Nat.zero_add, (Bx.new w (zs.map (Value.int .i64)).toArray 2).cell i, nth_get hi]
  simp [hi]

theorem mid64 {z : Int} (h0 : -1000000 ≤ z) (h1 : z ≤ 1000000) : I64 z := by
  unfold I64
  simp [Lit.wf, IntKind.min, IntKind.max, IntKind.signed, IntKind.bits]
  omega
end Go.Proofs.YtlahobdopmdfmaaDoor

/- MadM -/
namespace Go.Proofs.YtlahobdopmdfmaaDoor
open Go.RowKit

/-- A machine that is drawn. -/
structure DrawnM (m : Mac) : Prop where
  ok : macB m = true
  b : m.b1 ≤ 12
  n1 : m.z1.length ≤ 4
  n2 : m.z2.length ≤ 8
  n3 : m.z3.length ≤ 5

theorem pow_drawn {b : Int} {n k : Nat} (b0 : 2 ≤ b) (b1 : b ≤ 12) (h : n ≤ k) (hk : k ≤ 8) : b ^ n - 1 ≤ 1000000000000 := by
  have h1 : ∀ k : Nat, b ^ k ≤ 12 ^ k := fun k => by
    induction k with
    | zero => simp
    | succ k ih => rw [Int.pow_succ, Int.pow_succ]; exact Int.mul_le_mul ih b1 (by omega) (Int.pow_nonneg (by omega))
  have h2 := h1 n
  have h3 : n = 0 ∨ n = 1 ∨ n = 2 ∨ n = 3 ∨ n = 4 ∨ n = 5 ∨ n = 6 ∨ n = 7 ∨ n = 8 := by omega
  rcases h3 with e | e | e | e | e | e | e | e | e <;> rw [e] at h2 ⊢ <;> (refine Int.le_trans (Int.sub_le_sub_right h2 1) ?_) <;> decide
theorem drawn_mk {b p : Int} {z1 z2 z3 : List Int} (b0 : 2 ≤ b) (b1 : b ≤ 12) (n0 : 1 ≤ z1.length) (n1 : z1.length ≤ 4) (n2 : z1.length ≤ z2.length) (n3 : z2.length ≤ 8) (n4 : 1 ≤ z3.length) (n5 : z3.length ≤ 5)
    (d1 : DigsM b z1) (d2 : DigsM b z2) (d3 : DigsM b z3) (p0 : 0 ≤ p) (p1 : p + z1.length ≤ z2.length) (p2 : p < z3.length) : DrawnM ⟨b, z1, b, z2, b, z3, p⟩ := by
  have g1 : okB b z1 = true := okB_digs b0 (by omega) n0 (by omega) d1 (pow_drawn b0 b1 (k := 8) (by omega) (by omega))
  have g2 : okB b z2 = true := okB_digs b0 (by omega) (by omega) (by omega) d2 (pow_drawn b0 b1 (k := 8) (by omega) (by omega))
  have g3 : okB b z3 = true := okB_digs b0 (by omega) (by omega) (by omega) d3 (pow_drawn b0 b1 (k := 8) (by omega) (by omega))
  have g4 : b ^ z2.length - 1 ≤ 1000000000000 := pow_drawn b0 b1 (k := 8) (by omega) (by omega)
  have g5 : b ^ z3.length - 1 ≤ 1000000000000 := pow_drawn b0 b1 (k := 8) (by omega) (by omega)
  have g6 : p ≤ min ((z2.length : Int) - z1.length + 1) z3.length - 1 := by omega
  refine ⟨?_, b1, n1, n3, n5⟩
  unfold macB
  rw [decide_eq_true_eq]
  exact ⟨g1, g2, g3, rfl, rfl, g4, g5, n2, p0, g6⟩
theorem drawn_parts {m : Mac} (h : DrawnM m) : ∃ b z1 z2 z3 p, m = ⟨b, z1, b, z2, b, z3, p⟩ ∧ 2 ≤ b ∧ b ≤ 12 ∧ 1 ≤ List.length z1 ∧ List.length z1 ≤ 4 ∧ z1.length ≤ List.length z2 ∧ z2.length ≤ 8 ∧ 1 ≤ List.length z3 ∧ z3.length ≤ 5 ∧ DigsM b z1 ∧ DigsM b z2 ∧ DigsM b z3 ∧ 0 ≤ p ∧ p + z1.length ≤ z2.length ∧ p < z3.length := by
  obtain ⟨e2, e3, b0, b1, n0, n12, n2, n3, n4, p0, p1, p2, d1, d2, d3⟩ := macB_facts h.ok
  have hb := h.b
  have h1 := h.n1
  have h2 := h.n2
  have h3 := h.n3
  obtain ⟨b, z1, c, z2, d, z3, p⟩ := m
  obtain rfl : c = b := e2
  obtain rfl : d = c := e3
  exact ⟨_, _, _, _, _, rfl, b0, hb, n0, h1, n12, h2, n3, h3, d1, d2, d3, p0, p1, p2⟩
theorem DrawnM.put1 {m : Mac} (h : DrawnM m) {ds : List Int} (hl : ds.length = m.z1.length) (hd : DigsM m.b1 ds) : DrawnM ⟨m.b1, ds, m.b2, m.z2, m.b3, m.z3, m.p⟩ := by
  obtain ⟨b, z1, z2, z3, p, rfl, b0, b1, n0, n1, n2, n3, n4, n5, d1, d2, d3, p0, p1, p2⟩ := drawn_parts h
  simp only at hl hd ⊢
  exact drawn_mk b0 b1 (by omega) (by omega) (by omega) n3 n4 n5 hd d2 d3 p0 (by omega) p2
theorem DrawnM.put2 {m : Mac} (h : DrawnM m) {ds : List Int} (hl : ds.length = m.z2.length) (hd : DigsM m.b1 ds) : DrawnM ⟨m.b1, m.z1, m.b2, ds, m.b3, m.z3, m.p⟩ := by
  obtain ⟨b, z1, z2, z3, p, rfl, b0, b1, n0, n1, n2, n3, n4, n5, d1, d2, d3, p0, p1, p2⟩ := drawn_parts h
  simp only at hl hd ⊢
  exact drawn_mk b0 b1 n0 n1 (by omega) (by omega) n4 n5 d1 hd d3 p0 (by omega) p2
theorem DrawnM.move {m : Mac} (h : DrawnM m) {k : Int} (k0 : 0 ≤ k) (k1 : k ≤ plcs m - 1) : DrawnM ⟨m.b1, m.z1, m.b2, m.z2, m.b3, m.z3, k⟩ := by
  obtain ⟨b, z1, z2, z3, p, rfl, b0, b1, n0, n1, n2, n3, n4, n5, d1, d2, d3, p0, p1, p2⟩ := drawn_parts h
  unfold plcs at k1
  simp only at k1 ⊢
  exact drawn_mk b0 b1 n0 n1 n2 n3 n4 n5 d1 d2 d3 k0 (by omega) (by omega)
theorem doM_b (m : Mac) (k : Int) : (doM m k).1.b1 = m.b1 := by
  unfold doM shfM trnM
  repeat' split
  all_goals rfl
theorem DrawnM.do_ {m : Mac} (h : DrawnM m) (k : Int) : DrawnM (doM m k).1 := by
  obtain ⟨h1, h2, h3⟩ := doM_len m k
  exact ⟨doM_ok h.ok k, by rw [doM_b]; exact h.b, by rw [h1]; exact h.n1, by rw [h2]; exact h.n2, by rw [h3]; exact h.n3⟩
theorem drawn_plcs {m : Mac} (h : DrawnM m) : 1 ≤ plcs m ∧ plcs m ≤ 5 := by
  obtain ⟨b, z1, z2, z3, p, rfl, b0, b1, n0, n1, n2, n3, n4, n5, d1, d2, d3, p0, p1, p2⟩ := drawn_parts h
  unfold plcs
  simp only
  omega

theorem touch_lo {a b c : World} {lo hi L : Nat} (h : Touch lo hi a b) (hb : Below L b c) (hL : a.heap.size ≤ L) : Touch lo hi a c :=
  ⟨hb.os.trans h.os, hb.tape.trans h.tape, hb.output.trans h.output, Nat.le_trans h.size hb.size, fun k hk ho => (hb.block k (by omega)).trans (h.block k hk ho)⟩
theorem Wm.touch {w w' : World} {L p lo hi : Nat} {m : Mac} {A1 : Option Addr} {C1 : Nat} {A2 : Option Addr} {C2 : Nat} {A3 : Option Addr} {C3 : Nat} (h : Wm w L p m A1 C1 A2 C2 A3 C3) (ht : Touch lo hi w w') (hL : hi ≤ L) : Wm w' L p m A1 C1 A2 C2 A3 C3 := by
  obtain ⟨l1, h1, l2, h2, l3, h3, o1, o2, o3, s⟩ := h.ex
  have := ht.size
  exact ⟨h.bx.touch ht (.inr (by have := h.lp; omega)), h.lp, l1, h1, l2, h2, l3, h3, o1.touch ht (.inr (by omega)), o2.touch ht (.inr (by omega)), o3.touch ht (.inr (by omega)), by omega⟩
theorem Wm.put1 {w v : World} {L p : Nat} {m : Mac} {A1 : Option Addr} {C1 : Nat} {A2 : Option Addr} {C2 : Nat} {A3 : Option Addr} {C3 : Nat} (h : Wm w L p m A1 C1 A2 C2 A3 C3) {A : Option Addr} {C n : Nat} {ds : List Int} (ho : Own 2 w (v.heap.size) w.heap.size (.slice A n C) ds) (hn : n = ds.length)
    (hvw : v.heap.size ≤ w.heap.size) (hp : p < v.heap.size) (hL : L ≤ v.heap.size) (hs : ∃ l1 h1 l2 h2 l3 h3 : Nat, Own 2 w l1 h1 (.slice A1 m.z1.length C1) m.z1 ∧ Own 2 w l2 h2 (.slice A2 m.z2.length C2) m.z2 ∧ Own 2 w l3 h3 (.slice A3 m.z3.length C3) m.z3 ∧
    L ≤ l1 ∧ L ≤ l2 ∧ L ≤ l3 ∧ h1 ≤ v.heap.size ∧ h2 ≤ v.heap.size ∧ h3 ≤ v.heap.size ∧ (h1 ≤ l2 ∨ h2 ≤ l1) ∧ (h1 ≤ l3 ∨ h3 ≤ l1) ∧ (h2 ≤ l3 ∨ h3 ≤ l2) ∧ (p < l1 ∨ h1 ≤ p) ∧ (p < l2 ∨ h2 ≤ p) ∧ (p < l3 ∨ h3 ≤ p)) :
    Wm (w.setCell ⟨p, 1, none⟩ (.slice A n C)) L p ⟨m.b1, ds, m.b2, m.z2, m.b3, m.z3, m.p⟩ A C A2 C2 A3 C3 ∧ Wm (w.setCell ⟨p, 3, none⟩ (.slice A n C)) L p ⟨m.b1, m.z1, m.b2, ds, m.b3, m.z3, m.p⟩ A1 C1 A C A3 C3 := by
  obtain ⟨l1, h1, l2, h2, l3, h3, o1, o2, o3, s⟩ := hs
  subst hn
  constructor
  · exact ⟨h.bx.set_ 1 _, h.lp, v.heap.size, w.heap.size, l2, h2, l3, h3, ho.setCell (by simp; omega) _, o2.setCell (by simp; omega) _, o3.setCell (by simp; omega) _, by simp; omega⟩
  · exact ⟨h.bx.set_ 3 _, h.lp, l1, h1, v.heap.size, w.heap.size, l3, h3, o1.setCell (by simp; omega) _, ho.setCell (by simp; omega) _, o3.setCell (by simp; omega) _, by simp; omega⟩

/-- What has been drawn so far. -/
structure Mq (w : World) (s r N p : Nat) (m : Mac) (X : World) (A1 : Option Addr) (C1 : Nat) (A2 : Option Addr) (C2 : Nat) (A3 : Option Addr) (C3 : Nat) : Prop where
  wm : Wm X (r + 1) p m A1 C1 A2 C2 A3 C3
  br : Bx X r 28 #[.int .i64 0, .slice none 0 0, .int .i64 0, .slice none 0 0, .int .i64 0, .slice none 0 0, .int .i64 0]
  src : Src X s N
  t : Touch s (s + 1) w X
  dr : DrawnM m
  rw_ : r = w.heap.size
  sr : s < r
theorem Mq.pick {w X Y : World} {s r N N' p : Nat} {m : Mac} {A1 : Option Addr} {C1 : Nat} {A2 : Option Addr} {C2 : Nat} {A3 : Option Addr} {C3 : Nat} (h : Mq w s r N p m X A1 C1 A2 C2 A3 C3) (ht : Touch s (s + 1) X Y) (hs : Src Y s N') : Mq w s r N' p m Y A1 C1 A2 C2 A3 C3 :=
  ⟨h.wm.touch ht (by have := h.sr; omega), h.br.touch ht (.inr (by have := h.sr; omega)), hs, h.t.trans ht, h.dr, h.rw_, h.sr⟩
theorem Mq.low {w X Y : World} {s r N p : Nat} {m : Mac} {A1 : Option Addr} {C1 : Nat} {A2 : Option Addr} {C2 : Nat} {A3 : Option Addr} {C3 : Nat} (h : Mq w s r N p m X A1 C1 A2 C2 A3 C3) (hb : Below X.heap.size X Y) : Mq w s r N p m Y A1 C1 A2 C2 A3 C3 :=
  ⟨h.wm.below hb, h.br.below hb, h.src.lo hb h.src.lt, h.t.trans ⟨hb.os, hb.tape, hb.output, hb.size, fun k hk _ => hb.block k hk⟩, h.dr, h.rw_, h.sr⟩
theorem Mq.do_ {w X Y : World} {s r N p : Nat} {m m' : Mac} {A1 : Option Addr} {C1 : Nat} {A2 : Option Addr} {C2 : Nat} {A3 : Option Addr} {C3 : Nat} (h : Mq w s r N p m X A1 C1 A2 C2 A3 C3) (hW : WmE Y (r + 1) p m') (hb : Below (r + 1) X Y) (hd : DrawnM m') : ∃ (A1 : Option Addr) (C1 : Nat) (A2 : Option Addr) (C2 : Nat) (A3 : Option Addr) (C3 : Nat), Mq w s r N p m' Y A1 C1 A2 C2 A3 C3 := by
  obtain ⟨A1, C1, A2, C2, A3, C3, hW⟩ := hW
  exact ⟨A1, C1, A2, C2, A3, C3, hW, (hb.block r (Nat.lt_succ_self _)).trans h.br, h.src.lo hb (by have := h.sr; omega), touch_lo h.t hb (by have := h.rw_; omega), hd, h.rw_, h.sr⟩
theorem Mq.move {w X : World} {s r N p : Nat} {m : Mac} {A1 : Option Addr} {C1 : Nat} {A2 : Option Addr} {C2 : Nat} {A3 : Option Addr} {C3 : Nat} (h : Mq w s r N p m X A1 C1 A2 C2 A3 C3) {k : Int} (k0 : 0 ≤ k) (k1 : k ≤ plcs m - 1) : Mq w s r N p ⟨m.b1, m.z1, m.b2, m.z2, m.b3, m.z3, k⟩ (X.setCell ⟨p, 6, none⟩ (.int .i64 k)) A1 C1 A2 C2 A3 C3 := by
  have hb := h.wm.belowL 6 (.int .i64 k)
  exact ⟨h.wm.move k, (hb.block r (Nat.lt_succ_self _)).trans h.br, h.src.lo hb (by have := h.sr; omega), touch_lo h.t hb (by have := h.rw_; omega), h.dr.move k0 k1, h.rw_, h.sr⟩
theorem Mq.put {w X Y : World} {s r N N' p : Nat} {m : Mac} {A1 : Option Addr} {C1 : Nat} {A2 : Option Addr} {C2 : Nat} {A3 : Option Addr} {C3 : Nat} (h : Mq w s r N p m X A1 C1 A2 C2 A3 C3) {A : Option Addr} {C n : Nat} {ds : List Int} (ht : Touch s (s + 1) X Y) (hs : Src Y s N')
    (ho : Own 2 Y X.heap.size Y.heap.size (.slice A n C) ds) (hn : n = ds.length) (hd : DigsM m.b1 ds) :
    (ds.length = m.z1.length → Mq w s r N' p ⟨m.b1, ds, m.b2, m.z2, m.b3, m.z3, m.p⟩ (Y.setCell ⟨p, 1, none⟩ (.slice A n C)) A C A2 C2 A3 C3) ∧
    (ds.length = m.z2.length → Mq w s r N' p ⟨m.b1, m.z1, m.b2, ds, m.b3, m.z3, m.p⟩ (Y.setCell ⟨p, 3, none⟩ (.slice A n C)) A1 C1 A C A3 C3) := by
  have g := h.pick ht hs
  obtain ⟨l1, h1, l2, h2, l3, h3, o1, o2, o3, q⟩ := h.wm.ex
  have hsr := h.sr
  have W := g.wm.put1 (v := X) ho hn ht.size h.wm.bx.lt (by have := h.br.lt; omega) ⟨l1, h1, l2, h2, l3, h3, o1.touch ht (.inr (by omega)), o2.touch ht (.inr (by omega)), o3.touch ht (.inr (by omega)), q⟩
  have b1 := g.wm.belowL 1 (.slice A n C)
  have b3 := g.wm.belowL 3 (.slice A n C)
  constructor
  · exact fun hl => ⟨W.1, (b1.block r (Nat.lt_succ_self _)).trans g.br, g.src.lo b1 (by omega), touch_lo g.t b1 (by have := h.rw_; omega), h.dr.put1 hl hd, h.rw_, hsr⟩
  · exact fun hl => ⟨W.2, (b3.block r (Nat.lt_succ_self _)).trans g.br, g.src.lo b3 (by omega), touch_lo g.t b3 (by have := h.rw_; omega), h.dr.put2 hl hd, h.rw_, hsr⟩
end Go.Proofs.YtlahobdopmdfmaaDoor

/- CntM -/
namespace Go.Proofs.YtlahobdopmdfmaaDoor
open Go.RowKit

theorem cpow_le {b : Int} (b0 : 0 ≤ b) (b1 : b ≤ 12) : ∀ k : Nat, 0 ≤ b ^ k ∧ b ^ k ≤ (12 ^ k : Nat)
  | 0 => by simp
  | k + 1 => by
    have ih := cpow_le b0 b1 k
    rw [Int.pow_succ, Nat.pow_succ]
    have m1 := Int.mul_nonneg ih.1 b0
    have m2 : b ^ k * b ≤ b ^ k * 12 := Int.mul_le_mul_of_nonneg_left b1 ih.1
    omega
theorem pow12_le {n k : Nat} (h : n ≤ k) : 12 ^ n ≤ 12 ^ k := Nat.pow_le_pow_right (by decide) h
theorem cpow_bd {b : Int} (b0 : 0 ≤ b) (b1 : b ≤ 12) {n : Nat} (k : Nat) (h : n ≤ k) : 0 ≤ b ^ n ∧ b ^ n ≤ (12 ^ k : Nat) := by
  have h1 := cpow_le b0 b1 n
  have h2 := pow12_le h
  omega
theorem a2Power8_any (b : Int) (n : Nat) (w : World) (b0 : 2 ≤ b) (b1 : b ≤ 12) (n1 : n ≤ 8) :
    Calls Tryd.prog 22 #[.int .i64 b, .int .i64 (n : Nat)] w fun e w' => e = .returned (.int .i64 (b ^ n)) ∧ w' = w := by
  go_enter Tryd.func22, Tryd.ntmps22
  go_wp2
  go_loop [1, 5] (fun m o => ∃ j k : Nat, j + k = n ∧ m = .int .i64 (j : Nat) ∧ o = .int .i64 (b ^ k)) (fun m _ => (intOf m).toNat)
  case atStart => exact ⟨n, 0, rfl, rfl, by simp⟩
  case round =>
    obtain ⟨j, k, hjk, rfl, rfl⟩ := hrel
    match j, hjk with
    | 0, hjk =>
      obtain rfl : k = n := by omega
      go_wp2
      go_ret
      exact ⟨rfl, rfl⟩
    | j + 1, hjk =>
      have hp := cpow_bd (b := b) (n := k + 1) (by omega) b1 8 (by omega)
      have h12 : (12 ^ 8 : Nat) = 429981696 := by decide
      rw [h12] at hp
      have e := Int.pow_succ b k
      rw [e] at hp
      have hlt : (0 : Int) < ((j + 1 : Nat) : Int) := by omega
      have e1 : ((j + 1 : Nat) : Int) - 1 = (j : Int) := by omega
      have HE := Lib.hid e
      clear e h12
      go_wp2
      go_round
      case rel => exact ⟨j, k + 1, by omega, by first | go_num | rw [e1], by rw [HE.out]⟩
      case measure => (simp [intOf]) <;> omega

/-- What k strokes on m have turned: the machine y, the turns t. -/
structure Cnt (m : Mac) (k : Nat) (t : Int) (y : Mac) : Prop where
  dr : DrawnM y
  b : y.b1 = m.b1
  z : y.z1 = m.z1
  l2 : y.z2.length = m.z2.length
  l3 : y.z3.length = m.z3.length
  lo : -((k : Int) * 20736) ≤ t
  hi : t ≤ (k : Int) * 20736
  v2 : ∃ q, valR m.b1 y.z2 = t * valR m.b1 m.z1 + q * m.b1 ^ m.z2.length
  v3 : ∃ q, valR m.b1 y.z3 = t + q * m.b1 ^ m.z3.length
theorem unit_drawn {y : Mac} (h : DrawnM y) : 0 ≤ unitM y ∧ unitM y ≤ 20736 := by
  obtain ⟨e2, e3, b0, b1, n0, n12, n2, n3, n4, p0, p1, p2, d1, d2, d3⟩ := macB_facts h.ok
  have h3 := h.n3
  have := cpow_bd (b := y.b1) (n := y.p.toNat) (by omega) h.b 4 (by omega)
  have h12 : (12 ^ 4 : Nat) = 20736 := by decide
  rw [h12] at this
  unfold unitM
  omega
/-- The machine cleared. -/
theorem cnt_zero {m : Mac} (h : DrawnM m) : Cnt (doM m 5).1 0 0 (doM m 5).1 := by
  have e : (doM m 5).1 = ⟨m.b1, m.z1, m.b2, List.replicate m.z2.length 0, m.b3, List.replicate m.z3.length 0, m.p⟩ := by simp [doM]
  refine ⟨h.do_ 5, rfl, rfl, rfl, rfl, by simp, by simp, ⟨0, ?_⟩, ⟨0, ?_⟩⟩ <;> rw [e] <;> simp [mval_zero]
theorem cnt_add {m y : Mac} {k : Nat} {t : Int} (h : Cnt m k t y) (s : Int) (hs : s = 1 ∨ s = -1) (hd : DrawnM (trnM y s).1) : Cnt m (k + 1) (t + s * unitM y) (trnM y s).1 := by
  obtain ⟨e2, e3, b0, b1, n0, n12, n2, n3, n4, p0, p1, p2, d1, d2, d3⟩ := macB_facts h.dr.ok
  have hu := unit_drawn h.dr
  obtain ⟨q2, h2⟩ := h.v2
  obtain ⟨q3, h3⟩ := h.v3
  have hb := h.b
  have hz := h.z
  have hlo := h.lo
  have hhi := h.hi
  have g2 := movZ_val (b := m.b1) (by omega) y.z2 (s * (unitM y * valR y.b1 y.z1))
  have g3 := movZ_val (b := m.b1) (by omega) y.z3 (s * unitM y)
  rw [h2, h.l2, hb, hz] at g2
  rw [h3, h.l3] at g3
  refine ⟨hd, hb, hz, by show (movZ _ _ _).length = _; rw [movZ_len]; exact h.l2, by show (movZ _ _ _).length = _; rw [movZ_len]; exact h.l3, ?_, ?_, ?_, ?_⟩
  · rcases hs with h | h <;> subst h <;> omega
  · rcases hs with h | h <;> subst h <;> omega
  · refine ⟨q2 - (t * valR m.b1 m.z1 + q2 * m.b1 ^ m.z2.length + s * (unitM y * valR m.b1 m.z1)) / m.b1 ^ m.z2.length, ?_⟩
    show valR m.b1 (movZ y.b2 y.z2 (s * (unitM y * valR y.b1 y.z1))) = _
    rw [e2, hb, hz, g2, Int.emod_def, Int.sub_mul, Int.add_mul, Int.mul_comm (m.b1 ^ m.z2.length), Int.mul_assoc s]
    omega
  · refine ⟨q3 - (t + q3 * m.b1 ^ m.z3.length + s * unitM y) / m.b1 ^ m.z3.length, ?_⟩
    show valR m.b1 (movZ y.b3 y.z3 (s * unitM y)) = _
    rw [e3, hb, g3, Int.emod_def, Int.sub_mul, Int.mul_comm (m.b1 ^ m.z3.length)]
    omega
theorem cnt_shf {m y : Mac} {k : Nat} {t : Int} (h : Cnt m k t y) (s : Int) (hd : DrawnM (shfM y s).1) : Cnt m (k + 1) t (shfM y s).1 := by
  have hlo := h.lo
  have hhi := h.hi
  by_cases hc : 0 ≤ y.p + s ∧ y.p + s ≤ plcs y - 1
  · have e : (shfM y s).1 = ⟨y.b1, y.z1, y.b2, y.z2, y.b3, y.z3, y.p + s⟩ := by unfold shfM; rw [if_pos hc]
    rw [e] at hd ⊢
    exact ⟨hd, h.b, h.z, h.l2, h.l3, by omega, by omega, h.v2, h.v3⟩
  · have e : (shfM y s).1 = y := by unfold shfM; rw [if_neg hc]
    rw [e] at hd ⊢
    exact ⟨hd, h.b, h.z, h.l2, h.l3, by omega, by omega, h.v2, h.v3⟩
/-- A stroke more. -/
theorem cnt_step {m y : Mac} {k : Nat} {t x : Int} (h : Cnt m k t y) (h1 : 1 ≤ x) (h4 : x ≤ 4) :
    Cnt m (k + 1) (if x = 1 then t + unitM y else if x = 2 then t - unitM y else t) (doM y x).1 := by
  have hd := h.dr.do_ x
  rcases (show x = 1 ∨ x = 2 ∨ x = 3 ∨ x = 4 by omega) with e | e | e | e <;> subst e
  · have := cnt_add h 1 (.inl rfl) hd
    rw [Int.one_mul] at this
    exact this
  · have := cnt_add h (-1) (.inr rfl) hd
    rw [Int.neg_mul, Int.one_mul, ← Int.sub_eq_add_neg] at this
    exact this
  · exact cnt_shf h 1 hd
  · exact cnt_shf h (-1) hd
theorem cnt_val {m : Mac} {k : Nat} {t : Int} {y : Mac} (h : Cnt m k t y) (hk : k ≤ 10) :
    (-207360 ≤ t ∧ t ≤ 207360) ∧ (0 ≤ valR m.b1 m.z1 ∧ valR m.b1 m.z1 ≤ 20736) ∧ (0 ≤ valR y.b2 y.z2 ∧ valR y.b2 y.z2 ≤ 429981696) ∧ (0 ≤ valR y.b3 y.z3 ∧ valR y.b3 y.z3 ≤ 429981696) ∧
    (1 ≤ m.b1 ^ m.z2.length ∧ m.b1 ^ m.z2.length ≤ 429981696) ∧ (1 ≤ m.b1 ^ m.z3.length ∧ m.b1 ^ m.z3.length ≤ 429981696) ∧
    (-4299816960 ≤ t * valR m.b1 m.z1 ∧ t * valR m.b1 m.z1 ≤ 4299816960) ∧ (t * valR m.b1 m.z1 - valR y.b2 y.z2).tmod (m.b1 ^ m.z2.length) = 0 ∧ (t - valR y.b3 y.z3).tmod (m.b1 ^ m.z3.length) = 0 := by
  obtain ⟨e2, e3, b0, b1, n0, n12, n2, n3, n4, p0, p1, p2, d1, d2, d3⟩ := macB_facts h.dr.ok
  obtain ⟨q2, h2⟩ := h.v2
  obtain ⟨q3, h3⟩ := h.v3
  have hb := h.b
  have hz := h.z
  have hlo := h.lo
  have hhi := h.hi
  have k2 := h.dr.n2
  have k3 := h.dr.n3
  have k1 := h.dr.n1
  have hbb := h.dr.b
  have l2 := h.l2
  have l3 := h.l3
  have h8 : (12 ^ 8 : Nat) = 429981696 := by decide
  have h4 : (12 ^ 4 : Nat) = 20736 := by decide
  rw [hb] at b0 hbb d1 d2 d3
  rw [hz] at d1 k1
  have v1 := valR_lt (show 1 ≤ m.b1 by omega) d1
  have v2 := valR_lt (show 1 ≤ m.b1 by omega) d2
  have v3 := valR_lt (show 1 ≤ m.b1 by omega) d3
  have w1 := cpow_bd (b := m.b1) (n := m.z1.length) (by omega) hbb 4 k1
  have w2 := cpow_bd (b := m.b1) (n := m.z2.length) (by omega) hbb 8 (by omega)
  have w3 := cpow_bd (b := m.b1) (n := m.z3.length) (by omega) hbb 8 (by omega)
  rw [l2] at v2
  rw [l3] at v3
  rw [h8] at w2 w3
  rw [h4] at w1
  have p2' := pow_pos' (show 1 ≤ m.b1 by omega) m.z2.length
  have p3' := pow_pos' (show 1 ≤ m.b1 by omega) m.z3.length
  have ht : -207360 ≤ t ∧ t ≤ 207360 := by omega
  have ev2 : valR y.b2 y.z2 = valR m.b1 y.z2 := by rw [e2, hb]
  have ev3 : valR y.b3 y.z3 = valR m.b1 y.z3 := by rw [e3, hb]
  rw [ev2, ev3]
  refine ⟨ht, by omega, by omega, by omega, by omega, by omega, ?_, ?_, ?_⟩
  · have a1 : t * valR m.b1 m.z1 ≤ 207360 * valR m.b1 m.z1 := Int.mul_le_mul_of_nonneg_right ht.2 v1.1
    have a2 : -207360 * valR m.b1 m.z1 ≤ t * valR m.b1 m.z1 := Int.mul_le_mul_of_nonneg_right ht.1 v1.1
    omega
  · rw [h2, show t * valR m.b1 m.z1 - (t * valR m.b1 m.z1 + q2 * m.b1 ^ m.z2.length) = (-q2) * m.b1 ^ m.z2.length by rw [Int.neg_mul]; omega]
    exact Int.mul_tmod_left _ _
  · rw [h3, show t - (t + q3 * m.b1 ^ m.z3.length) = (-q3) * m.b1 ^ m.z3.length by rw [Int.neg_mul]; omega]
    exact Int.mul_tmod_left _ _
end Go.Proofs.YtlahobdopmdfmaaDoor

/- MadS -/
namespace Go.Proofs.YtlahobdopmdfmaaDoor
open Go.RowKit

theorem Mq.mono {w X : World} {s r N N' p : Nat} {m : Mac} {A1 : Option Addr} {C1 : Nat} {A2 : Option Addr} {C2 : Nat} {A3 : Option Addr} {C3 : Nat} (h : Mq w s r N p m X A1 C1 A2 C2 A3 C3) (hN : N ≤ N') : Mq w s r N' p m X A1 C1 A2 C2 A3 C3 := ⟨h.wm, h.br, h.src.mono hN, h.t, h.dr, h.rw_, h.sr⟩
/-- What is drawn, at the cut. -/
def MqE (w : World) (s r N p : Nat) (X : World) : Prop := ∃ (m : Mac) (A1 : Option Addr) (C1 : Nat) (A2 : Option Addr) (C2 : Nat) (A3 : Option Addr) (C3 : Nat), Mq w s r N p m X A1 C1 A2 C2 A3 C3

set_option maxRecDepth 100000 in
set_option maxHeartbeats 8000000 in
theorem l10Draw_any (s N : Nat) (w : World) (h : Src w s N) (hN : N ≤ 600000) :
    Calls Tryd.prog 86 #[.pointer (some ⟨s, 0, none⟩)] w fun e w' => ∃ (m : Mac) (A1 : Option Addr) (C1 : Nat) (A2 : Option Addr) (C2 : Nat) (A3 : Option Addr) (C3 : Nat), e = .returned (.agg #[.int .i64 m.b1, .slice A1 m.z1.length C1, .int .i64 m.b2, .slice A2 m.z2.length C2, .int .i64 m.b3, .slice A3 m.z3.length C3, .int .i64 m.p]) ∧ DrawnM m ∧
      Own3 2 w' w.heap.size w'.heap.size (.slice A1 m.z1.length C1) m.z1 (.slice A2 m.z2.length C2) m.z2 (.slice A3 m.z3.length C3) m.z3 ∧ Touch s (s + 1) w w' ∧ Src w' s (N + 100) := by
  have hs := h.lt
  obtain ⟨r, hr⟩ : ∃ r, r = w.heap.size := ⟨_, rfl⟩
  obtain ⟨u, hu⟩ : ∃ u, u = w.alloc (.cells #[.int .i64 0, .slice none 0 0, .int .i64 0, .slice none 0 0, .int .i64 0, .slice none 0 0, .int .i64 0] 28) := ⟨_, rfl⟩
  have br : Bx u r 28 #[.int .i64 0, .slice none 0 0, .int .i64 0, .slice none 0 0, .int .i64 0, .slice none 0 0, .int .i64 0] := by rw [hu, hr]; exact Bx.new _ _ _
  have hbu : Below w.heap.size w u := by rw [hu]; exact (by repeat (first | exact Below.refl _ _ | refine Below.setCell ?_ (by first | omega | (simp <;> omega)) _ | refine Below.alloc ?_ (by first | omega | (simp <;> omega)) _ | refine Below.drew ?_))
  have hsu : u.heap.size = r + 1 := by rw [hu, hr]; simp
  have su : Src u s N := h.lo hbu hs
  have tu : Touch s (s + 1) w u := Below.touch hbu
  have HU := Lib.hid hu
  have HR := Lib.hid hr
  clear hu h hbu
  have hsr : s < r := by omega
  go_enter Tryd.func86, Tryd.ntmps86
  go_wp2_with fail
  rw [← HU.out, ← hr]
  clear hr
  have hal : Below u.heap.size u (u.alloc (.cells ([10, 10, 10, 2, 3, 8, 12].map (Value.int .i64)).toArray 2)) := (Below.refl _ _).alloc (Nat.le_refl _) _
  have hrd := rd_new u [10, 10, 10, 2, 3, 8, 12] (by simp)
  rw [hsu] at hrd
  refine (among_any s _ (r + 1) 7 [10, 10, 10, 2, 3, 8, 12] _ (su.lo (L := u.heap.size) hal (by omega)) (by omega) hrd (by omega) (by simp) (by simp)).mono ?_
  rintro e w1 ⟨b, rfl, hb, s1, ht1⟩
  have hb0 : 2 ≤ b ∧ b ≤ 12 := by simp at hb; omega
  have t1 := (tu.trans (Below.touch hal)).trans ht1
  replace br := (br.below hal).touch ht1 (by omega)
  have hl1 := ht1.size
  clear hal hrd hb ht1 su tu
  go_wp2_with fail
  refine (pick_any s _ 4 w1 s1 (by omega) (by omega)).mono ?_
  rintro e w2 ⟨x, rfl, x0, x1, s2, ht⟩
  obtain ⟨n1, e1⟩ := Int.eq_ofNat_of_zero_le (show 0 ≤ 1 + x by omega)
  have v1 : IntKind.i64.wrap (1 + x) = (n1 : Int) := (fits_int _ (by omega) (by omega)).trans e1
  have hn1 : 1 ≤ n1 ∧ n1 ≤ 4 := by omega
  have t2 := t1.trans ht
  replace br := br.touch ht (by omega)
  clear ht s1 t1 hl1 x0 x1 e1
  go_wp2_with fail
  refine (pick_any s _ 5 w2 s2 (by omega) (by omega)).mono ?_
  rintro e w3 ⟨y, rfl, y0, y1, s3, ht⟩
  obtain ⟨n2, e2⟩ := Int.eq_ofNat_of_zero_le (show 0 ≤ (n1 : Int) + y by omega)
  have v2 : IntKind.i64.wrap ((n1 : Int) + y) = (n2 : Int) := (fits_int _ (by omega) (by omega)).trans e2
  have hn2 : n1 ≤ n2 ∧ n2 ≤ 8 := by omega
  have t3 := t2.trans ht
  replace br := br.touch ht (by omega)
  clear ht s2 t2 y0 y1 e2 v1
  go_wp2_with fail
  refine (pick_any s _ 5 w3 s3 (by omega) (by omega)).mono ?_
  rintro e w4 ⟨z, rfl, z0, z1, s4, ht⟩
  obtain ⟨n3, e3⟩ := Int.eq_ofNat_of_zero_le (show 0 ≤ 1 + z by omega)
  have v3 : IntKind.i64.wrap (1 + z) = (n3 : Int) := (fits_int _ (by omega) (by omega)).trans e3
  have hn3 : 1 ≤ n3 ∧ n3 ≤ 5 := by omega
  have t4 := t3.trans ht
  replace br := br.touch ht (by omega)
  clear ht s3 t3 z0 z1 e3 v2
  go_wp2_with fail
  refine (l10New_any b n1 n2 n3 w4 (by omega) (by omega) (by omega) (by omega) (by omega)).mono ?_
  clear v3
  rintro e w5 ⟨A1, C1, A2, C2, A3, C3, rfl, ow, hb⟩
  have hD : DrawnM ⟨b, digsR b n1 0, b, digsR b n2 0, b, digsR b n3 0, 0⟩ := by
    refine drawn_mk hb0.1 hb0.2 ?_ ?_ ?_ ?_ ?_ ?_ (digsR_bd (by omega) _ _) (digsR_bd (by omega) _ _) (digsR_bd (by omega) _ _) (by omega) ?_ ?_ <;> simp only [digsR_len] <;> omega
  have hZ : (digsR b n1 0).length = n1 ∧ (digsR b n2 0).length = n2 := ⟨digsR_len _ _ _, digsR_len _ _ _⟩
  obtain ⟨m, hm⟩ : ∃ m : Mac, m = ⟨b, digsR b n1 0, b, digsR b n2 0, b, digsR b n3 0, 0⟩ := ⟨_, rfl⟩
  rw [← hm] at hD ow
  have hmb : m.b1 = b ∧ m.z1.length = n1 ∧ m.z2.length = n2 := by rw [hm]; exact ⟨rfl, hZ⟩
  have HMC := Lib.hid hm
  clear hm hZ
  go_upto_region 5 with fail
  obtain ⟨p, hp⟩ : ∃ p, p = w5.heap.size := ⟨_, rfl⟩
  obtain ⟨V, hV⟩ : ∃ V, V = w5.alloc (.cells #[.int .i64 b, .slice A1 (digsR b n1 0).length C1, .int .i64 b, .slice A2 (digsR b n2 0).length C2, .int .i64 b, .slice A3 (digsR b n3 0).length C3, .int .i64 0] 28) := ⟨_, rfl⟩
  try rw [← hp, ← hV]
  have hQ : Mq w s r (N + 2 + 2 + 2 + 2) p m V A1 C1 A2 C2 A3 C3 := by
    have hbV : Below w5.heap.size w5 V := by rw [hV]; exact (Below.refl _ _).alloc (Nat.le_refl _) _
    have hbp : Bx V p 28 #[.int .i64 m.b1, .slice A1 m.z1.length C1, .int .i64 m.b2, .slice A2 m.z2.length C2, .int .i64 m.b3, .slice A3 m.z3.length C3, .int .i64 m.p] := by rw [HMC.out, hV, hp]; exact Bx.new _ _ _
    obtain ⟨l1, h1, l2, h2, l3, h3, o1, o2, o3, q⟩ := ow
    have hrl := br.lt
    have hl5 := hb.size
    have hlV := hbV.size
    have hr2 := HR.out
    refine ⟨⟨hbp, by omega, l1, h1, l2, h2, l3, h3, o1.below hbV, o2.below hbV, o3.below hbV, by omega⟩, (br.below hb).below hbV, (s4.lo hb (by omega)).lo hbV (by omega), touch_lo (touch_lo t4 hb (by omega)) hbV (by omega), hD, hr2, hsr⟩
  clear hV hp ow hb HMC t4 s4 br hD hsu HU
  go_wp2_with fail
  refine (drawDigits_any s _ b n1 V hQ.src (by omega) hb0.1 (by omega) (by omega)).mono ?_
  rintro e w6 ⟨ds, A, C, rfl, hl, hd, ow, ht, hs6⟩
  have hP := (hQ.put ht hs6 ow hl.symm (by rw [hmb.1]; exact hd)).1 (by rw [hl, hmb.2.1])
  have g6 := (hQ.pick ht hs6).wm.bx
  have c1 := g6.at_ 1 rfl
  have f1 := g6.thaw 1
  have hk1 : (⟨m.b1, ds, m.b2, m.z2, m.b3, m.z3, m.p⟩ : Mac).b1 = b ∧ (⟨m.b1, ds, m.b2, m.z2, m.b3, m.z3, m.p⟩ : Mac).z2.length = n2 := ⟨hmb.1, hmb.2.2⟩
  generalize (⟨m.b1, ds, m.b2, m.z2, m.b3, m.z3, m.p⟩ : Mac) = m2 at hP hk1
  clear ow ht hs6 hQ hmb hl hd g6
  go_upto_region 6 with fail
  obtain ⟨V2, hV⟩ : ∃ V2, V2 = w6.setCell ⟨p, 1, none⟩ (.slice A n1 C) := ⟨_, rfl⟩
  rw [← hV] at hP
  try rw [← hV]
  clear hV c1 f1
  go_wp2_with fail
  refine (one_any s _ 2 V2 hP.src (by omega) (by omega)).mono ?_
  rintro e w7 ⟨x, rfl, s7, ht⟩
  replace hP := hP.pick ht s7
  clear ht s7
  go_upto_if 32 with fail
  go_cut [6] from 39 (fun s6 wx => s6 = .pointer (some ⟨p, 0, none⟩) ∧ MqE w s r (N + 80) p wx)
  case first =>
    cases x with
    | false =>
      go_wp2_with fail
      go_meet
      case rel => exact ⟨rfl, _, _, _, _, _, _, _, hP.mono (by omega)⟩
    | true =>
      go_wp2_with fail
      refine (drawDigits_any s _ b n2 w7 hP.src (by omega) hb0.1 (by omega) (by omega)).mono ?_
      rintro e w8 ⟨ds, A', C', rfl, hl, hd, ow, ht, hs8⟩
      have hP2 := (hP.put ht hs8 ow hl.symm (by rw [hk1.1]; exact hd)).2 (by rw [hl, hk1.2])
      have g8 := (hP.pick ht hs8).wm.bx
      have c1 := g8.at_ 3 rfl
      have f1 := g8.thaw 3
      clear ow ht hs8 hP hl hd g8 hk1
      have hR := Lib.hid (hP2.mono (N' := N + 80) (by omega))
      clear hP2
      go_wp2_with fail
      go_meet
      case rel => exact ⟨rfl, _, _, _, _, _, _, _, hR.out⟩
  case rest =>
    clear hP hk1
    obtain ⟨rfl, m, A1, C1, A2, C2, A3, C3, hQ⟩ := hcut
    obtain ⟨w8, rfl⟩ : ∃ v, v = wc := ⟨_, rfl⟩
    have hpl := drawn_plcs hQ.dr
    have R := Tryd.results86
    go_wp2_with fail
    refine (l10Places_any p m A1 C1 A2 C2 A3 C3 w8 hQ.wm.bx ⟨by have := hQ.dr.n1; omega, by have := hQ.dr.n2; omega, by have := hQ.dr.n3; omega⟩).mono ?_
    rintro e w9 ⟨rfl, hb⟩
    replace hQ := hQ.low hb
    clear hb
    go_wp2_with fail
    refine (pick_any s _ (plcs m) w9 hQ.src (by omega) (by omega)).mono ?_
    rintro e w10 ⟨k, rfl, k0, k1, s10, ht⟩
    replace hQ := hQ.pick ht s10
    have c1 := hQ.wm.bx.at_ 6 rfl
    have f1 := hQ.wm.bx.thaw 6
    have hP := hQ.move k0 (by omega)
    clear ht s10 hQ hpl k0 k1
    generalize (⟨m.b1, m.z1, m.b2, m.z2, m.b3, m.z3, k⟩ : Mac) = m3 at hP
    go_upto_region 9 with fail
    obtain ⟨V3, hV⟩ : ∃ V, V = w10.setCell ⟨p, 6, none⟩ (.int .i64 k) := ⟨_, rfl⟩
    rw [← hV] at hP
    try rw [← hV]
    clear hV c1 f1
    go_wp2_with fail
    refine (pick_any s _ 5 V3 hP.src (by omega) (by omega)).mono ?_
    rintro e w11 ⟨k2, rfl, k0, k1, s11, ht⟩
    replace hP := hP.pick ht s11
    obtain ⟨j0, rfl⟩ := Int.eq_ofNat_of_zero_le k0
    have hj0 : j0 ≤ 4 := by omega
    clear ht s11 k0 k1
    go_upto_region 10 with fail
    go_loopw [7] (fun k wr => ∃ j : Nat, j ≤ 4 ∧ k = .int .i64 (j : Int) ∧ MqE w s r (N + 100 - 2 * j) p wr) (fun k _ => (intOf k).toNat)
    case atStart => exact ⟨j0, hj0, rfl, _, _, _, _, _, _, _, hP.mono (by omega)⟩
    case round =>
      clear hP
      obtain ⟨j, hj, rfl, m, A1, C1, A2, C2, A3, C3, hQ⟩ := hrel
      by_cases hlt : 0 < j
      · have hlt' : (0 : Int) < (j : Int) := by omega
        go_wp2_with fail
        refine (pick_any s _ 4 wr hQ.src (by omega) (by omega)).mono ?_
        rintro e w12 ⟨y, rfl, y0, y1, s12, ht⟩
        have v1 : IntKind.i64.wrap (1 + y) = 1 + y := fits_int _ (by omega) (by omega)
        replace hQ := hQ.pick ht s12
        clear ht s12
        go_wp2_with fail
        refine (l10Do_any (r + 1) p m A1 C1 A2 C2 A3 C3 (1 + y) w12 hQ.wm hQ.dr.ok (by omega) (by omega)).mono ?_
        rintro e w13 ⟨rfl, hW, hb⟩
        obtain ⟨B1, D1, B2, D2, B3, D3, hX⟩ := hQ.do_ hW hb (hQ.dr.do_ _)
        have HX := Lib.hid (hX.mono (N' := N + 100 - 2 * (j - 1)) (by omega))
        clear hQ hX hW hb v1 y0 y1
        go_wp2_with fail
        go_roundw
        case rel => exact ⟨j - 1, by omega, by go_num, _, _, _, _, _, _, _, HX.out⟩
        case measure => (simp [intOf]) <;> omega
      · obtain rfl : j = 0 := by omega
        have hsz : r = w.heap.size := HR.out
        have br := hQ.br
        have c0 := hQ.wm.bx.at_ 0 rfl
        have c1 := hQ.wm.bx.at_ 1 rfl
        have c2 := hQ.wm.bx.at_ 2 rfl
        have c3 := hQ.wm.bx.at_ 3 rfl
        have c4 := hQ.wm.bx.at_ 4 rfl
        have c5 := hQ.wm.bx.at_ 5 rfl
        have c6 := hQ.wm.bx.at_ 6 rfl
        have HO := Lib.hid hQ.wm.own
        have HT := Lib.hid hQ.t
        have HS := Lib.hid hQ.src
        have HD := Lib.hid hQ.dr
        have HZ := Lib.hid hsz
        clear hQ hsz
        have j0 := br.at_ 0 rfl
        have j1 := br.at_ 1 rfl
        have j2 := br.at_ 2 rfl
        have j3 := br.at_ 3 rfl
        have j4 := br.at_ 4 rfl
        have j5 := br.at_ 5 rfl
        have j6 := br.at_ 6 rfl
        have f0 := br.thaw 0
        have f1 := br.thaw 1
        have f2 := br.thaw 2
        have f3 := br.thaw 3
        have f4 := br.thaw 4
        have f5 := br.thaw 5
        have f6 := br.thaw 6
        have hl := br.lt
        have bz : Bx (((((((wr.setCell ⟨r, 0, none⟩ (.int .i64 m.b1)).setCell ⟨r, 1, none⟩ (.slice A1 m.z1.length C1)).setCell ⟨r, 2, none⟩ (.int .i64 m.b2)).setCell ⟨r, 3, none⟩ (.slice A2 m.z2.length C2)).setCell ⟨r, 4, none⟩ (.int .i64 m.b3)).setCell ⟨r, 5, none⟩ (.slice A3 m.z3.length C3)).setCell ⟨r, 6, none⟩ (.int .i64 m.p)) (r) 28 #[.int .i64 m.b1, .slice A1 m.z1.length C1, .int .i64 m.b2, .slice A2 m.z2.length C2, .int .i64 m.b3, .slice A3 m.z3.length C3, .int .i64 m.p] := bx_put7 br
        have r0 := bz.at_ 0 rfl
        have r1 := bz.at_ 1 rfl
        have r2 := bz.at_ 2 rfl
        have r3 := bz.at_ 3 rfl
        have r4 := bz.at_ 4 rfl
        have r5 := bz.at_ 5 rfl
        have r6 := bz.at_ 6 rfl
        clear bz
        go_wp2
        exact bodyPost_ret (v := .agg #[.int .i64 m.b1, .slice A1 m.z1.length C1, .int .i64 m.b2, .slice A2 m.z2.length C2, .int .i64 m.b3, .slice A3 m.z3.length C3, .int .i64 m.p]) (by simp [results, go_sem, r0, r1, r2, r3, r4, r5, r6]) rfl
          ⟨m, A1, C1, A2, C2, A3, C3, rfl, HD.out, (show Own3 2 _ (r + 1) wr.heap.size (.slice A1 m.z1.length C1) m.z1 (.slice A2 m.z2.length C2) m.z2 (.slice A3 m.z3.length C3) m.z3 from (((((((HO.out.setCell (p := ⟨r, 0, none⟩) (.inl (Nat.lt_succ_self _)) _).setCell (p := ⟨r, 1, none⟩) (.inl (Nat.lt_succ_self _)) _).setCell (p := ⟨r, 2, none⟩) (.inl (Nat.lt_succ_self _)) _).setCell (p := ⟨r, 3, none⟩) (.inl (Nat.lt_succ_self _)) _).setCell (p := ⟨r, 4, none⟩) (.inl (Nat.lt_succ_self _)) _).setCell (p := ⟨r, 5, none⟩) (.inl (Nat.lt_succ_self _)) _).setCell (p := ⟨r, 6, none⟩) (.inl (Nat.lt_succ_self _)) _)).wide (by have := HZ.out; omega) (by simp), touch_lo HT.out (L := r) (by repeat (first | with_reducible exact ((Below.refl _ _).mono (Nat.le_of_lt hl)) | with_reducible refine Below.setCell ?_ (by first | omega | (simp <;> omega)) _ | with_reducible refine Below.alloc ?_ (by first | omega | (simp <;> omega)) _ | with_reducible refine Below.drew ?_)) (by have := HZ.out; omega), (HS.out.lo (L := r) (by repeat (first | with_reducible exact ((Below.refl _ _).mono (Nat.le_of_lt hl)) | with_reducible refine Below.setCell ?_ (by first | omega | (simp <;> omega)) _ | with_reducible refine Below.alloc ?_ (by first | omega | (simp <;> omega)) _ | with_reducible refine Below.drew ?_)) hsr).mono (by omega)⟩

set_option maxRecDepth 100000 in
set_option maxHeartbeats 8000000 in
theorem a2Machine_any (a : Option Addr) (zs : List Int) (c : Nat) (w : World) (h : RdU w a zs) :
    Calls Tryd.prog 17 #[.slice a zs.length c] w fun e w' => ∃ (m : Mac) (A1 : Option Addr) (C1 : Nat) (A2 : Option Addr) (C2 : Nat) (A3 : Option Addr) (C3 : Nat), e = .returned (.agg #[.int .i64 m.b1, .slice A1 m.z1.length C1, .int .i64 m.b2, .slice A2 m.z2.length C2, .int .i64 m.b3, .slice A3 m.z3.length C3, .int .i64 m.p]) ∧ DrawnM m ∧
      Own3 2 w' w.heap.size w'.heap.size (.slice A1 m.z1.length C1) m.z1 (.slice A2 m.z2.length C2) m.z2 (.slice A3 m.z3.length C3) m.z3 ∧ Below w.heap.size w w' := by
  have R := Tryd.results17
  obtain ⟨r, hr⟩ : ∃ r, r = w.heap.size := ⟨_, rfl⟩
  obtain ⟨u, hu⟩ : ∃ u, u = w.alloc (.cells #[.int .i64 0, .slice none 0 0, .int .i64 0, .slice none 0 0, .int .i64 0, .slice none 0 0, .int .i64 0] 28) := ⟨_, rfl⟩
  have br : Bx u r 28 #[.int .i64 0, .slice none 0 0, .int .i64 0, .slice none 0 0, .int .i64 0, .slice none 0 0, .int .i64 0] := by rw [hu, hr]; exact Bx.new _ _ _
  have hbel : Below w.heap.size w u := by rw [hu]; exact (by repeat (first | exact Below.refl _ _ | refine Below.setCell ?_ (by first | omega | (simp <;> omega)) _ | refine Below.alloc ?_ (by first | omega | (simp <;> omega)) _ | refine Below.drew ?_))
  have HU := Lib.hid hu
  have HR := Lib.hid hr
  clear hu
  go_enter Tryd.func17, Tryd.ntmps17
  go_wp2_with fail
  rw [← HU.out, ← hr]
  clear hr
  refine (from_any a zs c u (h.below hbel)).mono ?_
  rintro e w1 ⟨g, rfl, hg, hs, hb⟩
  have hrg : r < g := Nat.lt_of_lt_of_le br.lt hg
  replace br := br.below hb
  replace hbel := hbel.trans (hb.mono hbel.size)
  clear hb
  go_wp2_with fail
  refine (l10Draw_any g 0 w1 hs (by omega)).mono ?_
  rintro e w2 ⟨m, A1, C1, A2, C2, A3, C3, rfl, hd, ow, ht, hs2⟩
  replace br := br.touch ht (by omega)
  have hb2 := ht.below (B := w.heap.size) (by have := HR.out; omega) hbel.size
  have HO := Lib.hid (ow.wide (lo' := r + 1) (hi' := w2.heap.size) (by have := hs.lt; omega) (Nat.le_refl _))
  have HB := Lib.hid (hbel.trans hb2)
  have HD := Lib.hid hd
  have hrl := br.lt
  clear ht hs2 hs hbel hb2 ow hd hrg hg
  have j0 := br.at_ 0 rfl
  have j1 := br.at_ 1 rfl
  have j2 := br.at_ 2 rfl
  have j3 := br.at_ 3 rfl
  have j4 := br.at_ 4 rfl
  have j5 := br.at_ 5 rfl
  have j6 := br.at_ 6 rfl
  have f0 := br.thaw 0
  have f1 := br.thaw 1
  have f2 := br.thaw 2
  have f3 := br.thaw 3
  have f4 := br.thaw 4
  have f5 := br.thaw 5
  have f6 := br.thaw 6
  have hl := br.lt
  have bz : Bx (((((((w2.setCell ⟨r, 0, none⟩ (.int .i64 m.b1)).setCell ⟨r, 1, none⟩ (.slice A1 m.z1.length C1)).setCell ⟨r, 2, none⟩ (.int .i64 m.b2)).setCell ⟨r, 3, none⟩ (.slice A2 m.z2.length C2)).setCell ⟨r, 4, none⟩ (.int .i64 m.b3)).setCell ⟨r, 5, none⟩ (.slice A3 m.z3.length C3)).setCell ⟨r, 6, none⟩ (.int .i64 m.p)) (r) 28 #[.int .i64 m.b1, .slice A1 m.z1.length C1, .int .i64 m.b2, .slice A2 m.z2.length C2, .int .i64 m.b3, .slice A3 m.z3.length C3, .int .i64 m.p] := bx_put7 br
  have r0 := bz.at_ 0 rfl
  have r1 := bz.at_ 1 rfl
  have r2 := bz.at_ 2 rfl
  have r3 := bz.at_ 3 rfl
  have r4 := bz.at_ 4 rfl
  have r5 := bz.at_ 5 rfl
  have r6 := bz.at_ 6 rfl
  clear bz
  go_wp2
  exact bodyPost_ret (v := .agg #[.int .i64 m.b1, .slice A1 m.z1.length C1, .int .i64 m.b2, .slice A2 m.z2.length C2, .int .i64 m.b3, .slice A3 m.z3.length C3, .int .i64 m.p]) (by simp [results, go_sem, r0, r1, r2, r3, r4, r5, r6]) rfl
    ⟨m, A1, C1, A2, C2, A3, C3, rfl, HD.out, (show Own3 2 _ (r + 1) w2.heap.size (.slice A1 m.z1.length C1) m.z1 (.slice A2 m.z2.length C2) m.z2 (.slice A3 m.z3.length C3) m.z3 from (((((((HO.out.setCell (p := ⟨r, 0, none⟩) (.inl (Nat.lt_succ_self _)) _).setCell (p := ⟨r, 1, none⟩) (.inl (Nat.lt_succ_self _)) _).setCell (p := ⟨r, 2, none⟩) (.inl (Nat.lt_succ_self _)) _).setCell (p := ⟨r, 3, none⟩) (.inl (Nat.lt_succ_self _)) _).setCell (p := ⟨r, 4, none⟩) (.inl (Nat.lt_succ_self _)) _).setCell (p := ⟨r, 5, none⟩) (.inl (Nat.lt_succ_self _)) _).setCell (p := ⟨r, 6, none⟩) (.inl (Nat.lt_succ_self _)) _)).wide (by have := HR.out; omega) (by simp), by have := HR.out; exact (by repeat (first | with_reducible exact HB.out | with_reducible refine Below.setCell ?_ (by first | omega | (simp <;> omega)) _ | with_reducible refine Below.alloc ?_ (by first | omega | (simp <;> omega)) _ | with_reducible refine Below.drew ?_))⟩
end Go.Proofs.YtlahobdopmdfmaaDoor

/- SamN -/
namespace Go.Proofs.YtlahobdopmdfmaaDoor
open Go.RowKit Go.BigFrame

theorem macEqB_parts {m n : Mac} {a b c d : Bool} (h1 : regEqB m.b1 n.b1 m.z1 n.z1 = a) (h2 : regEqB m.b2 n.b2 m.z2 n.z2 = b) (h3 : regEqB m.b3 n.b3 m.z3 n.z3 = c) (h4 : decide (m.p = n.p) = d) : macEqB m n = (a && (b && (c && d))) := by
  rw [macEqB, h1, h2, h3, h4]

set_option maxHeartbeats 4000000 in
set_option maxRecDepth 100000 in
theorem l10Same_any (p q : Nat) (m n : Mac) (A1 : Option Addr) (C1 : Nat) (A2 : Option Addr) (C2 : Nat) (A3 : Option Addr) (C3 : Nat) (D1 : Option Addr) (E1 : Nat) (D2 : Option Addr) (E2 : Nat) (D3 : Option Addr) (E3 : Nat) (w : World) (h : Rd3 w A1 m.z1 A2 m.z2 A3 m.z3) (k : Rd3 w D1 n.z1 D2 n.z2 D3 n.z3) (bp : Bx w p 28 #[.int .i64 m.b1, .slice A1 m.z1.length C1, .int .i64 m.b2, .slice A2 m.z2.length C2, .int .i64 m.b3, .slice A3 m.z3.length C3, .int .i64 m.p]) (bq : Bx w q 28 #[.int .i64 n.b1, .slice D1 n.z1.length E1, .int .i64 n.b2, .slice D2 n.z2.length E2, .int .i64 n.b3, .slice D3 n.z3.length E3, .int .i64 n.p]) :
    Calls Tryd.prog 95 #[.pointer (some ⟨p, 0, none⟩), .pointer (some ⟨q, 0, none⟩)] w fun e w' => e = .returned (.bool (macEqB m n)) ∧ Below w.heap.size w w' := by
  obtain ⟨a, h1⟩ : ∃ a, regEqB m.b1 n.b1 m.z1 n.z1 = a := ⟨_, rfl⟩
  obtain ⟨b, h2⟩ : ∃ a, regEqB m.b2 n.b2 m.z2 n.z2 = a := ⟨_, rfl⟩
  obtain ⟨c, h3⟩ : ∃ a, regEqB m.b3 n.b3 m.z3 n.z3 = a := ⟨_, rfl⟩
  obtain ⟨d, h4⟩ : ∃ a, decide (m.p = n.p) = a := ⟨_, rfl⟩
  have h5 : (m.p == n.p) = d := by rw [← h4]; rfl
  have HE := Lib.hid (macEqB_parts h1 h2 h3 h4)
  have H1 : Hid (∀ v, Below w.heap.size w v → Calls Tryd.prog 120 #[.pointer (some ⟨p, 0, none⟩), .pointer (some ⟨q, 0, none⟩)] v fun e w' => e = .returned (.bool a) ∧ Below v.heap.size v w') :=
    Lib.hid fun v hb => l02Same_atO p 0 q 0 m.b1 n.b1 A1 D1 C1 E1 m.z1 n.z1 v h1 (h.x.below hb) (k.x.below hb) ((bp.below hb).at_ 0 rfl) ((bp.below hb).at_ 1 rfl) ((bq.below hb).at_ 0 rfl) ((bq.below hb).at_ 1 rfl)
  have H2 : Hid (∀ v, Below w.heap.size w v → Calls Tryd.prog 120 #[.pointer (some ⟨p, 2, none⟩), .pointer (some ⟨q, 2, none⟩)] v fun e w' => e = .returned (.bool b) ∧ Below v.heap.size v w') :=
    Lib.hid fun v hb => l02Same_atO p 2 q 2 m.b2 n.b2 A2 D2 C2 E2 m.z2 n.z2 v h2 (h.y.below hb) (k.y.below hb) ((bp.below hb).at_ 2 rfl) ((bp.below hb).at_ 3 rfl) ((bq.below hb).at_ 2 rfl) ((bq.below hb).at_ 3 rfl)
  have H3 : Hid (∀ v, Below w.heap.size w v → Calls Tryd.prog 120 #[.pointer (some ⟨p, 4, none⟩), .pointer (some ⟨q, 4, none⟩)] v fun e w' => e = .returned (.bool c) ∧ Below v.heap.size v w') :=
    Lib.hid fun v hb => l02Same_atO p 4 q 4 m.b3 n.b3 A3 D3 C3 E3 m.z3 n.z3 v h3 (h.z.below hb) (k.z.below hb) ((bp.below hb).at_ 4 rfl) ((bp.below hb).at_ 5 rfl) ((bq.below hb).at_ 4 rfl) ((bq.below hb).at_ 5 rfl)
  have p6 := kept_after (bp.at_ 6 rfl)
  have q6 := kept_after (bq.at_ 6 rfl)
  clear h k bp bq h1 h2 h3 h4
  rw [HE.out]
  cases a
  rotate_left
  cases b
  rotate_left
  cases c
  all_goals
    go_enter Tryd.func95, Tryd.ntmps95
    go_wp2_with fail
    refine wp_region_after (by kernel_rfl) (by kernel_rfl) ?_
    repeat (go_big_quiet_step ((go_at_call 120; first | with_reducible exact calls_after (H1.out _ (After.ok _)) | with_reducible exact calls_after (H2.out _ (After.ok _)) | with_reducible exact calls_after (H3.out _ (After.ok _)))))
    refine wpQuiet_nil ?_
    intro u
    go_wp2
    go_ret
    exact ⟨rfl, u.ok⟩

theorem specSameMachine (m : Mac) (A1 : Option Addr) (C1 : Nat) (A2 : Option Addr) (C2 : Nat) (A3 : Option Addr) (C3 : Nat) (n : Mac) (D1 : Option Addr) (E1 : Nat) (D2 : Option Addr) (E2 : Nat) (D3 : Option Addr) (E3 : Nat) (w : World) (h : Rd3 w A1 m.z1 A2 m.z2 A3 m.z3) (_ : All64 m.z1 ∧ All64 m.z2 ∧ All64 m.z3) (_ : I64 m.b1 ∧ I64 m.b2 ∧ I64 m.b3 ∧ I64 m.p) (k : Rd3 w D1 n.z1 D2 n.z2 D3 n.z3) (_ : All64 n.z1 ∧ All64 n.z2 ∧ All64 n.z3) (_ : I64 n.b1 ∧ I64 n.b2 ∧ I64 n.b3 ∧ I64 n.p) :
    Calls Tryd.prog 23 #[.agg #[.int .i64 m.b1, .slice A1 m.z1.length C1, .int .i64 m.b2, .slice A2 m.z2.length C2, .int .i64 m.b3, .slice A3 m.z3.length C3, .int .i64 m.p], .agg #[.int .i64 n.b1, .slice D1 n.z1.length E1, .int .i64 n.b2, .slice D2 n.z2.length E2, .int .i64 n.b3, .slice D3 n.z3.length E3, .int .i64 n.p]] w fun e w' => e = .returned (.bool (macEqB m n)) ∧ Below w.heap.size w w' := by
  obtain ⟨u, hu⟩ : ∃ u, u = (w.alloc (.cells #[.int .i64 m.b1, .slice A1 m.z1.length C1, .int .i64 m.b2, .slice A2 m.z2.length C2, .int .i64 m.b3, .slice A3 m.z3.length C3, .int .i64 m.p] 28)).alloc (.cells #[.int .i64 n.b1, .slice D1 n.z1.length E1, .int .i64 n.b2, .slice D2 n.z2.length E2, .int .i64 n.b3, .slice D3 n.z3.length E3, .int .i64 n.p] 28) := ⟨_, rfl⟩
  have bx : Bx u w.heap.size 28 #[.int .i64 m.b1, .slice A1 m.z1.length C1, .int .i64 m.b2, .slice A2 m.z2.length C2, .int .i64 m.b3, .slice A3 m.z3.length C3, .int .i64 m.p] := by rw [hu]; exact (Bx.new _ _ _).alloc _
  have by_ : Bx u (w.heap.size + 1) 28 #[.int .i64 n.b1, .slice D1 n.z1.length E1, .int .i64 n.b2, .slice D2 n.z2.length E2, .int .i64 n.b3, .slice D3 n.z3.length E3, .int .i64 n.p] := by rw [hu]; simpa using Bx.new (w.alloc (.cells #[.int .i64 m.b1, .slice A1 m.z1.length C1, .int .i64 m.b2, .slice A2 m.z2.length C2, .int .i64 m.b3, .slice A3 m.z3.length C3, .int .i64 m.p] 28)) #[.int .i64 n.b1, .slice D1 n.z1.length E1, .int .i64 n.b2, .slice D2 n.z2.length E2, .int .i64 n.b3, .slice D3 n.z3.length E3, .int .i64 n.p] 28
  have hbel : Below w.heap.size w u := by rw [hu]; exact (by repeat (first | exact Below.refl _ _ | refine Below.setCell ?_ (by first | omega | (simp <;> omega)) _ | refine Below.alloc ?_ (by first | omega | (simp <;> omega)) _ | refine Below.drew ?_))
  have HU := Lib.hid hu
  clear hu
  go_enter Tryd.func23, Tryd.ntmps23
  go_wp2_with fail
  rw [← HU.out]
  refine (l10Same_any _ _ m n A1 C1 A2 C2 A3 C3 D1 E1 D2 E2 D3 E3 u (h.below hbel) (k.below hbel) bx by_).mono ?_
  rintro e w1 ⟨rfl, hb⟩
  go_wp2
  go_ret
  exact ⟨rfl, hbel.trans (hb.mono hbel.size)⟩
end Go.Proofs.YtlahobdopmdfmaaDoor

/- StkW -/
namespace Go.Proofs.YtlahobdopmdfmaaDoor
open Go.RowKit

theorem i64_at {n : Int} (h1 : -9223372036854775808 ≤ n) (h2 : n ≤ 9223372036854775807) : I64 n := by
  unfold I64
  simp [Lit.wf, IntKind.min, IntKind.max, IntKind.signed, IntKind.bits]
  exact ⟨h1, h2⟩
theorem mac_wf {m : Mac} (h : macB m = true) : (All64 m.z1 ∧ All64 m.z2 ∧ All64 m.z3) ∧ (I64 m.b1 ∧ I64 m.b2 ∧ I64 m.b3 ∧ I64 m.p) := by
  obtain ⟨e2, e3, b0, b1, n0, n12, n2, n3, n4, p0, p1, p2, d1, d2, d3⟩ := macB_facts h
  refine ⟨⟨fun d hd => ?_, fun d hd => ?_, fun d hd => ?_⟩, i64_at (by omega) (by omega), i64_at (by omega) (by omega), i64_at (by omega) (by omega), i64_at (by omega) (by omega)⟩
  · have := d1 d hd; exact i64_at (by omega) (by omega)
  · have := d2 d hd; exact i64_at (by omega) (by omega)
  · have := d3 d hd; exact i64_at (by omega) (by omega)
end Go.Proofs.YtlahobdopmdfmaaDoor

/- CarS -/
namespace Go.Proofs.YtlahobdopmdfmaaDoor
open Go.RowKit

theorem own_lit1 (e : TypeId) (w : World) (z : Int) : Own e (w.alloc (.cells #[.int .i64 z] e)) w.heap.size (w.heap.size + 1) (.slice (some ⟨w.heap.size, 0, none⟩) 1 1) [z] := by
  refine ⟨⟨by simp, .inr ⟨w.heap.size, 1, #[.int .i64 z], rfl, Nat.le_refl _, heap_alloc_new w _, Nat.le_refl _, by unfold maxLen; omega, by simp, by simp⟩⟩, ?_, by simp⟩
  intro k hk
  simp [Value.ownBlock] at hk
  omega

end Go.Proofs.YtlahobdopmdfmaaDoor

/- AddS -/
namespace Go.Proofs.YtlahobdopmdfmaaDoor
open Go.RowKit

end Go.Proofs.YtlahobdopmdfmaaDoor

/- SubS -/
namespace Go.Proofs.YtlahobdopmdfmaaDoor
open Go.RowKit

end Go.Proofs.YtlahobdopmdfmaaDoor

/- PairS -/
namespace Go.Proofs.YtlahobdopmdfmaaDoor
open Go.RowKit

set_option maxRecDepth 100000 in
set_option maxHeartbeats 1000000 in
theorem specValueOf (xB : Int) (xA : Option Addr) (xC : Nat) (xZ : List Int) (w : World) (ha : Rd w xA xZ) (_ : All64 xZ) (_ : I64 xB) :
    Calls Tryd.prog 24 #[.agg #[.int .i64 xB, .slice xA xZ.length xC]] w fun e w' => e = .returned (.tuple #[.int .i64 (vofR xB xZ).1, .int .i64 (vofR xB xZ).2]) ∧ Below w.heap.size w w' := by
  have hbel : Below w.heap.size w (w.alloc (.cells #[.int .i64 xB, .slice xA xZ.length xC] 26)) := (Below.refl _ _).alloc (Nat.le_refl _) _
  cases h : okB xB xZ with
  | false =>
    have HV := Lib.hid (show vofR xB xZ = (0, 1) by simp [vofR, h])
    have H := Lib.hid h
    clear h
    go_enter Tryd.func24, Tryd.ntmps24
    go_wp2_with fail
    refine (l02Ok_at0 w.heap.size xB xA xC xZ _ H.out (ha.below hbel) (by go_simp) (by go_simp)).mono ?_
    rintro e w1 ⟨rfl, n, rfl⟩
    go_wp2
    refine bodyPost_ret (v := .tuple #[.int .i64 0, .int .i64 1]) (by simp [results, Tryd.results24, go_sem]) rfl ?_
    exact ⟨by rw [HV.out], bel_drewN hbel _⟩
  | true =>
    have HV := Lib.hid (show vofR xB xZ = (valR xB xZ, 0) by simp [vofR, h])
    have H := Lib.hid h
    have HO := Lib.hid (okB_spec h)
    clear h
    go_enter Tryd.func24, Tryd.ntmps24
    go_wp2_with fail
    refine (l02Ok_at0 w.heap.size xB xA xC xZ _ H.out (ha.below hbel) (by go_simp) (by go_simp)).mono ?_
    rintro e w1 ⟨rfl, n, rfl⟩
    go_wp2_with (go_at_call 97; refine (l02Value_any xB xA xC xZ _ ((ha.below hbel).drewN n) HO.out.1 HO.out.2.1 HO.out.2.2.2.2.1).mono ?_; rintro e w1 ⟨rfl, rfl⟩)
    refine bodyPost_ret (v := .tuple #[.int .i64 (capV xB xZ), .int .i64 0]) (by simp [results, Tryd.results24, go_sem]) rfl ?_
    exact ⟨by rw [HV.out, capV_ok HO.out.1 HO.out.2.2.2.2.1 HO.out.2.2.2.2.2], bel_drewN hbel _⟩

end Go.Proofs.YtlahobdopmdfmaaDoor

/- Bytes -/
namespace Go.Proofs.YtlahobdopmdfmaaDoor
open Go.ChangeShapes Go.WideShapes Go.ChangeAt Go.RowKit Go.Joins
open Go.ChangeMaps (open_string shut_string)

/-- Bytes that came in: of whatever length. -/
structure RawU (w : World) (a : Option Addr) (zs : List Int) : Prop where
  len : zs.length ≤ 9223372036854775807
  le : ∀ i, 0 ≤ nth zs i ∧ nth zs i ≤ 255
  cells : zs ≠ [] → ∃ b off, a = some ⟨b, off, none⟩ ∧ ∀ i, i < zs.length → w.cell? ⟨b, off + i, none⟩ = some (.int .u8 (nth zs i))
theorem RawU.rd {w : World} {a : Option Addr} {zs : List Int} (h : RawU w a zs) (hl : zs.length ≤ 1000000000) : RdU w a zs := ⟨hl, h.le, h.cells⟩
theorem RawU.below {w w' : World} {a : Option Addr} {zs : List Int} (h : RawU w a zs) (hb : Below w.heap.size w w') : RawU w' a zs := by
  refine ⟨h.len, h.le, fun hne => ?_⟩
  obtain ⟨b, off, rfl, hc⟩ := h.cells hne
  exact ⟨b, off, rfl, fun i hi => (hb.cell (p := ⟨b, off + i, none⟩) (World.block_lt_of_cell? _ _ (hc i hi))).trans (hc i hi)⟩

theorem cells_uint8 : Tryd.prog.cellsOf 5 = 1 := by kernel_rfl
section
variable {H : Type} {enc : TypeId × Value → H} {W : World} {base : Nat} {v : Value} {d : DataW H} {p : List MemPlace}
set_option maxRecDepth 100000 in
theorem open_Bytes (hval : Value.okWide Tryd.prog W .any base 22 v) (h : DataW.Trod enc Tryd.prog W 0 (fun _ => true) true 22 v d p) :
    ∃ A C Z, v = .slice A (List.length Z) C ∧ RawU W A Z := by
  obtain ⟨a0, len, cap, rfl⟩ := okWide_slice Tryd.underlying22 hval
  obtain ⟨fuel, hf⟩ := h
  have hf : DataW.trod enc Tryd.prog W 0 (fun _ => true) true fuel 22 [.slice a0 len cap] = some (d, p) := by simpa [Value.cells] using hf
  rcases open_ints Tryd.underlying22 Tryd.underlying5 cells_uint8 hf with ⟨hcs, _⟩ | ⟨a, l, c, zs, hcs, _, hl, hm, hz, _, hcell, hwz⟩
  · simp at hcs
    obtain ⟨rfl, rfl, rfl⟩ := hcs
    exact ⟨none, 0, [], rfl, by simp, by intro i; simp [nth], fun h => absurd rfl h⟩
  · simp at hcs
    obtain ⟨rfl, rfl, rfl⟩ := hcs
    simp at hz
    have hlen : (zs.take len).length = len := by rw [List.length_take]; omega
    refine ⟨some a, cap, zs.take len, by rw [hlen], by rw [hlen]; unfold maxLen at hm; omega, fun i => ?_, fun hne => ?_⟩
    · rcases Nat.lt_or_ge i (zs.take len).length with hi | hi
      · rw [nth_get hi]
        have h1 := hwz _ (List.mem_of_mem_take (List.getElem_mem hi))
        have m0 : IntKind.u8.min = 0 := rfl
        have m1 : IntKind.u8.max = 255 := rfl
        simp only [Lit.wf, m0, m1, Bool.and_eq_true, decide_eq_true_eq] at h1
        exact h1
      · simp [nth, List.getElem?_eq_none hi]
    · have hpos : 0 < len := by
        rcases Nat.eq_zero_or_pos len with h | h
        · subst h; simp at hne
        · exact h
      have hc0 := hcell 0 (by omega)
      obtain ⟨b, off, spot⟩ := a
      have hspot : spot = none := by simpa [Addr.add] using World.cell?_spot hc0
      subst hspot
      refine ⟨b, off, rfl, fun i hi => ?_⟩
      rw [hlen] at hi
      have h := hcell i (by omega)
      have e : nth (zs.take len) i = zs.getD i 0 := by
        rw [nth_get (by rw [hlen]; exact hi)]
        simp [List.getElem_take, List.getD_eq_getElem?_getD, List.getElem?_eq_getElem (show i < zs.length by omega)]
      rw [e, ← h]
      by_cases h0 : i = 0
      · subst h0; rfl
      · simp [Addr.add, h0]
end

theorem a2Long_any (a b : Option Addr) (n m c d : Nat) (w : World) :
    Calls Tryd.prog 16 #[.slice a n c, .slice b m d] w fun e w' => e = .returned (.bool (decide (3000 < n ∨ 3000 < m))) ∧ w' = w := by
  by_cases h1 : 3000 < n
  · have h1' : (3000 : Int) < (n : Int) := by omega
    have HV := Lib.hid (show decide (3000 < n ∨ 3000 < m) = true from decide_eq_true (.inl h1))
    go_enter Tryd.func16, Tryd.ntmps16
    go_wp2
    go_ret
    exact ⟨by first | rfl | exact ret_bool HV.out.symm, rfl⟩
  · have h1' : ¬ ((3000 : Int) < (n : Int)) := by omega
    by_cases h2 : 3000 < m
    · have h2' : (3000 : Int) < (m : Int) := by omega
      have HV := Lib.hid (show decide (3000 < n ∨ 3000 < m) = true from decide_eq_true (.inr h2))
      go_enter Tryd.func16, Tryd.ntmps16
      go_wp2
      go_ret
      exact ⟨by first | rfl | exact ret_bool HV.out.symm, rfl⟩
    · have h2' : ¬ ((3000 : Int) < (m : Int)) := by omega
      have HV := Lib.hid (show decide (3000 < n ∨ 3000 < m) = false from decide_eq_false (by omega))
      go_enter Tryd.func16, Tryd.ntmps16
      go_wp2
      go_ret
      exact ⟨by first | rfl | exact ret_bool HV.out.symm, rfl⟩

theorem a2At_any (a : Option Addr) (zs : List Int) (c k : Nat) (n : Int) (w : World) (h : RdU w a zs) (n1 : 1 ≤ n) (n2 : n ≤ 1000000) (_ : k ≤ 1000) :
    Calls Tryd.prog 19 #[.slice a zs.length c, .int .i64 (k : Nat), .int .i64 n] w fun e w' => ∃ z : Int, e = .returned (.int .i64 z) ∧ 0 ≤ z ∧ z < n ∧ Below w.heap.size w w' := by
  have hlen := h.len
  have hn : ¬ (n < 1) := by omega
  have v1 : IntKind.i64.wrap (zs.length : Int) = (zs.length : Int) := IntWalk.i64_in _ (by omega)
  by_cases hlt : k < zs.length
  · obtain ⟨b, off, rfl, hc⟩ := h.at_ hlt
    have hz := h.le k
    have d1 : decide ((k : Int) ≥ (zs.length : Int)) = false := decide_eq_false (by omega)
    have d1' : ¬ (zs.length : Int) ≤ (k : Int) := by omega
    go_enter Tryd.func19, Tryd.ntmps19
    go_wp2_with fail
    refine bodyPost_ret (v := .int .i64 (nth zs k % n)) (by simp [results, Tryd.results19, go_sem]) rfl ?_
    exact ⟨_, rfl, Int.emod_nonneg _ (by omega), Int.emod_lt_of_pos _ (by omega), Below.refl _ _⟩
  · have d1' : (zs.length : Int) ≤ (k : Int) := by omega
    go_enter Tryd.func19, Tryd.ntmps19
    go_wp2_with fail
    refine bodyPost_ret (v := .int .i64 0) (by simp [results, Tryd.results19, go_sem]) rfl ?_
    exact ⟨0, rfl, by omega, by omega, Below.refl _ _⟩
end Go.Proofs.YtlahobdopmdfmaaDoor
