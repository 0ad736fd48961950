/-
  Some register out of some bytes: spec.l02Most, l02DrawDigits, l02Draw, A2Registers.
-/
import Derived.Test.YtgfopieojpjddaaDoorDrawO
import Derived.Test.YtgfopieojpjddaaDoorAppAt
import Derived.Test.YtgfopieojpjddaaDoorOrdC
import Derived.Test.YtgfopieojpjddaaDoorRegC
import Derived.Test.YtgfopieojpjddaaDoorOwn2
import Derived.Test.YtgfopieojpjddaaDoorRow
import Derived.Deep.Cut
namespace Go.Proofs.YtgfopieojpjddaaDoor
open Go.RowKit

theorem l02Most_any (b : Int) (w : World) (h0 : 2 ≤ b) (h1 : b ≤ 16) :
    Calls Tryd.prog 131 #[.int .i64 b] w fun e w' => ∃ n : Nat, e = .returned (.int .i64 (n : Nat)) ∧ 1 ≤ n ∧ n ≤ 16 ∧ w' = w := by
  have bb : 4 ≤ b * b ∧ b * b ≤ 256 := ⟨Int.mul_le_mul h0 h0 (by omega) (by omega), Int.mul_le_mul h1 h1 (by omega) (by omega)⟩
  go_enter Tryd.func131, Tryd.ntmps131
  go_wp2_with fail
  go_loop [3, 4] (fun n p => ∃ (k : Nat) (c : Int), n = .int .i64 (k : Nat) ∧ p = .int .i64 c ∧ 1 ≤ k ∧ k ≤ 16 ∧ 0 ≤ c ∧ c ≤ 20000000000000) (fun n _ => 16 - (intOf n).toNat)
  case atStart => exact ⟨1, b * b, rfl, rfl, by omega, by omega, by omega, by omega⟩
  case round =>
    clear bb
    obtain ⟨k, c, rfl, rfl, hk1, hk2, c0, c1⟩ := hrel
    by_cases hc : c - 1 ≤ 1000000000000
    · by_cases hk : k < 16
      · have hm : 0 ≤ c * b ∧ c * b ≤ 1000000000001 * 16 := ⟨Int.mul_nonneg c0 (by omega), Int.mul_le_mul (by omega) h1 (by omega) (by omega)⟩
        obtain ⟨d, hd⟩ : ∃ d, d = c * b := ⟨_, rfl⟩
        rw [← hd] at hm
        have v1 : IntKind.i64.wrap (c * b) = d := by rw [← hd]; exact IntWalk.i64_in _ (by omega)
        clear hd
        go_wp2_with fail
        clear v1
        go_round
        case rel => exact ⟨k + 1, d, by go_num, rfl, by omega, by omega, by omega, by omega⟩
        case measure => (simp [intOf]) <;> omega
      · go_wp2_with fail
        refine bodyPost_ret (v := .int .i64 (k : Nat)) (by simp [results, Tryd.results131, go_sem]) rfl ⟨k, rfl, hk1, hk2, rfl⟩
    · go_wp2_with fail
      refine bodyPost_ret (v := .int .i64 (k : Nat)) (by simp [results, Tryd.results131, go_sem]) rfl ⟨k, rfl, hk1, hk2, rfl⟩

/-- Digits of a base. -/
def DigsOf (b : Int) (ds : List Int) : Prop := ∀ d ∈ ds, 0 ≤ d ∧ d < b
theorem digsOf_nil (b : Int) : DigsOf b [] := fun d hd => by cases hd
set_option maxHeartbeats 4000000 in
theorem drawDigits_any (s K : Nat) (b : Int) (n : Nat) (w : World) (h : Src w s K) (hK : K ≤ 800000) (b0 : 2 ≤ b) (b1 : b ≤ 16) (hn : n ≤ 100) :
    Calls Tryd.prog 86 #[.pointer (some ⟨s, 0, none⟩), .int .i64 b, .int .i64 (n : Nat)] w fun e w' => ∃ ds A C, e = .returned (.slice A n C) ∧ List.length ds = n ∧ DigsOf b ds ∧
      Own 2 w' w.heap.size w'.heap.size (.slice A n C) ds ∧ Touch s (s + 1) w w' ∧ Src w' s (K + 4 * n) := by
  have hs := h.lt
  obtain ⟨G, hG⟩ : ∃ G, G = w.heap.size := ⟨_, rfl⟩
  obtain ⟨u, hu⟩ : ∃ u, u = w.alloc (.cells #[] 2) := ⟨_, rfl⟩
  have hbu : Below w.heap.size w u := by rw [hu]; exact (by repeat (first | exact Below.refl _ _ | refine Below.setCell ?_ (by first | omega | (simp <;> omega)) _ | refine Below.alloc ?_ (by first | omega | (simp <;> omega)) _ | refine Below.drew ?_))
  have hsu : u.heap.size = G + 1 := by rw [hu, hG]; simp
  have oq : Own 2 u G (G + 1) (.slice (some ⟨G, 0, none⟩) 0 0) [] := by
    rw [hu, hG]
    exact own_of_row (zs := []) (by simpa using row_new 2 1 w #[] 0 (by simp) (by omega)) rfl (by simp)
  have su : Src u s K := h.lo hbu hs
  have tu : Touch s (s + 1) w u := Below.touch hbu
  have HU := Lib.hid hu
  have HG := Lib.hid hG
  have hsG : s < G := by omega
  clear hu h hbu
  go_enter Tryd.func86, Tryd.ntmps86
  go_wp2_with fail
  rw [← HU.out, ← hG]
  clear hG
  go_loopw [7, 8, 9] (fun o k _ wr => ∃ (j : Nat) (ds : List Int) (g : Nat) (E : Nat), j ≤ n ∧ k = .int .i64 (j : Nat) ∧ ds.length = j ∧ o = .slice (some ⟨g, 0, none⟩) j E ∧ DigsOf b ds ∧ G ≤ g ∧ Own 2 wr g (g + 1) (.slice (some ⟨g, 0, none⟩) j E) ds ∧ Touch s (s + 1) w wr ∧ Src wr s (K + 4 * j)) (fun _ k _ _ => n - (intOf k).toNat)
  case atStart => exact ⟨0, [], G, 0, Nat.zero_le _, rfl, rfl, rfl, digsOf_nil b, Nat.le_refl _, oq, tu, su⟩
  case round =>
    clear oq tu su
    obtain ⟨j, ds, g, E, hj, rfl, hl, rfl, hd, hg, ow, ht, hsrc⟩ := hrel
    have HL := Lib.hid hl
    clear hl
    have hsz := ht.size
    have hgl := ow.lo_le (k := g) rfl
    by_cases hlt : j < n
    · go_wp2_with fail
      refine (pick_any s _ b _ hsrc (by omega) (by omega)).mono ?_
      rintro e w1 ⟨z, rfl, z0, z1, hs1, ht1⟩
      have hl1 := ht1.size
      replace ow := ow.touch ht1 (.inr (by omega))
      replace ht := ht.trans ht1
      clear ht1 hsrc
      go_wp2_with fail
      refine (one_any s _ 3 _ hs1 (by omega) (by omega)).mono ?_
      rintro e w2 ⟨x, rfl, hs2, ht2⟩
      have hl2 := ht2.size
      replace ow := ow.touch ht2 (.inr (by omega))
      replace ht := ht.trans ht2
      clear ht2 hs1
      have fin : ∀ (y : Int), 0 ≤ y → y < b → ∀ g' E' w5, (g' = g ∨ g' = (w2.alloc (.cells #[.int .i64 y] 2)).heap.size) → Own 2 w5 g' (g' + 1) (.slice (some ⟨g', 0, none⟩) (j + 1) E') (ds ++ [y]) → Touch g (g + 1) (w2.alloc (.cells #[.int .i64 y] 2)) w5 →
          G ≤ g' ∧ DigsOf b (ds ++ [y]) ∧ Touch s (s + 1) w w5 ∧ Src w5 s (K + 4 * (j + 1)) := by
        intro y y0 y1 g' E' w5 hg' ow' ht5
        have tt : Touch G (w5.heap.size + w2.heap.size + 1) w2 w5 := ((Touch.refl G (w5.heap.size + w2.heap.size + 1) w2).alloc _).trans (ht5.widen (by omega) (by have := hgl.2.2; omega))
        have hgg : g' = g ∨ g' = w2.heap.size + 1 := by simpa using hg'
        refine ⟨by omega, ?_, ht.then_ tt (by have := HG.out; omega), (hs2.touch tt hsG).mono (by omega)⟩
        intro d hd'
        rcases List.mem_append.1 hd' with h1 | h1
        · exact hd d h1
        · rw [List.mem_singleton] at h1; subst h1; exact ⟨y0, y1⟩
      have v1 : IntKind.i64.wrap (b - 1) = b - 1 := fits_int _ (by omega) (by omega)
      cases x with
      | true =>
        go_wp2_with (at_builtin; go_must (refine wpList_appAt rfl (.tmp 23) (.tmp 25) 45 2 rfl Tryd.underlying45 info_int64 rfl (ow.alloc _) HL.out ⟨w2.heap.size, 0, none⟩ 1 (b - 1) rfl (cell_new1 w2 _ _) (by omega) (by simp <;> omega) ?_); intro g' E' w5 hg' own5 ht5; have hf := Lib.hid (fin (b - 1) (by omega) (by omega) g' E' w5 hg' own5 ht5); clear ht5 hg')
        clear fin
        go_roundw
        case rel => exact ⟨j + 1, ds ++ [b - 1], g', E', by omega, by go_num, by simp [HL.out], rfl, hf.out.2.1, hf.out.1, own5, hf.out.2.2.1, hf.out.2.2.2⟩
        case measure => (simp [intOf]) <;> omega
      | false =>
        go_wp2_with (at_builtin; go_must (refine wpList_appAt rfl (.tmp 23) (.tmp 25) 45 2 rfl Tryd.underlying45 info_int64 rfl (ow.alloc _) HL.out ⟨w2.heap.size, 0, none⟩ 1 (z) rfl (cell_new1 w2 _ _) (by omega) (by simp <;> omega) ?_); intro g' E' w5 hg' own5 ht5; have hf := Lib.hid (fin (z) (by omega) (by omega) g' E' w5 hg' own5 ht5); clear ht5 hg')
        clear fin
        go_roundw
        case rel => exact ⟨j + 1, ds ++ [z], g', E', by omega, by go_num, by simp [HL.out], rfl, hf.out.2.1, hf.out.1, own5, hf.out.2.2.1, hf.out.2.2.2⟩
        case measure => (simp [intOf]) <;> omega
    · obtain rfl : j = n := by omega
      go_wp2_with fail
      exact bodyPost_ret (v := .slice (some ⟨g, 0, none⟩) j E) (by simp [results, Tryd.results86, go_sem]) rfl ⟨ds, some ⟨g, 0, none⟩, E, rfl, HL.out, hd, ow.wide (by have := HG.out; omega) (by omega), ht, hsrc⟩

/-- A register that has been drawn. -/
structure DrawnR (b : Int) (ds : List Int) (m : Nat) : Prop where
  b0 : 2 ≤ b
  b1 : b ≤ 12
  n0 : 1 ≤ ds.length
  n1 : ds.length ≤ m
  digs : DigsOf b ds
/-- A register in a box, whose base has been chosen. -/
def RegAt (w : World) (B : Nat) (wx : World) : Prop := ∃ b : Int, 2 ≤ b ∧ b ≤ 12 ∧ Bx wx B 47 #[.int .i64 b, .slice none 0 0] ∧ Touch B (B + 1) w wx
set_option maxHeartbeats 8000000 in
theorem draw02_any (s K m : Nat) (w : World) (h : Src w s K) (hK : K ≤ 700000) (m0 : 1 ≤ m) (m1 : m ≤ 16) :
    Calls Tryd.prog 85 #[.pointer (some ⟨s, 0, none⟩), .int .i64 (m : Nat)] w fun e w' => ∃ b ds A C, e = .returned (.agg #[.int .i64 b, .slice A (List.length ds) C]) ∧ DrawnR b ds m ∧
      Own 2 w' w.heap.size w'.heap.size (.slice A ds.length C) ds ∧ Touch s (s + 1) w w' ∧ Src w' s (K + 6 + 4 * m) := by
  have hs := h.lt
  obtain ⟨r, hr⟩ : ∃ r, r = w.heap.size := ⟨_, rfl⟩
  obtain ⟨u, hu⟩ : ∃ u, u = w.alloc (.cells #[.int .i64 0, .slice none 0 0] 47) := ⟨_, rfl⟩
  have br : Bx u r 47 #[.int .i64 0, .slice none 0 0] := by rw [hu, hr]; exact Bx.new _ _ _
  have hbu : Below w.heap.size w u := by rw [hu]; exact (by repeat (first | exact Below.refl _ _ | refine Below.setCell ?_ (by first | omega | (simp <;> omega)) _ | refine Below.alloc ?_ (by first | omega | (simp <;> omega)) _ | refine Below.drew ?_))
  have hsu : u.heap.size = r + 1 := by rw [hu, hr]; simp
  have su : Src u s K := h.lo hbu hs
  have tu : Touch s (s + 1) w u := Below.touch hbu
  have HU := Lib.hid hu
  have HR := Lib.hid hr
  clear hu h hbu
  have hsr : s < r := by omega
  go_enter Tryd.func85, Tryd.ntmps85
  go_wp2_with fail
  rw [← HU.out, ← hr]
  clear hr
  refine (pick_any s K 11 u su (by omega) (by omega)).mono ?_
  rintro e w1 ⟨z, rfl, z0, z1, hs1, ht1⟩
  have v1 : IntKind.i64.wrap (2 + z) = 2 + z := fits_int _ (by omega) (by omega)
  have hl1 := ht1.size
  replace br := br.touch ht1 (by omega)
  replace tu := tu.trans ht1
  clear ht1 su
  go_wp2_with fail
  obtain ⟨B, hB⟩ : ∃ B, B = w1.heap.size := ⟨_, rfl⟩
  obtain ⟨v, hv⟩ : ∃ v, v = w1.alloc (.cells #[.int .i64 (2 + z), .slice none 0 0] 47) := ⟨_, rfl⟩
  rw [← hv, ← hB]
  have hbv : Below w1.heap.size w1 v := by rw [hv]; exact (by repeat (first | exact Below.refl _ _ | refine Below.setCell ?_ (by first | omega | (simp <;> omega)) _ | refine Below.alloc ?_ (by first | omega | (simp <;> omega)) _ | refine Below.drew ?_))
  have bB : Bx v B 47 #[.int .i64 (2 + z), .slice none 0 0] := by rw [hv, hB]; exact Bx.new _ _ _
  have hvz : v.heap.size = B + 1 := by rw [hv, hB]; simp
  have sv := hs1.lo hbv (by omega)
  replace tu := tu.trans (Below.touch hbv)
  replace br := br.below hbv
  clear hv hbv hs1
  have hrB : r < B := by omega
  refine (one_any s _ 2 v sv (by omega) (by omega)).mono ?_
  rintro e w2 ⟨x, rfl, hs2, ht2⟩
  have hl2 := ht2.size
  replace bB := bB.touch ht2 (by omega)
  replace br := br.touch ht2 (by omega)
  replace tu := tu.trans ht2
  clear ht2 sv
  have HB := Lib.hid hB
  have hb0 : 2 ≤ 2 + z ∧ 2 + z ≤ 12 := by omega
  clear hB z0 z1 v1
  go_upto_if 11 with fail
  go_cut [5] from 12 (fun s5 wx => s5 = .pointer (some ⟨B, 0, none⟩) ∧ RegAt w2 B wx)
  case first =>
    have c0 := bB.at_ 0 rfl
    have f0 := bB.thaw 0
    have hBl := bB.lt
    cases x with
    | true =>
      go_wp2_with fail
      go_meet
      case rel => exact ⟨rfl, 10, by omega, by omega, bB.set_ 0 (.int .i64 10), (Touch.refl _ _ _).setCell (by simp) (by simp) _⟩
    | false =>
      go_wp2_with fail
      go_meet
      case rel => exact ⟨rfl, 2 + z, hb0.1, hb0.2, bB, Touch.refl _ _ _⟩
  case rest =>
    obtain ⟨rfl, b, b0, b1, b3, ht3⟩ := hcut
    obtain ⟨w3, rfl⟩ : ∃ v, v = wc := ⟨_, rfl⟩
    have hl3 := ht3.size
    replace br := br.touch ht3 (by omega)
    have hs3 := hs2.touch ht3 (by omega)
    replace tu := tu.then_ ht3 (by have := HR.out; omega)
    clear bB hs2 ht3
    have hB3 := b3.lt
    have k0 : ∀ w', Touch s (s + 1) w3 w' → w'.cell? ⟨B, 0, none⟩ = some (.int .i64 b) := fun _ h => keptT h (b3.at_ 0 rfl) (by omega)
    go_upto_region 4 with fail
    refine wp_region_marked (fun w' => Touch s (s + 1) w3 w') 12 (by kernel_rfl) ?_
    have hS : Touch s (s + 1) w3 w3.drew := ⟨rfl, rfl, rfl, Nat.le_refl _, fun _ _ _ => rfl⟩
    refine wpAnyM_take (i := 0) (v := ?_) rfl (by kernel_rfl) (by kernel_rfl) (by kernel_rfl) (by kernel_rfl) (by kernel_rfl) (fun _ _ _ h => h) hS (.inl ⟨by rfl, ?_⟩) ?_
    rotate_left 1
    · intro w' hS'; go_simp; try with_reducible rfl
    simp only [Act.put, List.setIfInBounds_toArray]
    refine wpAnyM_take (i := 1) (v := ?_) rfl (by kernel_rfl) (by kernel_rfl) (by kernel_rfl) (by kernel_rfl) (by kernel_rfl) (fun _ _ _ h => h) hS (.inl ⟨by rfl, ?_⟩) ?_
    rotate_left 1
    · intro w' hS'; go_simp; try with_reducible rfl
    simp only [Act.put]
    refine wpAnyM_take (i := 2) (v := ?_) rfl (by kernel_rfl) (by kernel_rfl) (by kernel_rfl) (by kernel_rfl) (by kernel_rfl) (fun _ _ _ h => h) hS (.inl ⟨by rfl, ?_⟩) ?_
    rotate_left 1
    · intro w' hS'; go_simp; try with_reducible rfl
    simp only [Act.put]
    refine wpAnyM_take (i := 3) (v := ?_) rfl (by kernel_rfl) (by kernel_rfl) (by kernel_rfl) (by kernel_rfl) (by kernel_rfl) (fun _ _ _ h => h) hS (.inl ⟨by rfl, ?_⟩) ?_
    rotate_left 1
    · intro w' hS'; go_simp; try with_reducible rfl
    simp only [Act.put]
    refine wpAnyM_take (i := 4) (v := ?_) rfl (by kernel_rfl) (by kernel_rfl) (by kernel_rfl) (by kernel_rfl) (by kernel_rfl) (fun _ _ _ h => h) hS (.inl ⟨by rfl, ?_⟩) ?_
    rotate_left 1
    · intro w' hS'; go_simp; try with_reducible rfl
    simp only [Act.put]
    refine wpAnyM_take (i := 5) (v := ?_) rfl (by kernel_rfl) (by kernel_rfl) (by kernel_rfl) (by kernel_rfl) (by kernel_rfl) (fun _ _ _ h => h) hS (.inl ⟨by rfl, ?_⟩) ?_
    rotate_left 1
    · intro w' hS'; go_simp; try with_reducible rfl
    simp only [Act.put]
    refine wpAnyM_take (i := 6) (v := ?_) rfl (by kernel_rfl) (by kernel_rfl) (by kernel_rfl) (by kernel_rfl) (by kernel_rfl) (fun _ _ _ h => h) hS (.inl ⟨by rfl, ?_⟩) ?_
    rotate_left 1
    · intro w' hS'; go_simp; try with_reducible rfl
    simp only [Act.put]
    clear k0
    refine wpAnyM_one (i := 7) (by kernel_rfl) rfl (by rfl) (fun K hK => ?_)
    go_simp
    refine (l02Most_any b w3.drew b0 (by omega)).mono ?_
    rintro e w4 ⟨n, rfl, n0, n1, rfl⟩
    refine hK _ _ (.inr hS) ?_
    try simp only [Act.put, List.setIfInBounds_toArray]
    clear hK K
    refine wpAnyM_one (i := 8) (by kernel_rfl) rfl (by rfl) (fun K hK => ?_)
    go_simp
    refine (l00Min_any (m : Nat) (n : Nat) w3.drew).mono ?_
    rintro e w4 ⟨rfl, hw⟩
    subst w4
    refine hK _ _ (.inr hS) ?_
    try simp only [Act.put, List.setIfInBounds_toArray]
    clear hK K
    refine wpAnyM_one (i := 9) (by kernel_rfl) rfl (by rfl) (fun K hK => ?_)
    go_simp
    refine (pick_any s _ _ w3.drew (hs3.lo (L := w3.heap.size) ((Below.refl _ _).drew) (by omega)) (by omega) (by omega)).mono ?_
    rintro e w5 ⟨x, rfl, x0, x1, hs5, ht5⟩
    have hx : x ≤ (m : Int) - 1 := by omega
    replace hS := hS.trans ht5
    refine hK _ _ (.inr hS) ?_
    try simp only [Act.put, List.setIfInBounds_toArray]
    clear hK K
    have v2 : IntKind.i64.wrap (1 + x) = 1 + x := fits_int _ (by omega) (by omega)
    obtain ⟨N, hN⟩ : ∃ N : Nat, 1 + x = (N : Int) := ⟨(1 + x).toNat, by omega⟩
    have hN0 : 1 ≤ N ∧ N ≤ m := by omega
    rw [hN] at v2
    refine wpAnyM_one (i := 10) (by kernel_rfl) rfl (by rfl) (fun K hK => ?_)
    go_simp
    refine hK _ _ (.inr hS) ?_
    try simp only [Act.put, List.setIfInBounds_toArray]
    clear hK K
    refine wpAnyM_one (i := 11) (by kernel_rfl) rfl (by rfl) (fun K hK => ?_)
    go_simp
    refine (drawDigits_any s _ b N w5 hs5 (by omega) b0 (by omega) (by omega)).mono ?_
    rintro e w6 ⟨ds, A, C, rfl, hds, hdg, ow, ht6, hs6⟩
    have hl5 := hS.size
    replace hS := hS.trans ht6
    refine hK _ _ (.inr hS) ?_
    try simp only [Act.put, List.setIfInBounds_toArray]
    clear hK K
    have hl6 := hS.size
    have b6 := b3.touch hS (by omega)
    have br6 := br.touch hS (by omega)
    have f1 := b6.thaw 1
    have c1 := b6.at_ 1 rfl
    refine wpAnyM_one (i := 12) (by kernel_rfl) rfl (by rfl) (fun K hK => ?_)
    go_simp
    refine hK _ _ (.inr hS) ?_
    try simp only [Act.put, List.setIfInBounds_toArray]
    clear hK K
    refine wpAnyM_one (i := 13) (by kernel_rfl) rfl (by rfl) (fun K hK => ?_)
    go_simp
    refine hK _ _ (.inl rfl) ?_
    clear hK K
    refine wpAnyM_done (by kernel_rfl) ?_ _
    obtain ⟨w7, hw7⟩ : ∃ v, v = w6.setCell ⟨B, 1, none⟩ (.slice A N C) := ⟨_, rfl⟩
    rw [← hw7]
    have b7 : Bx w7 B 47 #[.int .i64 b, .slice A N C] := by rw [hw7]; exact b6.set_ 1 _
    have br7 : Bx w7 r 47 #[.int .i64 0, .slice none 0 0] := by rw [hw7]; exact br6.far (by simp; omega) _
    have hwz : w7.heap.size = w6.heap.size := by rw [hw7]; simp
    have tt : Touch B (B + 1) w6 w7 := by rw [hw7]; exact (Touch.refl _ _ _).setCell (by simp) (by simp) _
    have ow7 : Own 2 w7 w5.heap.size w7.heap.size (.slice A N C) ds := by rw [hwz]; exact ow.touch tt (.inr (by omega))
    have tu7 := (tu.trans hS).then_ tt (by have := HR.out; omega)
    have hs7 := hs6.touch tt (by omega)
    clear hw7 c1 f1
    have d0 := b7.at_ 0 rfl
    have d1 := b7.at_ 1 rfl
    have c0 := br7.at_ 0 rfl
    have c1 := br7.at_ 1 rfl
    have f0 := br7.thaw 0
    have f1 := br7.thaw 1
    have hr7 := br7.lt
    have bz := (br7.set_ 0 (.int .i64 b)).set_ 1 (.slice A N C)
    have r0 := bz.at_ 0 rfl
    have r1 := bz.at_ 1 rfl
    go_wp2_with fail
    refine bodyPost_ret (v := .agg #[.int .i64 b, .slice A N C]) (by simp [results, Tryd.results85, go_sem, r0, r1]) rfl ?_
    subst hds
    refine ⟨b, ds, A, C, rfl, ⟨b0, b1, hN0.1, hN0.2, hdg⟩, ?_, ?_, ?_⟩
    · exact ((ow7.setCell (p := ⟨r, 0, none⟩) (.inl (by simp; omega)) (.int .i64 b)).setCell (p := ⟨r, 1, none⟩) (.inl (by simp; omega)) (.slice A ds.length C)).wide (by have := HR.out; omega) (by simp)
    · exact tu7.then_ (((Touch.refl r (r + 1) w7).setCell (by simp) (by simp) _).setCell (by simp) (by simp) _) (by have := HR.out; omega)
    · exact (hs7.touch (((Touch.refl r (r + 1) w7).setCell (by simp) (by simp) _).setCell (by simp) (by simp) _) (by omega)).mono (by omega)

set_option maxHeartbeats 8000000 in
theorem a2Registers_any (a : Option Addr) (zs : List Int) (c : Nat) (w : World) (h : RdU w a zs) :
    Calls Tryd.prog 41 #[.slice a zs.length c] w fun e w' => ∃ b xs ys A C D E, e = .returned (.tuple #[.agg #[.int .i64 b, .slice A (List.length xs) C], .agg #[.int .i64 b, .slice D (List.length ys) E]]) ∧
      DrawnR b xs 7 ∧ ys.length = xs.length ∧ DigsOf b ys ∧ Rd w' A xs ∧ Rd w' D ys ∧ Below w.heap.size w w' := by
  obtain ⟨r, hr⟩ : ∃ r, r = w.heap.size := ⟨_, rfl⟩
  obtain ⟨u, hu⟩ : ∃ u, u = (w.alloc (.cells #[.int .i64 0, .slice none 0 0] 47)).alloc (.cells #[.int .i64 0, .slice none 0 0] 47) := ⟨_, rfl⟩
  have br : Bx u r 47 #[.int .i64 0, .slice none 0 0] := by rw [hu, hr]; exact (Bx.new _ _ _).alloc _
  have bq : Bx u (r + 1) 47 #[.int .i64 0, .slice none 0 0] := by rw [hu, hr]; simpa using Bx.new (w.alloc (.cells #[.int .i64 0, .slice none 0 0] 47)) #[.int .i64 0, .slice none 0 0] 47
  have hbel : Below w.heap.size w u := by rw [hu]; exact (by repeat (first | exact Below.refl _ _ | refine Below.setCell ?_ (by first | omega | (simp <;> omega)) _ | refine Below.alloc ?_ (by first | omega | (simp <;> omega)) _ | refine Below.drew ?_))
  have hu0 : u.heap.size = r + 1 + 1 := by rw [hu, hr]; simp
  have HU := Lib.hid hu
  have HR := Lib.hid hr
  clear hu
  go_enter Tryd.func41, Tryd.ntmps41
  go_wp2_with fail
  rw [← HU.out, ← hr]
  clear hr
  refine (from_any a zs c u (h.below hbel)).mono ?_
  rintro e w1 ⟨g, rfl, hg, hs, hb⟩
  have hl1 := hb.size
  have hgl := hs.lt
  replace br := br.below hb
  replace bq := bq.below hb
  replace hbel := hbel.trans (hb.mono hbel.size)
  clear hb
  go_wp2_with fail
  refine (draw02_any g 0 7 w1 hs (by omega) (by omega) (by omega)).mono ?_
  rintro e w2 ⟨b, xs, A, C, rfl, dr, ox, ht2, hs2⟩
  have hl2 := ht2.size
  replace br := br.touch ht2 (by omega)
  replace bq := bq.touch ht2 (by omega)
  replace hbel := hbel.trans (ht2.below (by have := HR.out; omega) hbel.size)
  clear ht2 hs
  go_upto_region 3 with fail
  obtain ⟨B, hB⟩ : ∃ B, B = w2.heap.size := ⟨_, rfl⟩
  obtain ⟨v, hv⟩ : ∃ v, v = w2.alloc (.cells #[.int .i64 b, .slice A xs.length C] 47) := ⟨_, rfl⟩
  rw [← hv, ← hB]
  have hbv : Below w2.heap.size w2 v := by rw [hv]; exact (by repeat (first | exact Below.refl _ _ | refine Below.setCell ?_ (by first | omega | (simp <;> omega)) _ | refine Below.alloc ?_ (by first | omega | (simp <;> omega)) _ | refine Below.drew ?_))
  have bB : Bx v B 47 #[.int .i64 b, .slice A xs.length C] := by rw [hv, hB]; exact Bx.new _ _ _
  have hvz : v.heap.size = B + 1 := by rw [hv, hB]; simp
  have sv := hs2.lo hbv (by omega)
  replace ox := ox.below hbv
  replace br := br.below hbv
  replace bq := bq.below hbv
  replace hbel := hbel.trans (hbv.mono hbel.size)
  have HB := Lib.hid hB
  have hgB : g < B := by omega
  have hrB : r + 1 < g := by omega
  have hl12 : w2.heap.size ≤ B := by omega
  clear hv hbv hs2 hB
  have k0 : ∀ w', Touch r (g + 1) v w' → w'.cell? ⟨B, 0, none⟩ = some (.int .i64 b) := fun _ h => keptT h (bB.at_ 0 rfl) (by omega)
  have k1 : ∀ w', Touch r (g + 1) v w' → w'.cell? ⟨B, 1, none⟩ = some (.slice A xs.length C) := fun _ h => keptT h (bB.at_ 1 rfl) (by omega)
  refine wp_region_marked (fun w' => Touch r (g + 1) v w') 12 (by kernel_rfl) ?_
  have hS : Touch r (g + 1) v v.drew := ⟨rfl, rfl, rfl, Nat.le_refl _, fun _ _ _ => rfl⟩
  have hT : Touch g (g + 1) v v.drew := ⟨rfl, rfl, rfl, Nat.le_refl _, fun _ _ _ => rfl⟩
  refine wpAnyM_take (i := 0) (v := ?_) rfl (by kernel_rfl) (by kernel_rfl) (by kernel_rfl) (by kernel_rfl) (by kernel_rfl) (fun _ _ _ h => h) hS (.inl ⟨by rfl, ?_⟩) ?_
  rotate_left 1
  · intro w' hS'; go_simp; try with_reducible rfl
  simp only [Act.put, List.setIfInBounds_toArray]
  refine wpAnyM_take (i := 1) (v := ?_) rfl (by kernel_rfl) (by kernel_rfl) (by kernel_rfl) (by kernel_rfl) (by kernel_rfl) (fun _ _ _ h => h) hS (.inl ⟨by rfl, ?_⟩) ?_
  rotate_left 1
  · intro w' hS'; go_simp; try with_reducible rfl
  simp only [Act.put]
  refine wpAnyM_take (i := 2) (v := ?_) rfl (by kernel_rfl) (by kernel_rfl) (by kernel_rfl) (by kernel_rfl) (by kernel_rfl) (fun _ _ _ h => h) hS (.inl ⟨by rfl, ?_⟩) ?_
  rotate_left 1
  · intro w' hS'; go_simp; try with_reducible rfl
  simp only [Act.put]
  refine wpAnyM_take (i := 3) (v := ?_) rfl (by kernel_rfl) (by kernel_rfl) (by kernel_rfl) (by kernel_rfl) (by kernel_rfl) (fun _ _ _ h => h) hS (.inl ⟨by rfl, ?_⟩) ?_
  rotate_left 1
  · intro w' hS'; go_simp; try with_reducible rfl
  simp only [Act.put]
  refine wpAnyM_take (i := 4) (v := ?_) rfl (by kernel_rfl) (by kernel_rfl) (by kernel_rfl) (by kernel_rfl) (by kernel_rfl) (fun _ _ _ h => h) hS (.inl ⟨by rfl, ?_⟩) ?_
  rotate_left 1
  · intro w' hS'; go_simp; try with_reducible rfl
  simp only [Act.put]
  refine wpAnyM_take (i := 5) (v := ?_) rfl (by kernel_rfl) (by kernel_rfl) (by kernel_rfl) (by kernel_rfl) (by kernel_rfl) (fun _ _ _ h => h) hS (.inl ⟨by rfl, ?_⟩) ?_
  rotate_left 1
  · intro w' hS'; go_simp; try with_reducible rfl
  simp only [Act.put]
  refine wpAnyM_take (i := 6) (v := ?_) rfl (by kernel_rfl) (by kernel_rfl) (by kernel_rfl) (by kernel_rfl) (by kernel_rfl) (fun _ _ _ h => h) hS (.inl ⟨by rfl, ?_⟩) ?_
  rotate_left 1
  · intro w' hS'; go_simp; try with_reducible rfl
  simp only [Act.put]
  refine wpAnyM_take (i := 7) (v := ?_) rfl (by kernel_rfl) (by kernel_rfl) (by kernel_rfl) (by kernel_rfl) (by kernel_rfl) (fun _ _ _ h => h) hS (.inl ⟨by rfl, ?_⟩) ?_
  rotate_left 1
  · intro w' hS'; go_simp; try with_reducible rfl
  simp only [Act.put]
  refine wpAnyM_take (i := 8) (v := ?_) rfl (by kernel_rfl) (by kernel_rfl) (by kernel_rfl) (by kernel_rfl) (by kernel_rfl) (fun _ _ _ h => h) hS (.inl ⟨by rfl, ?_⟩) ?_
  rotate_left 1
  · intro w' hS'; go_simp; try with_reducible rfl
  simp only [Act.put]
  clear k0 k1
  refine wpAnyM_one (i := 9) (by kernel_rfl) rfl (by rfl) (fun K hK => ?_)
  go_simp
  refine (drawDigits_any g _ b xs.length v.drew (sv.lo (L := v.heap.size) ((Below.refl _ _).drew) (by omega)) (by omega) dr.b0 (by have := dr.b1; omega) (by have := dr.n1; omega)).mono ?_
  rintro e w3 ⟨ys, D, E, rfl, hys, hdg, oy, ht3, hs3⟩
  replace hT := hT.trans ht3
  replace hS := hS.trans (ht3.widen (by omega) (Nat.le_refl _))
  have hl3 := hS.size
  refine hK _ _ (.inr hS) ?_
  try simp only [Act.put, List.setIfInBounds_toArray]
  clear hK K
  refine wpAnyM_take (i := 10) (v := ?_) rfl (by kernel_rfl) (by kernel_rfl) (by kernel_rfl) (by kernel_rfl) (by kernel_rfl) (fun _ _ _ h => h) hS (.inl ⟨by rfl, ?_⟩) ?_
  rotate_left 1
  · intro w' hS'; go_simp; try with_reducible rfl
  simp only [Act.put, List.setIfInBounds_toArray]
  have ox3 := ox.touch hT (.inr (by omega))
  have br3 := br.touch hT (by omega)
  have bq3 := bq.touch hT (by omega)
  have hbel3 := hbel.trans (hT.below (by have := HR.out; omega) hbel.size)
  have f0 := br3.thaw 0
  have f1 := br3.thaw 1
  have c0 := br3.at_ 0 rfl
  have c1 := br3.at_ 1 rfl
  have hrl := br3.lt
  refine wpAnyM_one (i := 11) (by kernel_rfl) rfl (by rfl) (fun K hK => ?_)
  go_simp
  obtain ⟨w4, hw4⟩ : ∃ v, v = (w3.setCell ⟨r, 0, none⟩ (.int .i64 b)).setCell ⟨r, 1, none⟩ (.slice A xs.length C) := ⟨_, rfl⟩
  rw [← hw4]
  have tt : Touch r (r + 1) w3 w4 := by rw [hw4]; exact ((Touch.refl _ _ _).setCell (by simp) (by simp) _).setCell (by simp) (by simp) _
  have br4 : Bx w4 r 47 #[.int .i64 b, .slice A xs.length C] := by rw [hw4]; exact (br3.set_ 0 _).set_ 1 _
  have bq4 := bq3.touch tt (by omega)
  have ox4 := ox3.touch tt (.inr (by omega))
  have hvg : g < v.heap.size := by omega
  have oy4 := oy.touch tt (.inr (by simp; omega))
  have hbel4 := hbel3.trans (tt.below (by have := HR.out; omega) hbel3.size)
  have hl4 := tt.size
  clear hw4 f0 f1 c0 c1
  refine hK _ _ (.inr (hS.trans (tt.widen (Nat.le_refl _) (by omega)))) ?_
  try simp only [Act.put, List.setIfInBounds_toArray]
  clear hK K
  have f0 := bq4.thaw 0
  have f1 := bq4.thaw 1
  have c0 := bq4.at_ 0 rfl
  have c1 := bq4.at_ 1 rfl
  have hql := bq4.lt
  refine wpAnyM_one (i := 12) (by kernel_rfl) rfl (by rfl) (fun K hK => ?_)
  go_simp
  obtain ⟨w5, hw5⟩ : ∃ v, v = (w4.setCell ⟨r + 1, 0, none⟩ (.int .i64 b)).setCell ⟨r + 1, 1, none⟩ (.slice D xs.length E) := ⟨_, rfl⟩
  rw [← hw5]
  have t5 : Touch (r + 1) (r + 1 + 1) w4 w5 := by rw [hw5]; exact ((Touch.refl _ _ _).setCell (by simp) (by simp) _).setCell (by simp) (by simp) _
  have bq5 : Bx w5 (r + 1) 47 #[.int .i64 b, .slice D xs.length E] := by rw [hw5]; exact (bq4.set_ 0 _).set_ 1 _
  have br5 := br4.touch t5 (by omega)
  have ox5 := ox4.touch t5 (.inr (by omega))
  have oy5 := oy4.touch t5 (.inr (by simp; omega))
  have hbel5 := hbel4.trans (t5.below (by have := HR.out; omega) hbel4.size)
  clear hw5 f0 f1 c0 c1
  refine hK _ _ (.inl rfl) ?_
  clear hK K
  refine wpAnyM_done (by kernel_rfl) ?_ _
  have r0 := br5.at_ 0 rfl
  have r1 := br5.at_ 1 rfl
  have q0 := bq5.at_ 0 rfl
  have q1 := bq5.at_ 1 rfl
  go_wp2_with fail
  refine bodyPost_ret (v := .tuple #[.agg #[.int .i64 b, .slice A xs.length C], .agg #[.int .i64 b, .slice D xs.length E]]) (by simp [results, Tryd.results41, go_sem, r0, r1, q0, q1]) rfl ?_
  exact ⟨b, xs, ys, A, C, D, E, by rw [hys], dr, hys, hdg, ox5.rd, (by rw [← hys] at oy5; exact oy5.rd), hbel5⟩
end Go.Proofs.YtgfopieojpjddaaDoor
