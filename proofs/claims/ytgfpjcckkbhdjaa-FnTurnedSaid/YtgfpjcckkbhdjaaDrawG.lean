/-
  Some drum out of a source that is seldom not valid: spec.l05Bent; with a digit: l05Digit.
-/
import Derived.Test.YtgfpjcckkbhdjaaDrawD
namespace Go.Proofs.Ytgfpjcckkbhdjaa
open Go.RowKit

/-- A bent drum: numbers of 64 bits. -/
def BentK (K B T F : Int) : Prop := I64 K ∧ I64 B ∧ I64 T ∧ I64 F
/-- A bent drum in a box. -/
def DrBnt (s N r B : Nat) (w wx : World) : Prop := ∃ K b T F : Int, BentK K b T F ∧ Bx wx B 86 #[.int .i64 K, .int .i64 b, .int .i64 T, .int .i64 F] ∧ Bx wx r 86 #[.int .i64 0, .int .i64 0, .int .i64 0, .int .i64 0] ∧ Src wx s N ∧ Touch s (s + 1) w wx
theorem DrD.bent {K B T F : Int} (h : DrD K B T F) : BentK K B T F :=
  ⟨mid64 (by have := h.k0; omega) (by have := h.k1; omega), mid64 (by have := h.b0; omega) (by have := h.b1; omega), mid64 (by have := h.t0; have := h.b0; omega) (by have := h.t1; omega), mid64 (by have := h.f0; omega) (by have := h.f1; omega)⟩

set_option maxHeartbeats 8000000 in
theorem bentDrum_any (s N : Nat) (w : World) (h : Src w s N) (hN : N ≤ 600000) :
    Calls Try.prog 160 #[.pointer (some ⟨s, 0, none⟩)] w fun e w' => ∃ K B T F : Int, e = .returned (.agg #[.int .i64 K, .int .i64 B, .int .i64 T, .int .i64 F]) ∧ BentK K B T F ∧ Touch s (s + 1) w w' ∧ Src w' s (N + 40) := by
  have hs := h.lt
  obtain ⟨r, hr⟩ : ∃ r, r = w.heap.size := ⟨_, rfl⟩
  obtain ⟨u, hu⟩ : ∃ u, u = w.alloc (.cells #[.int .i64 0, .int .i64 0, .int .i64 0, .int .i64 0] 86) := ⟨_, rfl⟩
  have br : Bx u r 86 #[.int .i64 0, .int .i64 0, .int .i64 0, .int .i64 0] := by rw [hu, hr]; exact Bx.new _ _ _
  have hbu : Below w.heap.size w u := by rw [hu]; exact (by repeat (first | exact Below.refl _ _ | refine Below.setCell ?_ (by first | omega | (simp <;> omega)) _ | refine Below.alloc ?_ (by first | omega | (simp <;> omega)) _ | refine Below.drew ?_))
  have hsu : u.heap.size = r + 1 := by rw [hu, hr]; simp
  have su : Src u s N := h.lo hbu hs
  have tu : Touch s (s + 1) w u := Below.touch hbu
  have HU := Lib.hid hu
  have HR := Lib.hid hr
  clear hu h hbu
  have hsr : s < r := by omega
  go_enter Try.func160, Try.ntmps160
  go_wp2_with fail
  rw [← HU.out, ← hr]
  clear hr
  refine (drawDrum_any s N u su (by omega)).mono ?_
  rintro e w1 ⟨K, b, T, F, rfl, hdd, ht1, hs1⟩
  have hl1 := ht1.size
  replace br := br.touch ht1 (by omega)
  replace tu := tu.trans ht1
  clear ht1 su hsu
  go_wp2_with fail
  obtain ⟨B, hB⟩ : ∃ B, B = w1.heap.size := ⟨_, rfl⟩
  obtain ⟨v, hv⟩ : ∃ v, v = w1.alloc (.cells #[.int .i64 K, .int .i64 b, .int .i64 T, .int .i64 F] 86) := ⟨_, rfl⟩
  rw [← hv, ← hB]
  have hbv : Below w1.heap.size w1 v := by rw [hv]; exact (Below.refl _ _).alloc (Nat.le_refl _) _
  have bB : Bx v B 86 #[.int .i64 K, .int .i64 b, .int .i64 T, .int .i64 F] := by rw [hv, hB]; exact Bx.new _ _ _
  have hrB : r < B := by rw [hB]; exact br.lt
  replace br := br.below hbv
  replace tu := tu.trans (Below.touch hbv)
  have hsx := hs1.lo hbv (by omega)
  clear hv hbv hs1 hB
  refine (pick_any s _ 24 v hsx (by omega) (by omega)).mono ?_
  rintro e w2 ⟨z, rfl, z0, z1, hs2, ht2⟩
  have hl2 := ht2.size
  replace bB := bB.touch ht2 (by omega)
  replace br := br.touch ht2 (by omega)
  replace tu := tu.trans ht2
  replace hsx := hs2.mono (M := N + 30) (by omega)
  have hD := Lib.hid hdd.bent
  have b0 := hdd.b0
  have b1 := hdd.b1
  have t0 := hdd.t0
  have t1 := hdd.t1
  clear ht2 hs2 hdd
  have hBz := bB.lt
  go_upto_block 0 with fail
  go_cut [3] from 8 to 46 (fun s3 wx => s3 = .pointer (some ⟨B, 0, none⟩) ∧ DrBnt s (N + 40) r B w wx)
  case first =>
    by_cases h0 : z = 0
    · subst h0
      have hwz := br.lt
      go_wp2_with fail
      have hal : Below w2.heap.size w2 (w2.alloc (.cells ([0, 1, 4, -9223372036854775808].map (Value.int .i64)).toArray 2)) := (Below.refl _ _).alloc (Nat.le_refl _) _
      refine (among_any s _ w2.heap.size 4 [0, 1, 4, -9223372036854775808] _ (hsx.lo (L := w2.heap.size) hal (by omega)) (by omega) (rd_new w2 [0, 1, 4, -9223372036854775808] (by simp)) (by omega) (by simp) (by simp)).mono ?_
      rintro e w3 ⟨y, rfl, hy, hs3, ht3⟩
      have iy : I64 y := by
        simp at hy
        rcases hy with rfl | rfl | rfl | rfl
        all_goals first | exact mid64 (by omega) (by omega) | (unfold I64; decide)
      have hl3 := hal.size
      have b3 := (bB.below hal).touch ht3 (by omega)
      have r3 := (br.below hal).touch ht3 (by omega)
      have t3 := (tu.trans (Below.touch hal)).trans ht3
      have tt : Touch B (B + 1) w3 (w3.setCell ⟨B, 0, none⟩ (.int .i64 y)) := (Touch.refl _ _ _).setCell (by simp) (by simp) _
      have b4 := b3.set_ 0 (.int .i64 y)
      have r4 := r3.touch tt (by omega)
      have t4 := t3.then_ tt (by have := HR.out; omega)
      have s4 := (hs3.touch tt (by omega)).mono (M := N + 40) (by omega)
      have c3 := b3.at_ 0 rfl
      have f3 := b3.thaw 0
      clear tt ht3 hal hy bB br tu hsx
      go_wp2_with fail
      go_meet
      case rel => exact ⟨rfl, y, b, T, F, ⟨iy, hD.out.2.1, hD.out.2.2.1, hD.out.2.2.2⟩, b4, r4, s4, t4⟩
    have h0b : (z == 0) = false := beq_eq_false_iff_ne.2 h0
    by_cases h1 : z = 1
    · subst h1
      have hwz := br.lt
      go_wp2_with fail
      have hal : Below w2.heap.size w2 (w2.alloc (.cells ([1, 2, 16, 17].map (Value.int .i64)).toArray 2)) := (Below.refl _ _).alloc (Nat.le_refl _) _
      refine (among_any s _ w2.heap.size 4 [1, 2, 16, 17] _ (hsx.lo (L := w2.heap.size) hal (by omega)) (by omega) (rd_new w2 [1, 2, 16, 17] (by simp)) (by omega) (by simp) (by simp)).mono ?_
      rintro e w3 ⟨y, rfl, hy, hs3, ht3⟩
      have iy : I64 y := by
        simp at hy
        rcases hy with rfl | rfl | rfl | rfl
        all_goals first | exact mid64 (by omega) (by omega) | (unfold I64; decide)
      have hl3 := hal.size
      have b3 := (bB.below hal).touch ht3 (by omega)
      have r3 := (br.below hal).touch ht3 (by omega)
      have t3 := (tu.trans (Below.touch hal)).trans ht3
      have tt : Touch B (B + 1) w3 (w3.setCell ⟨B, 1, none⟩ (.int .i64 y)) := (Touch.refl _ _ _).setCell (by simp) (by simp) _
      have b4 := b3.set_ 1 (.int .i64 y)
      have r4 := r3.touch tt (by omega)
      have t4 := t3.then_ tt (by have := HR.out; omega)
      have s4 := (hs3.touch tt (by omega)).mono (M := N + 40) (by omega)
      have c3 := b3.at_ 1 rfl
      have f3 := b3.thaw 1
      clear tt ht3 hal hy bB br tu hsx
      go_wp2_with fail
      go_meet
      case rel => exact ⟨rfl, K, y, T, F, ⟨hD.out.1, iy, hD.out.2.2.1, hD.out.2.2.2⟩, b4, r4, s4, t4⟩
    have h1b : (z == 1) = false := beq_eq_false_iff_ne.2 h1
    by_cases h2 : z = 2
    · subst h2
      have hwz := br.lt
      have k1 := kept_lo (L := w2.heap.size) (bB.at_ 1 rfl) hBz
      have d1 := bB.at_ 1 rfl
      go_wp2_with fail
      have hal : Below w2.heap.size w2 (w2.alloc (.cells ([b - 1, 60, 61, -9223372036854775808].map (Value.int .i64)).toArray 2)) := (Below.refl _ _).alloc (Nat.le_refl _) _
      refine (among_any s _ w2.heap.size 4 [b - 1, 60, 61, -9223372036854775808] _ (hsx.lo (L := w2.heap.size) hal (by omega)) (by omega) (rd_new w2 [b - 1, 60, 61, -9223372036854775808] (by simp)) (by omega) (by simp) (by simp)).mono ?_
      rintro e w3 ⟨y, rfl, hy, hs3, ht3⟩
      have iy : I64 y := by
        simp at hy
        rcases hy with rfl | rfl | rfl | rfl
        all_goals first | exact mid64 (by omega) (by omega) | (unfold I64; decide)
      have hl3 := hal.size
      have b3 := (bB.below hal).touch ht3 (by omega)
      have r3 := (br.below hal).touch ht3 (by omega)
      have t3 := (tu.trans (Below.touch hal)).trans ht3
      have tt : Touch B (B + 1) w3 (w3.setCell ⟨B, 2, none⟩ (.int .i64 y)) := (Touch.refl _ _ _).setCell (by simp) (by simp) _
      have b4 := b3.set_ 2 (.int .i64 y)
      have r4 := r3.touch tt (by omega)
      have t4 := t3.then_ tt (by have := HR.out; omega)
      have s4 := (hs3.touch tt (by omega)).mono (M := N + 40) (by omega)
      have c3 := b3.at_ 2 rfl
      have f3 := b3.thaw 2
      clear tt ht3 hal hy bB br tu hsx
      go_wp2_with fail
      go_meet
      case rel => exact ⟨rfl, K, b, y, F, ⟨hD.out.1, hD.out.2.1, iy, hD.out.2.2.2⟩, b4, r4, s4, t4⟩
    have h2b : (z == 2) = false := beq_eq_false_iff_ne.2 h2
    by_cases h3 : z = 3
    · subst h3
      have hwz := br.lt
      have d1 := bB.at_ 1 rfl
      have d2 := bB.at_ 2 rfl
      go_wp2_with fail
      have hal : Below w2.heap.size w2 (w2.alloc (.cells ([0, 1, T - b + 2, T - b + 3, -1].map (Value.int .i64)).toArray 2)) := (Below.refl _ _).alloc (Nat.le_refl _) _
      refine (among_any s _ w2.heap.size 5 [0, 1, T - b + 2, T - b + 3, -1] _ (hsx.lo (L := w2.heap.size) hal (by omega)) (by omega) (rd_new w2 [0, 1, T - b + 2, T - b + 3, -1] (by simp)) (by omega) (by simp) (by simp)).mono ?_
      rintro e w3 ⟨y, rfl, hy, hs3, ht3⟩
      have iy : I64 y := by
        simp at hy
        rcases hy with rfl | rfl | rfl | rfl | rfl
        all_goals first | exact mid64 (by omega) (by omega) | (unfold I64; decide)
      have hl3 := hal.size
      have b3 := (bB.below hal).touch ht3 (by omega)
      have r3 := (br.below hal).touch ht3 (by omega)
      have t3 := (tu.trans (Below.touch hal)).trans ht3
      have tt : Touch B (B + 1) w3 (w3.setCell ⟨B, 3, none⟩ (.int .i64 y)) := (Touch.refl _ _ _).setCell (by simp) (by simp) _
      have b4 := b3.set_ 3 (.int .i64 y)
      have r4 := r3.touch tt (by omega)
      have t4 := t3.then_ tt (by have := HR.out; omega)
      have s4 := (hs3.touch tt (by omega)).mono (M := N + 40) (by omega)
      have c3 := b3.at_ 3 rfl
      have f3 := b3.thaw 3
      clear tt ht3 hal hy bB br tu hsx
      go_wp2_with fail
      go_meet
      case rel => exact ⟨rfl, K, b, T, y, ⟨hD.out.1, hD.out.2.1, hD.out.2.2.1, iy⟩, b4, r4, s4, t4⟩
    have h3b : (z == 3) = false := beq_eq_false_iff_ne.2 h3
    go_wp2_with fail
    go_meet
    case rel => exact ⟨rfl, K, b, T, F, hD.out, bB, br, hsx.mono (by omega), tu⟩
  case rest =>
    clear bB br tu hsx z0 z1 b0 b1 t0 t1 hD
    obtain ⟨rfl, K, b, T, F, hD, bB, br, hsx, tu⟩ := hcut
    obtain ⟨w5, rfl⟩ : ∃ v, v = wc := ⟨_, rfl⟩
    have HD := Lib.hid hD
    clear hD
    have d0 := bB.at_ 0 rfl
    have d1 := bB.at_ 1 rfl
    have d2 := bB.at_ 2 rfl
    have d3 := bB.at_ 3 rfl
    have c0 := br.at_ 0 rfl
    have c1 := br.at_ 1 rfl
    have c2 := br.at_ 2 rfl
    have c3 := br.at_ 3 rfl
    have fc0 := br.thaw 0
    have fc1 := br.thaw 1
    have fc2 := br.thaw 2
    have fc3 := br.thaw 3
    have hrl := br.lt
    have tt : Touch r (r + 1) w5 ((((w5.setCell ⟨r, 0, none⟩ (.int .i64 K)).setCell ⟨r, 1, none⟩ (.int .i64 b)).setCell ⟨r, 2, none⟩ (.int .i64 T)).setCell ⟨r, 3, none⟩ (.int .i64 F)) := ((((Touch.refl _ _ _).setCell (by simp) (by simp) _).setCell (by simp) (by simp) _).setCell (by simp) (by simp) _).setCell (by simp) (by simp) _
    have HT := Lib.hid (tu.then_ tt (by have := HR.out; omega))
    have HS := Lib.hid (hsx.touch tt (by omega))
    clear tt tu hsx
    go_wp2_with fail
    refine bodyPost_ret (v := .agg #[.int .i64 K, .int .i64 b, .int .i64 T, .int .i64 F]) (by simp [results, Try.results160, go_sem, c0, c1, c2, c3]) rfl ?_
    exact ⟨K, b, T, F, rfl, HD.out, HT.out, HS.out⟩
end Go.Proofs.Ytgfpjcckkbhdjaa
