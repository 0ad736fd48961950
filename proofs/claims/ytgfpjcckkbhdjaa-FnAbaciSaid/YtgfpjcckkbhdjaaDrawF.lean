/-
  DrawSameAbacus.
-/
import Derived.Test.YtgfpjcckkbhdjaaDrawB
import Derived.Test.YtgfpjcckkbhdjaaAmong
namespace Go.Proofs.Ytgfpjcckkbhdjaa
open Go.RowKit

theorem ownF_cap {α : Type} {F : Flat α} {t : TypeId} {w : World} {lo hi : Nat} {a : Option Addr} {c : Nat} {xs : List α} (h : OwnF F t w lo hi (.slice a xs.length c) xs) : xs.length ≤ c := by
  rcases h.row.row.2 with ⟨_, hn⟩ | ⟨g, cap, cur, hv, _, _, hc, _⟩
  · omega
  · injection hv with _ _ hc2
    omega

theorem own_rdTail {w : World} {lo hi g n c : Nat} {t : TypeId} {rs : List (Int × Int)} (h : OwnF pairF t w lo hi (.slice (some ⟨g, 0, none⟩) n c) rs) : RdF pairF w (some ⟨g, 2, none⟩) (rs.drop 1) := by
  refine ⟨by have := h.len; simp; omega, fun _ => ⟨g, 2, rfl, fun i x hx j v hv => ?_⟩⟩
  have hx2 : rs[i + 1]? = some x := by rw [List.getElem?_drop] at hx; rw [Nat.add_comm]; exact hx
  have hlt : i + 1 < rs.length := by
    rcases Nat.lt_or_ge (i + 1) rs.length with h1 | h1
    · exact h1
    · rw [List.getElem?_eq_none h1] at hx2; cases hx2
  have := h.get (k := i + 1) (j := j) (u := v) hlt (by rw [elt, hx2]; exact hv)
  rw [show 2 + i * pairF.sz + j = (i + 1) * pairF.sz + j by show 2 + i * 2 + j = (i + 1) * 2 + j; omega]
  exact this

theorem rdF_touch {α : Type} {F : Flat α} {w w' : World} {a : Option Addr} {xs : List α} {lo hi : Nat} (h : RdF F w a xs) (ht : Touch lo hi w w') (hd : ∀ b off, a = some ⟨b, off, none⟩ → b < lo ∨ hi ≤ b) : RdF F w' a xs := by
  refine ⟨h.len, fun hne => ?_⟩
  obtain ⟨b, off, rfl, hc⟩ := h.cells hne
  exact ⟨b, off, rfl, fun i x hx j v hv => keptT ht (hc i x hx j v hv) (hd b off rfl)⟩

set_option maxHeartbeats 8000000 in
theorem drawSameAbacus_any (a : Option Addr) (zs : List Int) (c : Nat) (w : World) (h : RdU w a zs) :
    Calls Try.prog 46 #[.slice a zs.length c] w fun e w' => ∃ (U L W X : Int) (rs ss : List (Int × Int)) (A D : Option Addr) (C E : Nat),
      e = .returned (.tuple #[.agg #[.int .i64 U, .int .i64 L, .int .i64 W, .slice A (List.length rs) C], .agg #[.int .i64 U, .int .i64 L, .int .i64 X, .slice D (List.length ss) E]]) ∧ BentD U L W rs ∧ BentD U L X ss ∧ RdF pairF w' A rs ∧ RdF pairF w' D ss ∧ Below w.heap.size w w' := by
  obtain ⟨r, hr⟩ : ∃ r, r = w.heap.size := ⟨_, rfl⟩
  obtain ⟨u, hu⟩ : ∃ u, u = (w.alloc (.cells #[.int .i64 0, .int .i64 0, .int .i64 0, .slice none 0 0] 56)).alloc (.cells #[.int .i64 0, .int .i64 0, .int .i64 0, .slice none 0 0] 56) := ⟨_, rfl⟩
  have br : Bx u r 56 #[.int .i64 0, .int .i64 0, .int .i64 0, .slice none 0 0] := by rw [hu, hr]; exact (Bx.new _ _ _).alloc _
  have bq : Bx u (r + 1) 56 #[.int .i64 0, .int .i64 0, .int .i64 0, .slice none 0 0] := by rw [hu, hr]; simpa using Bx.new (w.alloc (.cells #[.int .i64 0, .int .i64 0, .int .i64 0, .slice none 0 0] 56)) #[.int .i64 0, .int .i64 0, .int .i64 0, .slice none 0 0] 56
  have hbel : Below w.heap.size w u := by rw [hu]; exact (by repeat (first | exact Below.refl _ _ | refine Below.setCell ?_ (by first | omega | (simp <;> omega)) _ | refine Below.alloc ?_ (by first | omega | (simp <;> omega)) _ | refine Below.drew ?_))
  have hsu : u.heap.size = r + 2 := by rw [hu, hr]; simp
  have HU := Lib.hid hu
  have HR := Lib.hid hr
  go_enter Try.func46, Try.ntmps46
  go_wp2_with fail
  rw [← HU.out, ← hr]
  clear hr hu
  refine (from_any a zs c u (h.below hbel)).mono ?_
  rintro e w1 ⟨g, rfl, hg, hs, hb1⟩
  have hl := hb1.size
  replace br := br.below hb1
  replace bq := bq.below hb1
  replace hbel := hbel.trans (hb1.mono hbel.size)
  have hgl1 := hs.lt
  clear hb1
  go_wp2_with fail
  refine (drawAba_any g _ w1 hs (by omega)).mono ?_
  rintro e w2 ⟨U, L, W, rs, A, C, rfl, hF, hrs, n1, n6, ow, ht, hs2⟩
  have hl2 := ht.size
  replace br := br.touch ht (by omega)
  replace bq := bq.touch ht (by omega)
  replace hbel : Below w.heap.size w w2 := hbel.trans (ht.below (by have := HR.out; omega) (by have := HR.out; omega))
  have hD := hF.bent hrs n6
  clear ht hs
  go_wp2_with fail
  obtain ⟨B, hB⟩ : ∃ B, B = w2.heap.size := ⟨_, rfl⟩
  obtain ⟨v, hv⟩ : ∃ v, v = w2.alloc (.cells #[.int .i64 U, .int .i64 L, .int .i64 W, .slice A rs.length C] 56) := ⟨_, rfl⟩
  rw [← hv, ← hB]
  have hbv : Below w2.heap.size w2 v := by rw [hv]; exact (by repeat (first | exact Below.refl _ _ | refine Below.setCell ?_ (by first | omega | (simp <;> omega)) _ | refine Below.alloc ?_ (by first | omega | (simp <;> omega)) _ | refine Below.drew ?_))
  have bB : Bx v B 56 #[.int .i64 U, .int .i64 L, .int .i64 W, .slice A rs.length C] := by rw [hv, hB]; exact Bx.new _ _ _
  have hvz : v.heap.size = B + 1 := by rw [hv, hB]; simp
  replace br := br.below hbv
  replace bq := bq.below hbv
  replace ow := ow.below hbv
  have sv := hs2.lo hbv (by omega)
  replace hbel := hbel.trans (hbv.mono hbel.size)
  rw [← hB] at ow
  have HB := Lib.hid hB
  have hgB : g < B := by omega
  clear hv hbv hs2 hB
  refine (l03Own_any B U L W A C rs v (AbaAt.of_box bB) ow.rd (by omega)).mono ?_
  rintro e w3 ⟨D, E, rfl, od, hb3⟩
  have hl3 := hb3.size
  go_wp2_with fail
  obtain ⟨P, hP⟩ : ∃ P, P = w3.heap.size := ⟨_, rfl⟩
  obtain ⟨w4, hw4⟩ : ∃ v, v = w3.alloc (.cells #[.int .i64 U, .int .i64 L, .int .i64 W, .slice D rs.length E] 56) := ⟨_, rfl⟩
  rw [← hw4, ← hP]
  have hb4 : Below w3.heap.size w3 w4 := by rw [hw4]; exact (by repeat (first | exact Below.refl _ _ | refine Below.setCell ?_ (by first | omega | (simp <;> omega)) _ | refine Below.alloc ?_ (by first | omega | (simp <;> omega)) _ | refine Below.drew ?_))
  have bP : Bx w4 P 56 #[.int .i64 U, .int .i64 L, .int .i64 W, .slice D rs.length E] := by rw [hw4, hP]; exact Bx.new _ _ _
  have hz4 : w4.heap.size = P + 1 := by rw [hw4, hP]; simp
  have hbv4 : Below v.heap.size v w4 := hb3.trans (hb4.mono hl3)
  replace od := od.below hb4
  rw [← hP] at od
  replace br := br.below hbv4
  replace bq := bq.below hbv4
  replace bB := bB.below hbv4
  replace ow := ow.below hbv4
  replace sv := sv.lo hbv4 (by omega)
  replace hbel := hbel.trans (hbv4.mono hbel.size)
  have HP := Lib.hid hP
  have hBP : B < P := by omega
  clear hw4 hb4 hb3 hbv4 hP
  refine (pick_any g _ 5 w4 sv (by omega) (by omega)).mono ?_
  rintro e w5 ⟨z, rfl, z0, z1, hs5, ht5⟩
  have hl5 := ht5.size
  replace br := br.touch ht5 (by omega)
  replace bq := bq.touch ht5 (by omega)
  replace bB := bB.touch ht5 (by omega)
  replace bP := bP.touch ht5 (by omega)
  replace ow := ow.touch ht5 (.inr (by omega))
  replace od := od.touch ht5 (.inr (by omega))
  replace hbel := hbel.trans (ht5.below (by have := HR.out; omega) hbel.size)
  clear ht5 sv hs5
  have hPz := bP.lt
  rw [hvz] at od
  go_upto_block 0 with fail
  go_cut [6] from 14 to 35 (fun s6 wx => s6 = .pointer (some ⟨P, 0, none⟩) ∧ ∃ (X : Int) (ss : List (Int × Int)) (D : Option Addr) (E : Nat), BentD U L X ss ∧ Bx wx P 56 #[.int .i64 U, .int .i64 L, .int .i64 X, .slice D ss.length E] ∧ RdF pairF wx D ss ∧ (∀ b off, D = some ⟨b, off, none⟩ → B + 1 ≤ b) ∧ Below (B + 1) w5 wx)
  case first =>
    obtain ⟨g2, rfl, hg1, hg2, hg3⟩ := od.head (by omega)
    have hW := hF.w1
    have hW0 := hF.w0
    by_cases h0 : z = 0
    · subst h0
      have c2 := bP.at_ 2 rfl
      have f2 := bP.thaw 2
      have v1 : IntKind.i64.wrap (W + 1) = W + 1 := fits_int _ (by omega) (by omega)
      have b6 := bP.set_ 2 (.int .i64 (W + 1))
      have o6 := (od.setCell (p := ⟨P, 2, none⟩) (.inr (by simp)) (.int .i64 (W + 1))).rd
      have l6 : Below (B + 1) w5 (w5.setCell ⟨P, 2, none⟩ (.int .i64 (W + 1))) := (Below.refl _ _).setCell (by show B + 1 ≤ P; omega) _
      go_wp2_with fail
      go_meet
      case rel => exact ⟨rfl, W + 1, rs, _, E, ⟨hD.u, hD.l, mid64 (by omega) (by omega), hD.all, hD.n⟩, b6, o6, (fun b off e => by injection e with e; injection e with e1 _; subst e1; exact hg1), l6⟩
    have h0b : (z == 0) = false := beq_eq_false_iff_ne.2 h0
    by_cases h1 : z = 1
    · subst h1
      have c3 : w5.cell? ⟨P, 3, none⟩ = some (.slice (some ⟨g2, 0, none⟩) rs.length E) := bP.at_ 3 rfl
      obtain ⟨⟨x, y⟩, hxy⟩ : ∃ q, q = elt pairF rs 0 := ⟨_, rfl⟩
      have hm := hrs (x, y) (by rw [hxy]; exact elt_mem (by omega))
      have hg := (od.get2 (k := 0) (by omega)).1
      rw [← hxy] at hg
      simp only at hg hm
      have hg' : w5.cell? ⟨g2, 0, none⟩ = some (.int .i64 x) := by simpa using hg
      have hth := od.thaw 0
      have v1 : IntKind.i64.wrap (x + 1) = x + 1 := fits_int _ (by omega) (by omega)
      have o6 := od.put20 (k := 0) (by omega) (x + 1)
      rw [← hxy] at o6
      have hz0 : (0 : Int) < (rs.length : Int) := by omega
      have o7 : RdF pairF (w5.setCell ⟨g2, 0, none⟩ (.int .i64 (x + 1))) (some ⟨g2, 0, none⟩) (rs.set 0 (x + 1, y)) := by
        have := o6.rd
        simpa using this
      have b6 := bP.far (p := ⟨g2, 0, none⟩) (by show P ≠ g2; omega) (.int .i64 (x + 1))
      have l6 : Below (B + 1) w5 (w5.setCell ⟨g2, 0, none⟩ (.int .i64 (x + 1))) := (Below.refl _ _).setCell (by show B + 1 ≤ g2; omega) _
      have hls : (rs.set 0 (x + 1, y)).length = rs.length := by simp
      have hD6 : BentD U L W (rs.set 0 (x + 1, y)) := ⟨hD.u, hD.l, hD.w, fun q hq => by
        rcases List.mem_or_eq_of_mem_set hq with h | rfl
        · exact hD.all q h
        · exact ⟨mid64 (by show -1000000 ≤ x + 1; omega) (by show x + 1 ≤ 1000000; omega), mid64 (by show -1000000 ≤ y; omega) (by show y ≤ 1000000; omega)⟩, by rw [hls]; exact hD.n⟩
      have HLS := Lib.hid hls
      clear hls hg hxy
      go_wp2_with fail
      go_meet
      case rel => exact ⟨rfl, W, rs.set 0 (x + 1, y), _, E, hD6, by rw [HLS.out]; exact b6, o7, (fun b off e => by injection e with e; injection e with e1 _; subst e1; exact hg1), l6⟩
    have h1b : (z == 1) = false := beq_eq_false_iff_ne.2 h1
    by_cases h2 : z = 2
    · subst h2
      have c3 : w5.cell? ⟨P, 3, none⟩ = some (.slice (some ⟨g2, 0, none⟩) rs.length E) := bP.at_ 3 rfl
      have f3 := bP.thaw 3
      have hcap := ownF_cap od
      have hz1 : (1 : Int) ≤ (rs.length : Int) := by omega
      have hz2 : rs.length ≤ E := by omega
      have hdl : (rs.drop 1).length = rs.length - 1 := by simp
      have hDt : BentD U L W (rs.drop 1) := ⟨hD.u, hD.l, hD.w, fun q hq => hD.all q (List.mem_of_mem_drop hq), by rw [hdl]; have := hD.n; omega⟩
      have HDL := Lib.hid hdl
      clear hdl
      by_cases he : E = 1
      · subst he
        have hlen1 : rs.length - 1 = 0 := by omega
        have b6 := bP.set_ 3 (.slice (some ⟨g2, 0, none⟩) 0 0)
        have l6 : Below (B + 1) w5 (w5.setCell ⟨P, 3, none⟩ (.slice (some ⟨g2, 0, none⟩) 0 0)) := (Below.refl _ _).setCell (by show B + 1 ≤ P; omega) _
        have hdn : rs.drop 1 = [] := List.drop_of_length_le (by omega)
        have HDN := Lib.hid hdn
        have HL1 := Lib.hid hlen1
        clear hdn hlen1
        go_wp2_with fail
        go_meet
        case rel => exact ⟨rfl, W, rs.drop 1, some ⟨g2, 0, none⟩, 0, hDt, by rw [HDN.out]; exact b6, by rw [HDN.out]; exact ⟨by simp, fun h => absurd rfl h⟩, (fun b off e => by injection e with e; injection e with e1 _; subst e1; exact hg1), l6⟩
      · have b6 := bP.set_ 3 (.slice (some ⟨g2, 2, none⟩) (rs.length - 1) (E - 1))
        have o6 := own_rdTail (od.setCell (p := ⟨P, 3, none⟩) (.inr (Nat.le_refl _)) (.slice (some ⟨g2, 2, none⟩) (rs.length - 1) (E - 1)))
        have l6 : Below (B + 1) w5 (w5.setCell ⟨P, 3, none⟩ (.slice (some ⟨g2, 2, none⟩) (rs.length - 1) (E - 1))) := (Below.refl _ _).setCell (by show B + 1 ≤ P; omega) _
        go_wp2_with fail
        go_meet
        case rel => exact ⟨rfl, W, rs.drop 1, some ⟨g2, 2, none⟩, E - 1, hDt, by rw [HDL.out]; exact b6, o6, (fun b off e => by injection e with e; injection e with e1 _; subst e1; exact hg1), l6⟩
    have h2b : (z == 2) = false := beq_eq_false_iff_ne.2 h2
    go_wp2_with fail
    go_meet
    case rel => exact ⟨rfl, W, rs, _, E, hD, bP, od.rd, (fun b off e => by injection e with e; injection e with e1 _; subst e1; exact hg1), Below.refl _ _ |>.mono (by omega)⟩
  case rest =>
    clear bP od z0 z1
    obtain ⟨rfl, X, ss, D, E, hX, bP, od, hfar, hbx⟩ := hcut
    obtain ⟨w6, rfl⟩ : ∃ v, v = wc := ⟨_, rfl⟩
    replace br := br.lo hbx (by omega)
    replace bq := bq.lo hbx (by omega)
    replace bB := bB.lo hbx (by omega)
    replace ow := ow.low hbx (by omega)
    have hbe6 : Below w.heap.size w w6 := hbel.trans (hbx.mono (by have := HR.out; omega))
    clear hbx hbel
    have hPz6 := bP.lt
    have k0 : ∀ w', Touch r (r + 1) w6 w' → w'.cell? ⟨P, 0, none⟩ = some (.int .i64 U) := fun _ h => keptT h (bP.at_ 0 rfl) (by omega)
    have k1 : ∀ w', Touch r (r + 1) w6 w' → w'.cell? ⟨P, 1, none⟩ = some (.int .i64 L) := fun _ h => keptT h (bP.at_ 1 rfl) (by omega)
    have k2 : ∀ w', Touch r (r + 1) w6 w' → w'.cell? ⟨P, 2, none⟩ = some (.int .i64 X) := fun _ h => keptT h (bP.at_ 2 rfl) (by omega)
    have k3 : ∀ w', Touch r (r + 1) w6 w' → w'.cell? ⟨P, 3, none⟩ = some (.slice D ss.length E) := fun _ h => keptT h (bP.at_ 3 rfl) (by omega)
    have m0 : ∀ w', Touch r (r + 1) w6 w' → w'.cell? ⟨B, 0, none⟩ = some (.int .i64 U) := fun _ h => keptT h (bB.at_ 0 rfl) (by omega)
    have m1 : ∀ w', Touch r (r + 1) w6 w' → w'.cell? ⟨B, 1, none⟩ = some (.int .i64 L) := fun _ h => keptT h (bB.at_ 1 rfl) (by omega)
    have m2 : ∀ w', Touch r (r + 1) w6 w' → w'.cell? ⟨B, 2, none⟩ = some (.int .i64 W) := fun _ h => keptT h (bB.at_ 2 rfl) (by omega)
    have m3 : ∀ w', Touch r (r + 1) w6 w' → w'.cell? ⟨B, 3, none⟩ = some (.slice A rs.length C) := fun _ h => keptT h (bB.at_ 3 rfl) (by omega)
    go_upto_region 11 with fail
    refine wp_region_marked (fun w' => Touch r (r + 1) w6 w') 3 (by kernel_rfl) ?_
    have hS : Touch r (r + 1) w6 w6.drew := ⟨rfl, rfl, rfl, Nat.le_refl _, fun _ _ _ => rfl⟩
    refine wpAnyM_take (i := 0) (v := ?_) rfl (by kernel_rfl) (by kernel_rfl) (by kernel_rfl) (by kernel_rfl) (by kernel_rfl) (fun _ _ _ h => h) hS (.inl ⟨by rfl, ?_⟩) ?_
    rotate_left 1
    · intro w' hS'; go_simp; try with_reducible rfl
    simp only [Act.put, List.setIfInBounds_toArray]
    refine wpAnyM_take (i := 1) (v := ?_) rfl (by kernel_rfl) (by kernel_rfl) (by kernel_rfl) (by kernel_rfl) (by kernel_rfl) (fun _ _ _ h => h) hS (.inl ⟨by rfl, ?_⟩) ?_
    rotate_left 1
    · intro w' hS'; go_simp; try with_reducible rfl
    simp only [Act.put]
    clear k0 k1 k2 k3 m0 m1 m2 m3
    have c0 := br.at_ 0 rfl
    have c1 := br.at_ 1 rfl
    have c2 := br.at_ 2 rfl
    have c3 := br.at_ 3 rfl
    have f0 := br.thaw 0
    have f1 := br.thaw 1
    have f2 := br.thaw 2
    have f3 := br.thaw 3
    refine wpAnyM_one (i := 2) (by kernel_rfl) rfl (by rfl) (fun K hK => ?_)
    go_simp
    obtain ⟨w7, hw7⟩ : ∃ v, v = World.drew ((((w6.setCell ⟨r, 0, none⟩ (.int .i64 U)).setCell ⟨r, 1, none⟩ (.int .i64 L)).setCell ⟨r, 2, none⟩ (.int .i64 W)).setCell ⟨r, 3, none⟩ (.slice A rs.length C)) := ⟨_, rfl⟩
    rw [← hw7]
    have t1 := (Touch.refl r (r + 1) w6).setCell (p := ⟨r, 0, none⟩) (Nat.le_refl _) (Nat.lt_succ_self _) (.int .i64 U)
    have t2 := t1.setCell (p := ⟨r, 1, none⟩) (Nat.le_refl _) (Nat.lt_succ_self _) (.int .i64 L)
    have t3 := t2.setCell (p := ⟨r, 2, none⟩) (Nat.le_refl _) (Nat.lt_succ_self _) (.int .i64 W)
    have t4 := t3.setCell (p := ⟨r, 3, none⟩) (Nat.le_refl _) (Nat.lt_succ_self _) (.slice A rs.length C)
    have tt : Touch r (r + 1) w6 w7 := by rw [hw7]; exact t4.drewN 1
    clear t1 t2 t3 t4
    have b41 := br.set_ 0 (.int .i64 U)
    have b42 := b41.set_ 1 (.int .i64 L)
    have b43 := b42.set_ 2 (.int .i64 W)
    have b44 := (b43.set_ 3 (.slice A rs.length C)).drew
    have br7 : Bx w7 r 56 #[.int .i64 U, .int .i64 L, .int .i64 W, .slice A rs.length C] := by rw [hw7]; exact b44
    clear b41 b42 b43 b44
    have hl7 := tt.size
    have bq7 := bq.touch tt (by omega)
    have ow7 := ow.touch tt (.inr (by omega))
    have od7 := rdF_touch od tt (fun b off e => .inr (by have := hfar b off e; omega))
    have hb7 := hbe6.trans (tt.below (by have := HR.out; omega) hbe6.size)
    clear hw7 c0 c1 c2 c3 f0 f1 f2 f3
    refine hK _ _ (.inr tt) ?_
    try simp only [Act.put, List.setIfInBounds_toArray]
    clear hK K
    have c0 := bq7.at_ 0 rfl
    have c1 := bq7.at_ 1 rfl
    have c2 := bq7.at_ 2 rfl
    have c3 := bq7.at_ 3 rfl
    have f0 := bq7.thaw 0
    have f1 := bq7.thaw 1
    have f2 := bq7.thaw 2
    have f3 := bq7.thaw 3
    have hql := bq7.lt
    refine wpAnyM_one (i := 3) (by kernel_rfl) rfl (by rfl) (fun K hK => ?_)
    go_simp
    refine hK _ _ (.inl rfl) ?_
    clear hK K
    refine wpAnyM_done (by kernel_rfl) ?_ _
    obtain ⟨w8, hw8⟩ : ∃ v, v = (((w7.setCell ⟨r + 1, 0, none⟩ (.int .i64 U)).setCell ⟨r + 1, 1, none⟩ (.int .i64 L)).setCell ⟨r + 1, 2, none⟩ (.int .i64 X)).setCell ⟨r + 1, 3, none⟩ (.slice D ss.length E) := ⟨_, rfl⟩
    rw [← hw8]
    have t1 := (Touch.refl (r + 1) (r + 1 + 1) w7).setCell (p := ⟨r + 1, 0, none⟩) (Nat.le_refl _) (Nat.lt_succ_self _) (.int .i64 U)
    have t2 := t1.setCell (p := ⟨r + 1, 1, none⟩) (Nat.le_refl _) (Nat.lt_succ_self _) (.int .i64 L)
    have t3 := t2.setCell (p := ⟨r + 1, 2, none⟩) (Nat.le_refl _) (Nat.lt_succ_self _) (.int .i64 X)
    have t8 : Touch (r + 1) (r + 1 + 1) w7 w8 := by rw [hw8]; exact t3.setCell (p := ⟨r + 1, 3, none⟩) (Nat.le_refl _) (Nat.lt_succ_self _) (.slice D ss.length E)
    clear t1 t2 t3
    have b41 := bq7.set_ 0 (.int .i64 U)
    have b42 := b41.set_ 1 (.int .i64 L)
    have b43 := b42.set_ 2 (.int .i64 X)
    have b44 := b43.set_ 3 (.slice D ss.length E)
    have bq8 : Bx w8 (r + 1) 56 #[.int .i64 U, .int .i64 L, .int .i64 X, .slice D ss.length E] := by rw [hw8]; exact b44
    clear b41 b42 b43 b44
    have br8 := br7.touch t8 (by omega)
    have ow8 := (ow7.touch t8 (.inr (by omega))).rd
    have od8 := rdF_touch od7 t8 (fun b off e => .inr (by have := hfar b off e; omega))
    have hb8 := hb7.trans (t8.below (by have := HR.out; omega) hb7.size)
    clear hw8 c0 c1 c2 c3 f0 f1 f2 f3
    have r0 := br8.at_ 0 rfl
    have r1 := br8.at_ 1 rfl
    have r2 := br8.at_ 2 rfl
    have r3 := br8.at_ 3 rfl
    have q0 := bq8.at_ 0 rfl
    have q1 := bq8.at_ 1 rfl
    have q2 := bq8.at_ 2 rfl
    have q3 := bq8.at_ 3 rfl
    go_wp2_with fail
    exact bodyPost_ret (v := .tuple #[.agg #[.int .i64 U, .int .i64 L, .int .i64 W, .slice A rs.length C], .agg #[.int .i64 U, .int .i64 L, .int .i64 X, .slice D ss.length E]]) (by simp [results, Try.results46, go_sem, r0, r1, r2, r3, q0, q1, q2, q3]) rfl
      ⟨U, L, W, X, rs, ss, A, D, C, E, rfl, hD, hX, ow8, od8, hb8⟩
end Go.Proofs.Ytgfpjcckkbhdjaa
