/-
  spec.ReplayEvents.
-/
import Derived.Test.YtgfpjcckkbhdjaaEvS
namespace Go.Proofs.Ytgfpjcckkbhdjaa
open Go.RowKit

theorem evRun_take {B : Int} {zs : List Int} {es : List Ev} {k : Nat} (hk : k < es.length) : evRun B zs (es.take (k + 1)) = evStep B (evRun B zs (es.take k)) (elt tripF es k) := by
  rw [takeE_succ (F := tripF) hk, evRun_snoc]
theorem evRun_zero (B : Int) (zs : List Int) (es : List Ev) : evRun B zs (es.take 0) = zs := rfl
theorem evRun_all (B : Int) (zs : List Int) (es : List Ev) : evRun B zs (es.take es.length) = evRun B zs es := by rw [List.take_of_length_le (Nat.le_refl _)]

/-- A list that is read lies below all that is made later. -/
theorem rdF_low {α : Type} {F : Flat α} {w : World} {a : Option Addr} {xs : List α} (h : RdF F w a xs) (hne : xs ≠ []) : ∀ b off, a = some ⟨b, off, none⟩ → b < w.heap.size := by
  intro b off e
  obtain ⟨b', off', e', hc⟩ := h.cells hne
  rw [e] at e'
  injection e' with e'
  injection e' with e1 e2
  subst e1 e2
  have hk : 0 < xs.length := by cases xs with | nil => exact absurd rfl hne | cons _ _ => simp
  have := hc 0 (elt F xs 0) (elt_some hk) 0 ((F.cells (elt F xs 0))[0]'(by rw [F.len]; exact F.pos)) (List.getElem?_eq_getElem _)
  have := World.block_lt_of_cell? _ _ this
  simpa using this
theorem rdF_keep {α : Type} {F : Flat α} {w w' : World} {a : Option Addr} {xs : List α} {L lo hi : Nat} (h : RdF F w a xs) (hf : xs ≠ [] → ∀ b off, a = some ⟨b, off, none⟩ → b < L) (hL : L ≤ lo) (ht : Touch lo hi w w') : RdF F w' a xs := by
  refine ⟨h.len, fun hne => ?_⟩
  obtain ⟨b, off, rfl, hc⟩ := h.cells hne
  have := hf hne b off rfl
  exact ⟨b, off, rfl, fun i x hx j v hv => keptT ht (hc i x hx j v hv) (.inl (by omega))⟩

set_option maxRecDepth 100000 in
set_option maxHeartbeats 8000000 in
theorem specRpe_ok (B : Int) (A : Option Addr) (C : Nat) (zs : List Int) (L : Option Addr) (E : Nat) (es : List Ev) (w : World) (ha : Rd w A zs) (hes : RdF tripF w L es) (hok : okB B zs = true) :
    Calls Try.prog 94 #[.agg #[.int .i64 B, .slice A zs.length C], .slice L es.length E] w (RegC (rpeR B zs es) w) := by
  obtain ⟨o1, o2, o3, o4, o5, o6⟩ := okB_spec hok
  have HD : Hid (Dgs B zs) := Lib.hid o5
  have HOK := Lib.hid hok
  have hlen := hes.len
  have HFAR := Lib.hid (fun (hne : es ≠ []) => rdF_low hes hne)
  obtain ⟨r, hr⟩ : ∃ r, r = w.heap.size := ⟨_, rfl⟩
  obtain ⟨u, hu⟩ : ∃ u, u = (w.alloc (.cells #[.int .i64 B, .slice A zs.length C] 26)).alloc (.cells #[.int .i64 0, .slice none 0 0] 26) := ⟨_, rfl⟩
  have b0 : Bx u r 26 #[.int .i64 B, .slice A zs.length C] := by rw [hu, hr]; exact (Bx.new _ _ _).alloc _
  have b1 : Bx u (r + 1) 26 #[.int .i64 0, .slice none 0 0] := by rw [hu, hr]; simpa using Bx.new (w.alloc (.cells #[.int .i64 B, .slice A zs.length C] 26)) #[.int .i64 0, .slice none 0 0] 26
  have hbel : Below w.heap.size w u := by rw [hu]; exact (by repeat (first | exact Below.refl _ _ | refine Below.setCell ?_ (by first | omega | (simp <;> omega)) _ | refine Below.alloc ?_ (by first | omega | (simp <;> omega)) _ | refine Below.drew ?_))
  have hlr := b1.lt
  replace ha := ha.below hbel
  replace hes := hes.below hbel
  rw [← hr] at hbel
  have HC := Lib.hid (fun v (h : Rd v A zs) h0 h1 => l02Ok_any r B A C zs v h h0 h1)
  rw [hok] at HC
  have HW := Lib.hid (fun v (h : Rd v A zs) h0 h1 => l02Own_any r B A C zs v h (by omega) h0 h1)
  have HU := Lib.hid hu
  have HR := Lib.hid hr
  clear hu hr hok o5 o6
  have c0 := b0.at_ 0 rfl
  have c1 := b0.at_ 1 rfl
  go_enter Try.func94, Try.ntmps94
  go_upto_region 1 with fail
  rw [← HU.out, ← HR.out]
  go_wp2_with fail
  refine (HC.out u ha c0 c1).mono ?_
  rintro e w1 ⟨rfl, m, hm⟩
  have hb : Below u.heap.size u w1 := by rw [hm]; exact bel_drewN (Below.refl _ _) m
  replace b0 := b0.below hb
  replace b1 := b1.below hb
  replace ha := ha.below hb
  replace hes := hes.below hb
  replace hbel := hbel.trans (hb.mono (by omega))
  have hs1 := hb.size
  clear hm hb c0 c1 HU HC
  have c0 := b0.at_ 0 rfl
  have c1 := b0.at_ 1 rfl
  go_wp2_with fail
  refine (HW.out w1 ha c0 c1).mono ?_
  rintro e w2 ⟨D, F, rfl, ow, hb⟩
  obtain ⟨g, rfl, g0, g1, g2⟩ := ow.head (by omega)
  have hs2 := hb.size
  replace b0 := b0.below hb
  replace b1 := b1.below hb
  replace hes := hes.below hb
  replace hbel := hbel.trans (hb.mono (by omega))
  clear hb c0 c1 HW ha
  go_upto_region 4 with fail
  obtain ⟨P, hP⟩ : ∃ P, P = w2.heap.size := ⟨_, rfl⟩
  obtain ⟨V, hV⟩ : ∃ V, V = w2.alloc (.cells #[.int .i64 B, .slice (some ⟨g, 0, none⟩) zs.length F] 26) := ⟨_, rfl⟩
  have b6 : Bx V P 26 #[.int .i64 B, .slice (some ⟨g, 0, none⟩) zs.length F] := by rw [hV, hP]; exact Bx.new _ _ _
  have hb : Below w2.heap.size w2 V := by rw [hV]; exact (Below.refl _ _).alloc (Nat.le_refl _) _
  rw [← hV, ← hP]
  replace b0 := b0.below hb
  replace b1 := b1.below hb
  replace hes := hes.below hb
  replace ow := ow.below hb
  replace hbel := hbel.trans (hb.mono (by omega))
  rw [← hP] at ow g1 g2 hs2
  have hlP := b6.lt
  obtain ⟨lo, hlo⟩ : ∃ lo, lo = w1.heap.size := ⟨_, rfl⟩
  rw [← hlo] at ow g0 hs2
  have hlo1 : r + 1 < lo := by omega
  clear hb hV hP hlo
  go_wp2_with fail
  go_loopw [7] (fun i wr => ∃ k : Nat, k ≤ es.length ∧ i = .int .i64 k ∧ Hid (∀ j, j < k → evOk B zs.length (elt tripF es j) = true) ∧ Bx wr r 26 #[.int .i64 B, .slice A zs.length C] ∧ Bx wr (r + 1) 26 #[.int .i64 0, .slice none 0 0] ∧
      Bx wr P 26 #[.int .i64 B, .slice (some ⟨g, 0, none⟩) zs.length F] ∧ Own 2 wr lo P (.slice (some ⟨g, 0, none⟩) zs.length F) (evRun B zs (es.take k)) ∧ RdF tripF wr L es ∧ Below r w wr) (fun i _ => es.length - (intOf i).toNat)
  case atStart => exact ⟨0, Nat.zero_le _, rfl, Lib.hid (fun j h => absurd h (Nat.not_lt_zero _)), b0, b1, b6, ow, hes, hbel⟩
  case round =>
    clear b0 b1 b6 ow hes hbel hlP
    obtain ⟨k, hk, rfl, HA, b0, b1, b6, ow, hes, hbel⟩ := hrel
    have hlP := b6.lt
    by_cases hlt : k < es.length
    · obtain ⟨bb, off, rfl, e0, e1, e2⟩ := hes.at3 hlt
      have HT := Lib.hid (evRun_take (B := B) (zs := zs) hlt)
      obtain ⟨⟨ki, hh, ss⟩, hx⟩ : ∃ x, x = elt tripF es k := ⟨_, rfl⟩
      rw [← hx] at e0 e1 e2 HT
      simp only at e0 e1 e2
      have HX := Lib.hid hx
      clear hx
      go_upto_region 8 with fail
      obtain ⟨Q, hQ⟩ : ∃ Q, Q = wr.heap.size := ⟨_, rfl⟩
      obtain ⟨X, hX⟩ : ∃ X, X = wr.alloc (.cells #[.int .i64 ki, .int .i64 hh, .int .i64 ss] 41) := ⟨_, rfl⟩
      have b8 : Bx X Q 41 #[.int .i64 ki, .int .i64 hh, .int .i64 ss] := by rw [hX, hQ]; exact Bx.new _ _ _
      have hb : Below wr.heap.size wr X := by rw [hX]; exact (Below.refl _ _).alloc (Nat.le_refl _) _
      rw [← hX, ← hQ]
      replace b0 := b0.below hb
      replace b1 := b1.below hb
      replace b6 := b6.below hb
      replace hes := hes.below hb
      replace ow := ow.below hb
      replace hbel := hbel.trans (hb.mono (by omega))
      rw [← hQ] at hlP
      have hlQ := b8.lt
      clear hb hX hQ e0 e1 e2
      have q0 := b8.at_ 0 rfl
      have q1 := b8.at_ 1 rfl
      have q2 := b8.at_ 2 rfl
      have HE := Lib.hid (l06Event_any r B A zs.length C ki hh ss X ⟨o1, o2⟩ o4 (b0.at_ 0 rfl) (b0.at_ 1 rfl))
      go_wp2_with fail
      refine HE.out.mono ?_
      rintro e w5 ⟨rfl, hb⟩
      have hs5 := hb.size
      replace b0 := b0.below hb
      replace b1 := b1.below hb
      replace b6 := b6.below hb
      replace b8 := b8.below hb
      replace hes := hes.below hb
      replace ow := ow.below hb
      replace hbel := hbel.trans (hb.mono (by omega))
      have hlQ := b8.lt
      clear hb HE q0 q1 q2 hs5
      cases hev : evOk B zs.length (ki, hh, ss) with
      | false =>
        have HN := Lib.hid (rpe_range HOK.out (evAll_not hlt (by rw [← HX.out]; exact hev)))
        clear hev
        have r0 := b1.at_ 0 rfl
        have r1 := b1.at_ 1 rfl
        have f0 := b1.thaw 0
        have f1 := b1.thaw 1
        go_wp2
        exact bodyPost_ret (v := .tuple #[.agg #[.int .i64 0, .slice none 0 0], .int .i64 2]) (by simp [results, Try.results94, go_sem, r0, r1]) rfl
          (regC_err HN.out rfl (by rw [← HR.out]; exact (by repeat (first | exact hbel | refine Below.setCell ?_ (by first | omega | (simp <;> omega)) _ | refine Below.alloc ?_ (by first | omega | (simp <;> omega)) _ | refine Below.drew ?_))))
      | true =>
        obtain ⟨⟨k1, k2⟩, ⟨h1, h2⟩, s1, s2⟩ := evOk_true hev
        simp only at k1 k2 h1 h2 s1 s2
        have HA2 : Hid (∀ j, j < k + 1 → evOk B zs.length (elt tripF es j) = true) := Lib.hid fun j hj => by
          rcases Nat.lt_or_ge j k with h | h
          · exact HA.out j h
          · obtain rfl : j = k := by omega
            rw [← HX.out]; exact hev
        clear hev HA
        obtain ⟨cur, hcur⟩ : ∃ cur, cur = evRun B zs (es.take k) := ⟨_, rfl⟩
        have hcl : cur.length = zs.length := by rw [hcur, evRun_len]
        have hcd : Dgs B cur := by rw [hcur]; exact evRun_dgs (by omega) HD.out
        rw [← hcur] at ow HT
        have HCL := Lib.hid hcl
        clear hcur
        obtain ⟨n, rfl⟩ : ∃ n : Nat, hh = n := ⟨hh.toNat, by omega⟩
        have hn : n < zs.length := by omega
        have d0 := b8.at_ 0 rfl
        have d1 := b8.at_ 1 rfl
        have d2 := b8.at_ 2 rfl
        have d3 := b6.at_ 1 rfl
        have hbk := ow.block
        have HES := Lib.hid (fun w' (ht : Touch lo P w5 w') => rdF_keep hes HFAR.out (by have := HR.out; omega) ht)
        have hz0 : ¬ B = 0 := by omega
        have kk1 : (3 : Int) ≠ 1 := by omega
        by_cases hk1 : ki = 1
        · subst hk1
          have hcell := ow.get (j := n) (by rw [hcl]; exact hn)
          have hcb := hcd (nth cur n) (by rw [nth_get (by rw [hcl]; exact hn)]; exact List.getElem_mem _)
          have v1 : IntKind.i64.wrap (nth cur n + ss) = nth cur n + ss := fits_int _ (by omega) (by omega)
          have v2 : (nth cur n + ss).tmod B = (nth cur n + ss) % B := Int.tmod_eq_emod_of_nonneg (by omega)
          clear hcl
          go_upto_region 11 with fail
          have y0 : ∀ w', Below w5.heap.size w5 w' → w'.cell? ⟨P, 1, none⟩ = some (.slice (some ⟨g, 0, none⟩) zs.length F) := kept_all (b6.at_ 1 rfl)
          have y1 : ∀ w', Below w5.heap.size w5 w' → w'.cell? ⟨Q, 1, none⟩ = some (.int .i64 n) := kept_all (b8.at_ 1 rfl)
          have y2 : ∀ w', Below w5.heap.size w5 w' → w'.cell? ⟨Q, 2, none⟩ = some (.int .i64 ss) := kept_all (b8.at_ 2 rfl)
          have y3 : ∀ w', Below w5.heap.size w5 w' → w'.cell? ⟨r, 0, none⟩ = some (.int .i64 B) := kept_all (b0.at_ 0 rfl)
          have y4 : ∀ w', Below w5.heap.size w5 w' → w'.cell? ⟨g, n, none⟩ = some (.int .i64 (nth cur (n))) := kept_all hcell
          have HCE := Lib.hid hcell
          clear d0 d1 d2 d3 hcell
          refine wp_region_marked (fun w' => Below w5.heap.size w5 w') 17 (by kernel_rfl) ?_
          have hS : Below w5.heap.size w5 w5.drew := (Below.refl _ _).drew
          refine wpAnyM_take (i := 0) (v := ?_) rfl (by kernel_rfl) (by kernel_rfl) (by kernel_rfl) (by kernel_rfl) (by kernel_rfl) (fun _ _ _ h => h) hS (.inl ⟨by rfl, ?_⟩) ?_
          rotate_left 1
          · intro w' hS'; go_simp; try with_reducible rfl
          simp only [Act.put, List.setIfInBounds_toArray]
          refine wpAnyM_take (i := 1) (v := ?_) rfl (by kernel_rfl) (by kernel_rfl) (by kernel_rfl) (by kernel_rfl) (by kernel_rfl) (fun _ _ _ h => h) hS (.inl ⟨by rfl, ?_⟩) ?_
          rotate_left 1
          · intro w' hS'; go_simp; try with_reducible rfl
          simp only [Act.put]
          refine wpAnyM_take (i := 2) (v := ?_) rfl (by kernel_rfl) (by kernel_rfl) (by kernel_rfl) (by kernel_rfl) (by kernel_rfl) (fun _ _ _ h => h) hS (.inl ⟨by rfl, ?_⟩) ?_
          rotate_left 1
          · intro w' hS'; go_simp; try with_reducible rfl
          simp only [Act.put]
          refine wpAnyM_take (i := 3) (v := ?_) rfl (by kernel_rfl) (by kernel_rfl) (by kernel_rfl) (by kernel_rfl) (by kernel_rfl) (fun _ _ _ h => h) hS (.inl ⟨by rfl, ?_⟩) ?_
          rotate_left 1
          · intro w' hS'; go_simp; try with_reducible rfl
          simp only [Act.put]
          refine wpAnyM_take (i := 4) (v := ?_) rfl (by kernel_rfl) (by kernel_rfl) (by kernel_rfl) (by kernel_rfl) (by kernel_rfl) (fun _ _ _ h => h) hS (.inl ⟨by rfl, ?_⟩) ?_
          rotate_left 1
          · intro w' hS'; go_simp; try with_reducible rfl
          simp only [Act.put]
          refine wpAnyM_take (i := 5) (v := ?_) rfl (by kernel_rfl) (by kernel_rfl) (by kernel_rfl) (by kernel_rfl) (by kernel_rfl) (fun _ _ _ h => h) hS (.inl ⟨by rfl, ?_⟩) ?_
          rotate_left 1
          · intro w' hS'; go_simp; try with_reducible rfl
          simp only [Act.put]
          refine wpAnyM_take (i := 6) (v := ?_) rfl (by kernel_rfl) (by kernel_rfl) (by kernel_rfl) (by kernel_rfl) (by kernel_rfl) (fun _ _ _ h => h) hS (.inl ⟨by rfl, ?_⟩) ?_
          rotate_left 1
          · intro w' hS'; go_simp; try with_reducible rfl
          simp only [Act.put]
          refine wpAnyM_take (i := 7) (v := ?_) rfl (by kernel_rfl) (by kernel_rfl) (by kernel_rfl) (by kernel_rfl) (by kernel_rfl) (fun _ _ _ h => h) hS (.inl ⟨by rfl, ?_⟩) ?_
          rotate_left 1
          · intro w' hS'; go_simp; try with_reducible rfl
          simp only [Act.put]
          refine wpAnyM_take (i := 8) (v := ?_) rfl (by kernel_rfl) (by kernel_rfl) (by kernel_rfl) (by kernel_rfl) (by kernel_rfl) (fun _ _ _ h => h) hS (.inl ⟨by rfl, ?_⟩) ?_
          rotate_left 1
          · intro w' hS'; go_simp; try with_reducible rfl
          simp only [Act.put]
          refine wpAnyM_take (i := 9) (v := ?_) rfl (by kernel_rfl) (by kernel_rfl) (by kernel_rfl) (by kernel_rfl) (by kernel_rfl) (fun _ _ _ h => h) hS (.inl ⟨by rfl, ?_⟩) ?_
          rotate_left 1
          · intro w' hS'; go_simp; try with_reducible rfl
          simp only [Act.put]
          refine wpAnyM_take (i := 10) (v := ?_) rfl (by kernel_rfl) (by kernel_rfl) (by kernel_rfl) (by kernel_rfl) (by kernel_rfl) (fun _ _ _ h => h) hS (.inl ⟨by rfl, ?_⟩) ?_
          rotate_left 1
          · intro w' hS'; go_simp; try with_reducible rfl
          simp only [Act.put]
          refine wpAnyM_take (i := 11) (v := ?_) rfl (by kernel_rfl) (by kernel_rfl) (by kernel_rfl) (by kernel_rfl) (by kernel_rfl) (fun _ _ _ h => h) hS (.inl ⟨by rfl, ?_⟩) ?_
          rotate_left 1
          · intro w' hS'; go_simp; try with_reducible rfl
          simp only [Act.put]
          refine wpAnyM_take (i := 12) (v := ?_) rfl (by kernel_rfl) (by kernel_rfl) (by kernel_rfl) (by kernel_rfl) (by kernel_rfl) (fun _ _ _ h => h) hS (.inl ⟨by rfl, ?_⟩) ?_
          rotate_left 1
          · intro w' hS'; go_simp; try with_reducible rfl
          simp only [Act.put]
          refine wpAnyM_take (i := 13) (v := ?_) rfl (by kernel_rfl) (by kernel_rfl) (by kernel_rfl) (by kernel_rfl) (by kernel_rfl) (fun _ _ _ h => h) hS (.inl ⟨by rfl, ?_⟩) ?_
          rotate_left 1
          · intro w' hS'; go_simp; try with_reducible rfl
          simp only [Act.put]
          refine wpAnyM_take (i := 14) (v := ?_) rfl (by kernel_rfl) (by kernel_rfl) (by kernel_rfl) (by kernel_rfl) (by kernel_rfl) (fun _ _ _ h => h) hS (.inl ⟨by rfl, ?_⟩) ?_
          rotate_left 1
          · intro w' hS'; go_simp; try with_reducible rfl
          simp only [Act.put]
          refine wpAnyM_take (i := 15) (v := ?_) rfl (by kernel_rfl) (by kernel_rfl) (by kernel_rfl) (by kernel_rfl) (by kernel_rfl) (fun _ _ _ h => h) hS (.inl ⟨by rfl, ?_⟩) ?_
          rotate_left 1
          · intro w' hS'; go_simp; try with_reducible rfl
          simp only [Act.put]
          clear y0 y1 y2 y3 y4
          refine wpAnyM_one (i := 16) (by kernel_rfl) rfl (by rfl) (fun K hK => ?_)
          go_simp
          refine hK _ _ (.inr hS) ?_
          try simp only [Act.put, List.setIfInBounds_toArray]
          clear hK K
          have hth := ow.thaw (n)
          have ow6 := (ow.put (n) ((nth cur (n) + ss) % B)).drew
          have hcell := HCE.out
          refine wpAnyM_one (i := 17) (by kernel_rfl) rfl (by rfl) (fun K hK => ?_)
          go_simp
          obtain ⟨w8, hw8⟩ : ∃ v, v = (w5.setCell ⟨g, n, none⟩ (.int .i64 ((nth cur (n) + ss) % B))).drew := ⟨_, rfl⟩
          rw [← hw8] at ow6 ⊢
          have t9 : Touch lo P w5 w8 := by rw [hw8]; exact ((Touch.refl _ _ _).setCell (p := ⟨g, n, none⟩) hbk.1 hbk.2.1 _).drewN 1
          have hs9 := t9.size
          replace b0 := b0.touch t9 (by omega)
          replace b1 := b1.touch t9 (by omega)
          replace b6 := b6.touch t9 (by omega)
          replace hbel := hbel.trans (t9.below (by omega) (by omega))
          have hes9 := HES.out w8 t9
          have HST := Lib.hid (show cur.set (n) ((nth cur (n) + ss) % B) = evStep B cur (1, (n : Int), ss) by rw [evStep, if_pos rfl, addAt, if_pos (by show (n : Int).toNat < _; rw [Int.toNat_natCast, HCL.out]; exact hn)]; rw [Int.toNat_natCast])
          rw [HST.out, ← HT.out] at ow6
          clear hw8 hth hcell HCE
          refine hK _ _ (.inl rfl) ?_
          try simp only [Act.put, List.setIfInBounds_toArray]
          clear hK K
          refine wpAnyM_done (by kernel_rfl) ?_ _
          go_wp2
          go_roundw
          case rel => exact ⟨k + 1, by omega, by go_num, HA2, b0, b1, b6, ow6, hes9, hbel⟩
          case measure => (simp [intOf]) <;> omega
        · have hk1b : (ki == 1) = false := beq_eq_false_iff_ne.2 hk1
          by_cases hk3 : ki = 3
          · subst hk3
            have v0 : IntKind.i64.wrap ((n : Int) + 1) = (n : Int) + 1 := fits_int _ (by omega) (by omega)
            by_cases hn1 : n + 1 < zs.length
            · have hz1 : (0 : Int) ≤ (n : Int) + 1 := by omega
              have hz2 : (n : Int) + 1 < (zs.length : Int) := by omega
              have hcell := ow.get (j := n + 1) (by rw [hcl]; exact hn1)
              have hcb := hcd (nth cur (n + 1)) (by rw [nth_get (by rw [hcl]; exact hn1)]; exact List.getElem_mem _)
              have v1 : IntKind.i64.wrap (nth cur (n + 1) + 1) = nth cur (n + 1) + 1 := fits_int _ (by omega) (by omega)
              have v2 : (nth cur (n + 1) + 1).tmod B = (nth cur (n + 1) + 1) % B := Int.tmod_eq_emod_of_nonneg (by omega)
              clear hcl
              go_upto_region 13 with fail
              have y0 : ∀ w', Below w5.heap.size w5 w' → w'.cell? ⟨P, 1, none⟩ = some (.slice (some ⟨g, 0, none⟩) zs.length F) := kept_all (b6.at_ 1 rfl)
              have y1 : ∀ w', Below w5.heap.size w5 w' → w'.cell? ⟨Q, 1, none⟩ = some (.int .i64 n) := kept_all (b8.at_ 1 rfl)
              have y2 : ∀ w', Below w5.heap.size w5 w' → w'.cell? ⟨Q, 2, none⟩ = some (.int .i64 ss) := kept_all (b8.at_ 2 rfl)
              have y3 : ∀ w', Below w5.heap.size w5 w' → w'.cell? ⟨r, 0, none⟩ = some (.int .i64 B) := kept_all (b0.at_ 0 rfl)
              have y4 : ∀ w', Below w5.heap.size w5 w' → w'.cell? ⟨g, n + 1, none⟩ = some (.int .i64 (nth cur (n + 1))) := kept_all hcell
              have HCE := Lib.hid hcell
              clear d0 d1 d2 d3 hcell
              refine wp_region_marked (fun w' => Below w5.heap.size w5 w') 17 (by kernel_rfl) ?_
              have hS : Below w5.heap.size w5 w5.drew := (Below.refl _ _).drew
              refine wpAnyM_take (i := 0) (v := ?_) rfl (by kernel_rfl) (by kernel_rfl) (by kernel_rfl) (by kernel_rfl) (by kernel_rfl) (fun _ _ _ h => h) hS (.inl ⟨by rfl, ?_⟩) ?_
              rotate_left 1
              · intro w' hS'; go_simp; try with_reducible rfl
              simp only [Act.put, List.setIfInBounds_toArray]
              refine wpAnyM_take (i := 1) (v := ?_) rfl (by kernel_rfl) (by kernel_rfl) (by kernel_rfl) (by kernel_rfl) (by kernel_rfl) (fun _ _ _ h => h) hS (.inl ⟨by rfl, ?_⟩) ?_
              rotate_left 1
              · intro w' hS'; go_simp; try with_reducible rfl
              simp only [Act.put]
              refine wpAnyM_take (i := 2) (v := ?_) rfl (by kernel_rfl) (by kernel_rfl) (by kernel_rfl) (by kernel_rfl) (by kernel_rfl) (fun _ _ _ h => h) hS (.inl ⟨by rfl, ?_⟩) ?_
              rotate_left 1
              · intro w' hS'; go_simp; try with_reducible rfl
              simp only [Act.put]
              refine wpAnyM_take (i := 3) (v := ?_) rfl (by kernel_rfl) (by kernel_rfl) (by kernel_rfl) (by kernel_rfl) (by kernel_rfl) (fun _ _ _ h => h) hS (.inl ⟨by rfl, ?_⟩) ?_
              rotate_left 1
              · intro w' hS'; go_simp; try with_reducible rfl
              simp only [Act.put]
              refine wpAnyM_take (i := 4) (v := ?_) rfl (by kernel_rfl) (by kernel_rfl) (by kernel_rfl) (by kernel_rfl) (by kernel_rfl) (fun _ _ _ h => h) hS (.inl ⟨by rfl, ?_⟩) ?_
              rotate_left 1
              · intro w' hS'; go_simp; try with_reducible rfl
              simp only [Act.put]
              refine wpAnyM_take (i := 5) (v := ?_) rfl (by kernel_rfl) (by kernel_rfl) (by kernel_rfl) (by kernel_rfl) (by kernel_rfl) (fun _ _ _ h => h) hS (.inl ⟨by rfl, ?_⟩) ?_
              rotate_left 1
              · intro w' hS'; go_simp; try with_reducible rfl
              simp only [Act.put]
              refine wpAnyM_take (i := 6) (v := ?_) rfl (by kernel_rfl) (by kernel_rfl) (by kernel_rfl) (by kernel_rfl) (by kernel_rfl) (fun _ _ _ h => h) hS (.inl ⟨by rfl, ?_⟩) ?_
              rotate_left 1
              · intro w' hS'; go_simp; try with_reducible rfl
              simp only [Act.put]
              refine wpAnyM_take (i := 7) (v := ?_) rfl (by kernel_rfl) (by kernel_rfl) (by kernel_rfl) (by kernel_rfl) (by kernel_rfl) (fun _ _ _ h => h) hS (.inl ⟨by rfl, ?_⟩) ?_
              rotate_left 1
              · intro w' hS'; go_simp; try with_reducible rfl
              simp only [Act.put]
              refine wpAnyM_take (i := 8) (v := ?_) rfl (by kernel_rfl) (by kernel_rfl) (by kernel_rfl) (by kernel_rfl) (by kernel_rfl) (fun _ _ _ h => h) hS (.inl ⟨by rfl, ?_⟩) ?_
              rotate_left 1
              · intro w' hS'; go_simp; try with_reducible rfl
              simp only [Act.put]
              refine wpAnyM_take (i := 9) (v := ?_) rfl (by kernel_rfl) (by kernel_rfl) (by kernel_rfl) (by kernel_rfl) (by kernel_rfl) (fun _ _ _ h => h) hS (.inl ⟨by rfl, ?_⟩) ?_
              rotate_left 1
              · intro w' hS'; go_simp; try with_reducible rfl
              simp only [Act.put]
              refine wpAnyM_take (i := 10) (v := ?_) rfl (by kernel_rfl) (by kernel_rfl) (by kernel_rfl) (by kernel_rfl) (by kernel_rfl) (fun _ _ _ h => h) hS (.inl ⟨by rfl, ?_⟩) ?_
              rotate_left 1
              · intro w' hS'; go_simp; try with_reducible rfl
              simp only [Act.put]
              refine wpAnyM_take (i := 11) (v := ?_) rfl (by kernel_rfl) (by kernel_rfl) (by kernel_rfl) (by kernel_rfl) (by kernel_rfl) (fun _ _ _ h => h) hS (.inl ⟨by rfl, ?_⟩) ?_
              rotate_left 1
              · intro w' hS'; go_simp; try with_reducible rfl
              simp only [Act.put]
              refine wpAnyM_take (i := 12) (v := ?_) rfl (by kernel_rfl) (by kernel_rfl) (by kernel_rfl) (by kernel_rfl) (by kernel_rfl) (fun _ _ _ h => h) hS (.inl ⟨by rfl, ?_⟩) ?_
              rotate_left 1
              · intro w' hS'; go_simp; try with_reducible rfl
              simp only [Act.put]
              refine wpAnyM_take (i := 13) (v := ?_) rfl (by kernel_rfl) (by kernel_rfl) (by kernel_rfl) (by kernel_rfl) (by kernel_rfl) (fun _ _ _ h => h) hS (.inl ⟨by rfl, ?_⟩) ?_
              rotate_left 1
              · intro w' hS'; go_simp; try with_reducible rfl
              simp only [Act.put]
              refine wpAnyM_take (i := 14) (v := ?_) rfl (by kernel_rfl) (by kernel_rfl) (by kernel_rfl) (by kernel_rfl) (by kernel_rfl) (fun _ _ _ h => h) hS (.inl ⟨by rfl, ?_⟩) ?_
              rotate_left 1
              · intro w' hS'; go_simp; try with_reducible rfl
              simp only [Act.put]
              refine wpAnyM_take (i := 15) (v := ?_) rfl (by kernel_rfl) (by kernel_rfl) (by kernel_rfl) (by kernel_rfl) (by kernel_rfl) (fun _ _ _ h => h) hS (.inl ⟨by rfl, ?_⟩) ?_
              rotate_left 1
              · intro w' hS'; go_simp; try with_reducible rfl
              simp only [Act.put]
              clear y0 y1 y2 y3 y4
              refine wpAnyM_one (i := 16) (by kernel_rfl) rfl (by rfl) (fun K hK => ?_)
              go_simp
              refine hK _ _ (.inr hS) ?_
              try simp only [Act.put, List.setIfInBounds_toArray]
              clear hK K
              have hth := ow.thaw (n + 1)
              have ow6 := (ow.put (n + 1) ((nth cur (n + 1) + 1) % B)).drew
              have hcell := HCE.out
              refine wpAnyM_one (i := 17) (by kernel_rfl) rfl (by rfl) (fun K hK => ?_)
              go_simp
              obtain ⟨w8, hw8⟩ : ∃ v, v = (w5.setCell ⟨g, n + 1, none⟩ (.int .i64 ((nth cur (n + 1) + 1) % B))).drew := ⟨_, rfl⟩
              rw [← hw8] at ow6 ⊢
              have t9 : Touch lo P w5 w8 := by rw [hw8]; exact ((Touch.refl _ _ _).setCell (p := ⟨g, n + 1, none⟩) hbk.1 hbk.2.1 _).drewN 1
              have hs9 := t9.size
              replace b0 := b0.touch t9 (by omega)
              replace b1 := b1.touch t9 (by omega)
              replace b6 := b6.touch t9 (by omega)
              replace hbel := hbel.trans (t9.below (by omega) (by omega))
              have hes9 := HES.out w8 t9
              have HST := Lib.hid (show cur.set (n + 1) ((nth cur (n + 1) + 1) % B) = evStep B cur (3, (n : Int), ss) by rw [evStep, if_neg (by simp), if_pos rfl, addAt, if_pos (by show (n : Int).toNat + 1 < _; rw [Int.toNat_natCast, HCL.out]; exact hn1)]; rw [Int.toNat_natCast])
              rw [HST.out, ← HT.out] at ow6
              clear hw8 hth hcell HCE
              refine hK _ _ (.inl rfl) ?_
              try simp only [Act.put, List.setIfInBounds_toArray]
              clear hK K
              refine wpAnyM_done (by kernel_rfl) ?_ _
              go_wp2
              go_roundw
              case rel => exact ⟨k + 1, by omega, by go_num, HA2, b0, b1, b6, ow6, hes9, hbel⟩
              case measure => (simp [intOf]) <;> omega
            · have hz1 : ¬ ((n : Int) + 1 < (zs.length : Int)) := by omega
              have HST := Lib.hid (show evStep B cur (3, (n : Int), ss) = cur by rw [evStep, if_neg (by simp), if_pos rfl, addAt, if_neg (by show ¬ (n : Int).toNat + 1 < _; rw [Int.toNat_natCast, HCL.out]; exact hn1)])
              rw [← HST.out, ← HT.out] at ow
              clear hcl
              go_wp2
              go_roundw
              case rel => exact ⟨k + 1, by omega, by go_num, HA2, b0, b1, b6, ow, hes, (by repeat (first | exact hbel | refine Below.setCell ?_ (by first | omega | (simp <;> omega)) _ | refine Below.alloc ?_ (by first | omega | (simp <;> omega)) _ | refine Below.drew ?_))⟩
              case measure => (simp [intOf]) <;> omega
          · have hk3b : (ki == 3) = false := beq_eq_false_iff_ne.2 hk3
            have HST := Lib.hid (show evStep B cur (ki, (n : Int), ss) = cur by rw [evStep, if_neg hk1, if_neg hk3])
            rw [← HST.out, ← HT.out] at ow
            clear hcl
            go_wp2
            go_roundw
            case rel => exact ⟨k + 1, by omega, by go_num, HA2, b0, b1, b6, ow, hes, (by repeat (first | exact hbel | refine Below.setCell ?_ (by first | omega | (simp <;> omega)) _ | refine Below.alloc ?_ (by first | omega | (simp <;> omega)) _ | refine Below.drew ?_))⟩
            case measure => (simp [intOf]) <;> omega
    · obtain rfl : k = es.length := by omega
      have HALL := Lib.hid (evAll_to HA.out)
      rw [evRun_all] at ow
      have HCL := Lib.hid (evRun_len (B := B) (zs := zs) (es := es))
      obtain ⟨cur, hcur⟩ : ∃ cur, cur = evRun B zs es := ⟨_, rfl⟩
      rw [← hcur] at ow HCL
      have hrd := ow.rd
      have d1 := b6.at_ 1 rfl
      have HF := Lib.hid (l06Full_any P B (some ⟨g, 0, none⟩) F cur wr hrd (b6.at_ 0 rfl) (by rw [HCL.out]; exact d1))
      have HRP := Lib.hid (show rpeR B zs es = finR B cur by rw [hcur]; exact rpe_ok HOK.out HALL.out)
      clear hcur hrd d1 hes
      cases hok : okB B cur with
      | false =>
        rw [hok] at HF
        have HN := Lib.hid (show rpeR B zs es = (0, [], 5) by rw [HRP.out, finR, hok]; rfl)
        clear hok HRP
        go_wp2_with fail
        refine HF.out.mono ?_
        rintro e w5 ⟨rfl, m, hm⟩
        have hb : Below wr.heap.size wr w5 := by rw [hm]; exact bel_drewN (Below.refl _ _) m
        replace b1 := b1.below hb
        replace hbel := hbel.trans (hb.mono (by omega))
        have hl1 := b1.lt
        clear hb hm HF
        have r0 := b1.at_ 0 rfl
        have r1 := b1.at_ 1 rfl
        have f0 := b1.thaw 0
        have f1 := b1.thaw 1
        go_wp2
        exact bodyPost_ret (v := .tuple #[.agg #[.int .i64 0, .slice none 0 0], .int .i64 5]) (by simp [results, Try.results94, go_sem, r0, r1]) rfl
          (regC_err HN.out rfl (by rw [← HR.out]; exact (by repeat (first | exact hbel | refine Below.setCell ?_ (by first | omega | (simp <;> omega)) _ | refine Below.alloc ?_ (by first | omega | (simp <;> omega)) _ | refine Below.drew ?_))))
      | true =>
        rw [hok] at HF
        have HN := Lib.hid (show rpeR B zs es = (B, cur, 0) by rw [HRP.out, finR, if_pos hok])
        clear hok HRP
        go_wp2_with fail
        refine HF.out.mono ?_
        rintro e w5 ⟨rfl, m, hm⟩
        have hb : Below wr.heap.size wr w5 := by rw [hm]; exact bel_drewN (Below.refl _ _) m
        replace b1 := b1.below hb
        replace b6 := b6.below hb
        replace ow := ow.below hb
        replace hbel := hbel.trans (hb.mono (by omega))
        have hl1 := b1.lt
        have hl6 := b6.lt
        clear hb hm HF
        have r0 := b1.at_ 0 rfl
        have r1 := b1.at_ 1 rfl
        have f0 := b1.thaw 0
        have f1 := b1.thaw 1
        have q0 := b6.at_ 0 rfl
        have q1 := b6.at_ 1 rfl
        go_wp2
        refine bodyPost_ret (v := .tuple #[.agg #[.int .i64 B, .slice (some ⟨g, 0, none⟩) zs.length F], .int .i64 0]) (by simp [results, Try.results94, go_sem, r0, r1]) rfl ?_
        refine regC_ok (lo := lo) (hi := P) (A := some ⟨g, 0, none⟩) (C := F) HN.out (by rw [HCL.out]) ?_ (by have := HR.out; omega) (by simp; omega) (by rw [← HR.out]; exact (by repeat (first | exact hbel | refine Below.setCell ?_ (by first | omega | (simp <;> omega)) _ | refine Below.alloc ?_ (by first | omega | (simp <;> omega)) _ | refine Below.drew ?_)))
        rw [HCL.out]
        exact (ow.setCell (p := ⟨r + 1, 0, none⟩) (.inl (by simp <;> omega)) _).setCell (p := ⟨r + 1, 1, none⟩) (.inl (by simp <;> omega)) _
end Go.Proofs.Ytgfpjcckkbhdjaa
