/-
  DrawDigitFor.
-/
import Derived.Test.YtcfpfhlgcfmioaaDoorDrawS
namespace Go.Proofs.YtcfpfhlgcfmioaaDoor
open Go.RowKit

theorem own_headD {t : TypeId} {w : World} {lo hi : Nat} {zs : List Int} {a : Option Addr} {n c : Nat} (h : Own t w lo hi (.slice a n c) zs) (hne : 0 < zs.length) : ∃ g, a = some ⟨g, 0, none⟩ ∧ lo ≤ g ∧ g < hi ∧ g < w.heap.size := by
  rcases h.row.2 with ⟨_, h0⟩ | ⟨g, cap, cur, hv, hg, hh, _⟩
  · first | omega | (simp at h0; subst h0; simp at hne)
  · injection hv with ha _ _
    subst ha
    exact ⟨g, rfl, hg, h.top g rfl, (Array.getElem?_eq_some_iff.1 hh).1⟩
theorem all64_set {zs : List Int} {i : Nat} {z : Int} (h : All64 zs) (hz : I64 z) : All64 (zs.set i z) := fun x hx => by
  rcases List.mem_or_eq_of_mem_set hx with h1 | h1
  · exact h x h1
  · subst h1; exact hz
theorem all64_snoc {zs : List Int} {z : Int} (h : All64 zs) (hz : I64 z) : All64 (zs ++ [z]) := fun x hx => by
  rcases List.mem_append.1 hx with h1 | h1
  · exact h x h1
  · rw [List.mem_singleton] at h1; subst h1; exact hz
set_option maxRecDepth 100000 in
set_option maxHeartbeats 8000000 in
theorem drawDigitFor_any (a : Option Addr) (zs : List Int) (c : Nat) (w : World) (h : RdU w a zs) :
    Calls Tryd.prog 14 #[.slice a zs.length c] w fun e w' => ∃ (K b T F : Int) (zs : List Int) (A : Option Addr) (C : Nat), e = .returned (.tuple #[.agg #[.int .i64 K, .int .i64 b, .int .i64 T, .int .i64 F], .slice A (List.length zs) C]) ∧ BentK K b T F ∧ All64 zs ∧ Rd w' A zs ∧ Below w.heap.size w w' := by
  obtain ⟨r, hr⟩ : ∃ r, r = w.heap.size := ⟨_, rfl⟩
  obtain ⟨u, hu⟩ : ∃ u, u = w.alloc (.cells #[.int .i64 0, .int .i64 0, .int .i64 0, .int .i64 0] 25) := ⟨_, rfl⟩
  have br : Bx u r 25 #[.int .i64 0, .int .i64 0, .int .i64 0, .int .i64 0] := by rw [hu, hr]; exact Bx.new _ _ _
  have hbu : Below w.heap.size w u := by rw [hu]; exact (by repeat (first | exact Below.refl _ _ | refine Below.setCell ?_ (by first | omega | (simp <;> omega)) _ | refine Below.alloc ?_ (by first | omega | (simp <;> omega)) _ | refine Below.drew ?_))
  have hsu : u.heap.size = r + 1 := by rw [hu, hr]; simp
  have HU := Lib.hid hu
  have HR := Lib.hid hr
  clear hu
  go_enter Tryd.func14, Tryd.ntmps14
  go_wp2_with fail
  rw [← HU.out, ← hr]
  clear hr
  refine (from_any a zs c u (h.below hbu)).mono ?_
  rintro e w1 ⟨g, rfl, hg, hs, hb1⟩
  replace br := br.below hb1
  replace hbu := hbu.trans (hb1.mono hbu.size)
  have hgl := hs.lt
  have hrg : r < g := by omega
  have hwr : w.heap.size ≤ r := by have := HR.out; omega
  clear hb1 hg hsu h
  go_wp2_with fail
  refine (drumDigit_any g _ w1 hs (by omega)).mono ?_
  rintro e w2 ⟨K, b, T, F, d, rfl, hd, hdI, ht, hs2⟩
  have hl2 := ht.size
  replace br := br.touch ht (by omega)
  replace hbu : Below w.heap.size w w2 := hbu.trans (ht.below (by omega) hbu.size)
  have hgl2 := hs2.lt
  clear ht hs hgl
  go_upto_region 3 with fail
  obtain ⟨B, hB⟩ : ∃ B, B = w2.heap.size := ⟨_, rfl⟩
  obtain ⟨v, hv⟩ : ∃ v, v = w2.alloc (.cells #[.int .i64 K, .int .i64 b, .int .i64 T, .int .i64 F] 25) := ⟨_, rfl⟩
  rw [← hv, ← hB]
  have hbv : Below w2.heap.size w2 v := by rw [hv]; exact (by repeat (first | exact Below.refl _ _ | refine Below.setCell ?_ (by first | omega | (simp <;> omega)) _ | refine Below.alloc ?_ (by first | omega | (simp <;> omega)) _ | refine Below.drew ?_))
  have dr : Dq w r g B K b T F 60 v := ⟨br.below hbv, by rw [hv, hB]; exact Bx.new _ _ _, hs2.lo hbv hgl2, hbu.trans (hbv.mono hbu.size), hwr, hrg, by omega, hd⟩
  have hgB : g < B := dr.gB
  clear hv hbv hs2 hB hl2 br hbu hd hgl2
  have hBv := dr.lt
  go_wp2_with fail
  refine (l05Code_any B K b T F d v (DrumAt.of_box dr.bB)).mono ?_
  rintro e w3 ⟨rfl, kk, rfl⟩
  replace dr : Dq w r g B K b T F 60 (v.drewN kk) := dr.lo (M := B + 1) (bel_drewN (Below.refl _ _) kk) (Nat.lt_succ_self _)
  obtain ⟨w3, hw3⟩ : ∃ X, X = v.drewN kk := ⟨_, rfl⟩
  rw [← hw3] at dr ⊢
  clear hw3 hBv
  have hBv := dr.lt
  by_cases hc : codeR K b T F d = 0
  · obtain ⟨hD, hd1, hd2⟩ := codeR_of hc
    have hc' : (codeR K b T F d != 0) = false := by simp [hc]
    go_wp2_with fail
    clear hc hc'
    refine (l05Times_any B K b T F d w3 (DrumAt.of_box dr.bB) hD hd1 hd2).mono ?_
    rintro e w4 ⟨A, C, rfl, ow, hb⟩
    have hz4 := hb.size
    replace dr := dr.lo hb hBv
    clear hb
    have hb16 := hD.b2
    have hall : All64 (tms K b T F d) := fun x hx => by have := tms_mem hD hd2 hx; have := hD.t2; exact mid64 (by omega) (by omega)
    have htb : ∀ i, i < d.toNat → 1 ≤ nth (tms K b T F d) i ∧ nth (tms K b T F d) i ≤ 100 := fun i hi => by have := tms_bd hD hd2 hi; have := hD.t2; omega
    have hlen := tms_len K b T F d
    obtain ⟨n, hn⟩ : ∃ n, n = d.toNat := ⟨_, rfl⟩
    have hn16 : n ≤ 16 := by omega
    obtain ⟨ts, hts⟩ : ∃ ts, ts = tms K b T F d := ⟨_, rfl⟩
    rw [← hts] at ow hall hlen htb
    rw [← hn] at ow hlen htb ⊢
    have HTB := Lib.hid htb
    clear hts hn hD hd1 hd2 hb16 htb
    by_cases hn0 : 0 < n
    · have hg1 : (0 : Int) < (n : Int) := by omega
      go_wp2_with fail
      refine (one_any g _ 3 w4 dr.src (by omega) (by omega)).mono ?_
      rintro e w5 ⟨zb, rfl, hs, ht⟩
      have hz5 := ht.size
      replace ow := ow.touch ht (.inr (by omega))
      replace dr := dr.touch ht hs
      clear hs ht
      cases zb with
      | false =>
        go_wp2_with fail
        refine (one_any g _ 8 w5 dr.src (by omega) (by omega)).mono ?_
        rintro e w8 ⟨zc, rfl, hs, ht⟩
        have hz8 := ht.size
        replace ow := ow.touch ht (.inr (by omega))
        replace dr := dr.touch ht hs
        clear hs ht
        cases zc with
        | false =>
          have c0 := dr.br.at_ 0 rfl
          have c1 := dr.br.at_ 1 rfl
          have c2 := dr.br.at_ 2 rfl
          have c3 := dr.br.at_ 3 rfl
          have f0 := dr.br.thaw 0
          have f1 := dr.br.thaw 1
          have f2 := dr.br.thaw 2
          have f3 := dr.br.thaw 3
          obtain ⟨bz, tz⟩ := bx_putD (a' := .int .i64 K) (b' := .int .i64 b) (c' := .int .i64 T) (d' := .int .i64 F) dr.br
          have q0 := bz.at_ 0 rfl
          have q1 := bz.at_ 1 rfl
          have q2 := bz.at_ 2 rfl
          have q3 := bz.at_ 3 rfl
          have p0 := dr.bB.at_ 0 rfl
          have p1 := dr.bB.at_ 1 rfl
          have p2 := dr.bB.at_ 2 rfl
          have p3 := dr.bB.at_ 3 rfl
          have oz := (ow.touch tz (.inr (by have := dr.rg; omega))).rd
          have hbz := dr.bel.trans (tz.below dr.wr dr.bel.size)
          go_wp2_with fail
          exact bodyPost_ret (v := .tuple #[.agg #[.int .i64 K, .int .i64 b, .int .i64 T, .int .i64 F], .slice A n C]) (by simp [results, Tryd.results14, go_sem, q0, q1, q2, q3]) rfl ⟨K, b, T, F, ts, A, C, by rw [hlen], dr.d, hall, oz, hbz⟩
        | true =>
          go_wp2_with fail
          refine (pick_any g _ 30 w8 dr.src (by omega) (by omega)).mono ?_
          rintro e w9 ⟨z9, rfl, z90, z91, hs, ht⟩
          have hz9 := ht.size
          replace ow := ow.touch ht (.inr (by omega))
          replace dr := dr.touch ht hs
          clear hs ht
          go_upto_region 10 with (at_builtin; go_must (refine wpList_appI rfl (.tmp 43) (.tmp 46) 35 2 rfl Tryd.underlying35 info_int64 rfl (ow.alloc _) hlen ⟨w9.heap.size, 0, none⟩ 1 z9 rfl (cell_new1 w9 _ _) (by omega) (by simp; omega) ?_); intro A' C' w10 ow10 ht10)
          have hbx : Below w3.heap.size w9 w10 := ((Below.refl _ _).alloc (by omega) _).trans (ht10.below (Nat.le_refl _) (by simp; omega))
          replace dr := dr.lo hbx hBv
          replace ow := ow10
          have hz10 := hbx.size
          replace hall := all64_snoc hall (show I64 z9 from mid64 (by omega) (by omega))
          have hl9 : (ts ++ [z9]).length = n + 1 := by rw [List.length_append, hlen]; rfl
          clear ow10 ht10 hbx
          have c0 := dr.br.at_ 0 rfl
          have c1 := dr.br.at_ 1 rfl
          have c2 := dr.br.at_ 2 rfl
          have c3 := dr.br.at_ 3 rfl
          have f0 := dr.br.thaw 0
          have f1 := dr.br.thaw 1
          have f2 := dr.br.thaw 2
          have f3 := dr.br.thaw 3
          obtain ⟨bz, tz⟩ := bx_putD (a' := .int .i64 K) (b' := .int .i64 b) (c' := .int .i64 T) (d' := .int .i64 F) dr.br
          have q0 := bz.at_ 0 rfl
          have q1 := bz.at_ 1 rfl
          have q2 := bz.at_ 2 rfl
          have q3 := bz.at_ 3 rfl
          have p0 := dr.bB.at_ 0 rfl
          have p1 := dr.bB.at_ 1 rfl
          have p2 := dr.bB.at_ 2 rfl
          have p3 := dr.bB.at_ 3 rfl
          have oz := (ow.touch tz (.inr (by have := dr.rg; omega))).rd
          have hbz := dr.bel.trans (tz.below dr.wr dr.bel.size)
          go_wp2_with fail
          exact bodyPost_ret (v := .tuple #[.agg #[.int .i64 K, .int .i64 b, .int .i64 T, .int .i64 F], .slice A' (n + 1) C']) (by simp [results, Tryd.results14, go_sem, q0, q1, q2, q3]) rfl ⟨K, b, T, F, (ts ++ [z9]), A', C', by rw [hl9], dr.d, hall, oz, hbz⟩
      | true =>
        obtain ⟨G, rfl, hG1, hG2, hG3⟩ := own_headD ow (by omega)
        go_upto_region 7 with fail
        go_cut [7] from 8 (fun s7 wx => ∃ (ts2 : List Int) (N' : Nat), N' ≤ 100 ∧ s7 = .slice (some ⟨G, 0, none⟩) n C ∧ Dq w r g B K b T F N' wx ∧ Own 2 wx w3.heap.size w4.heap.size (.slice (some ⟨G, 0, none⟩) n C) ts2 ∧ All64 ts2 ∧ ts2.length = n ∧ w4.heap.size ≤ wx.heap.size)
        case first =>
          refine wp_region_marked (fun w' => Touch g (g + 1) w5 w') 12 (by kernel_rfl) ?_
          have hS : Touch g (g + 1) w5 w5.drew := (Touch.refl _ _ _).drewN 1
          refine wpAnyM_takeC (i := 0) (v := ?_) 20 rfl (by kernel_rfl) (by kernel_rfl) (by kernel_rfl) (by kernel_rfl) (by kernel_rfl) (by kernel_rfl) (fun _ _ _ h => h) hS (.inl ⟨by rfl, ?_⟩) ?_
          rotate_left 1
          · intro w' hS'; go_simp; try with_reducible rfl
          simp only [Act.put, List.setIfInBounds_toArray]
          refine wpAnyM_takeC (i := 1) (v := ?_) 20 rfl (by kernel_rfl) (by kernel_rfl) (by kernel_rfl) (by kernel_rfl) (by kernel_rfl) (by kernel_rfl) (fun _ _ _ h => h) hS (.inl ⟨by rfl, ?_⟩) ?_
          rotate_left 1
          · intro w' hS'; go_simp; try with_reducible rfl
          simp only [Act.put]
          refine wpAnyM_takeC (i := 2) (v := ?_) 20 rfl (by kernel_rfl) (by kernel_rfl) (by kernel_rfl) (by kernel_rfl) (by kernel_rfl) (by kernel_rfl) (fun _ _ _ h => h) hS (.inl ⟨by rfl, ?_⟩) ?_
          rotate_left 1
          · intro w' hS'; go_simp; try with_reducible rfl
          simp only [Act.put]
          refine wpAnyM_takeC (i := 3) (v := ?_) 20 rfl (by kernel_rfl) (by kernel_rfl) (by kernel_rfl) (by kernel_rfl) (by kernel_rfl) (by kernel_rfl) (fun _ _ _ h => h) hS (.inl ⟨by rfl, ?_⟩) ?_
          rotate_left 1
          · intro w' hS'; go_simp; try with_reducible rfl
          simp only [Act.put]
          refine wpAnyM_takeC (i := 7) (v := ?_) 20 rfl (by kernel_rfl) (by kernel_rfl) (by kernel_rfl) (by kernel_rfl) (by kernel_rfl) (by kernel_rfl) (fun _ _ _ h => h) hS (.inl ⟨by rfl, ?_⟩) ?_
          rotate_left 1
          · intro w' hS'; go_simp; try with_reducible rfl
          simp only [Act.put]
          refine wpAnyM_one (i := 4) (by kernel_rfl) rfl (by rfl) (fun K' hK => ?_)
          go_simp
          refine (pick_any g _ (n : Int) w5.drew dr.drew.src (by omega) (by omega)).mono ?_
          rintro e w6 ⟨zi, rfl, zi0, zi1, hs, ht⟩
          have hS6 : Touch g (g + 1) w5 w6 := hS.trans ht
          replace zi1 : zi ≤ (n : Int) - 1 := by omega
          obtain ⟨i, rfl⟩ : ∃ i : Nat, zi = i := ⟨zi.toNat, by omega⟩
          have hin : i < n := by omega
          have hidx : (0 : Int) ≤ (i : Int) ∧ (i : Int) < (n : Int) := by omega
          have dr6 := dr.touch hS6 hs
          have kL : ∀ w', Touch g (g + 1) w5 w' → w'.cell? ⟨G, i, none⟩ = some (.int .i64 (nth ts i)) := fun w' h => keptT h (ow.get (by omega)) (.inr (by omega))
          refine hK _ _ (.inr hS6) ?_
          try simp only [Act.put, List.setIfInBounds_toArray]
          clear hK K' zi0 zi1 hs ht
          refine wpAnyM_two (i := 5) (j := 8) (by kernel_rfl) rfl rfl (by rfl) (by rfl) (fun K' hK => ?_) (fun K' hK => ?_)
          · go_simp
            refine hK _ _ (.inr hS6) ?_
            try simp only [Act.put, List.setIfInBounds_toArray]
            clear hK K'
            refine wpAnyM_takeC (i := 6) (v := ?_) 20 rfl (by kernel_rfl) (by kernel_rfl) (by kernel_rfl) (by kernel_rfl) (by kernel_rfl) (by kernel_rfl) (fun _ _ _ h => h) hS6 (.inl ⟨by rfl, ?_⟩) ?_
            rotate_left 1
            · intro w' hS'; go_simp; try with_reducible rfl
            simp only [Act.put, List.setIfInBounds_toArray]
            clear kL
            refine wpAnyM_one (i := 8) (by kernel_rfl) rfl (by rfl) (fun K' hK => ?_)
            go_simp
            refine (pick_any g _ 3 w6 dr6.src (by omega) (by omega)).mono ?_
            rintro e w7 ⟨zp, rfl, zp0, zp1, hs, ht⟩
            have hS7 : Touch g (g + 1) w5 w7 := hS6.trans ht
            replace dr := dr6.touch ht hs
            have hzb := HTB.out i hin
            have hv1 : IntKind.i64.wrap (zp - 1) = zp - 1 := fits_int _ (by omega) (by omega)
            have hv2 : IntKind.i64.wrap (nth ts i + (zp - 1)) = nth ts i + (zp - 1) := fits_int _ (by omega) (by omega)
            refine hK _ _ (.inr hS7) ?_
            try simp only [Act.put, List.setIfInBounds_toArray]
            clear hK K' hs ht
            refine wpAnyM_one (i := 9) (by kernel_rfl) rfl (by rfl) (fun K' hK => ?_)
            go_simp
            refine hK _ _ (.inr hS7) ?_
            try simp only [Act.put, List.setIfInBounds_toArray]
            clear hK K'
            refine wpAnyM_one (i := 10) (by kernel_rfl) rfl (by rfl) (fun K' hK => ?_)
            go_simp
            refine hK _ _ (.inr hS7) ?_
            try simp only [Act.put, List.setIfInBounds_toArray]
            clear hK K'
            have ow7 := ow.touch hS7 (.inr (by omega))
            have cG := ow7.get (j := i) (by omega)
            have fG := ow7.thaw i
            have hz7 := hS7.size
            refine wpAnyM_one (i := 11) (by kernel_rfl) rfl (by rfl) (fun K' hK => ?_)
            go_simp
            refine hK _ _ (.inr hS7) ?_
            try simp only [Act.put, List.setIfInBounds_toArray]
            clear hK K'
            refine wpAnyM_one (i := 12) (by kernel_rfl) rfl (by rfl) (fun K' hK => ?_)
            go_simp
            obtain ⟨x8, hx8⟩ : ∃ v, v = w7.setCell ⟨G, i, none⟩ (.int .i64 (nth ts i + (zp - 1))) := ⟨_, rfl⟩
            rw [← hx8]
            have hbx : Below w3.heap.size w7 x8 := by rw [hx8]; exact (Below.refl _ _).setCell (p := ⟨G, i, none⟩) (by simp; omega) _
            have hz8x := hbx.size
            replace dr := dr.lo hbx hBv
            replace ow : Own 2 x8 w3.heap.size w4.heap.size (.slice (some ⟨G, 0, none⟩) n C) (ts.set i (nth ts i + (zp - 1))) := by rw [hx8]; exact ow7.put i _
            replace hall := all64_set (i := i) hall (show I64 (nth ts i + (zp - 1)) from mid64 (by omega) (by omega))
            replace hlen : (ts.set i (nth ts i + (zp - 1))).length = n := by simpa using hlen
            clear hx8 hbx cG fG ow7 dr6 hS hS6 hS7
            refine hK _ _ (.inl rfl) ?_
            try simp only [Act.put, List.setIfInBounds_toArray]
            clear hK K'
            refine wpAnyM_done (by kernel_rfl) ?_ _
            clear hv1 hv2
            go_wp2_with fail
            go_meet
            case rel => exact ⟨_, _, by omega, rfl, dr, ow, hall, hlen, by omega⟩
          · skip
            go_simp
            refine (pick_any g _ 3 w6 dr6.src (by omega) (by omega)).mono ?_
            rintro e w7 ⟨zp, rfl, zp0, zp1, hs, ht⟩
            have hS7 : Touch g (g + 1) w5 w7 := hS6.trans ht
            replace dr := dr6.touch ht hs
            have hzb := HTB.out i hin
            have hv1 : IntKind.i64.wrap (zp - 1) = zp - 1 := fits_int _ (by omega) (by omega)
            have hv2 : IntKind.i64.wrap (nth ts i + (zp - 1)) = nth ts i + (zp - 1) := fits_int _ (by omega) (by omega)
            refine hK _ _ (.inr hS7) ?_
            try simp only [Act.put, List.setIfInBounds_toArray]
            clear hK K' hs ht
            have kM := kL w7 hS7
            clear kL
            refine wpAnyM_takeC (i := 9) (v := ?_) 20 rfl (by kernel_rfl) (by kernel_rfl) (by kernel_rfl) (by kernel_rfl) (by kernel_rfl) (by kernel_rfl) (fun _ _ _ h => h) hS7 (.inl ⟨by rfl, ?_⟩) ?_
            rotate_left 1
            · intro w' hS'; go_simp; try with_reducible rfl
            simp only [Act.put, List.setIfInBounds_toArray]
            refine wpAnyM_one (i := 5) (by kernel_rfl) rfl (by rfl) (fun K' hK => ?_)
            go_simp
            refine hK _ _ (.inr hS7) ?_
            try simp only [Act.put, List.setIfInBounds_toArray]
            clear hK K'
            refine wpAnyM_one (i := 6) (by kernel_rfl) rfl (by rfl) (fun K' hK => ?_)
            go_simp
            refine hK _ _ (.inr hS7) ?_
            try simp only [Act.put, List.setIfInBounds_toArray]
            clear hK K'
            clear kM
            refine wpAnyM_one (i := 10) (by kernel_rfl) rfl (by rfl) (fun K' hK => ?_)
            go_simp
            refine hK _ _ (.inr hS7) ?_
            try simp only [Act.put, List.setIfInBounds_toArray]
            clear hK K'
            have ow7 := ow.touch hS7 (.inr (by omega))
            have cG := ow7.get (j := i) (by omega)
            have fG := ow7.thaw i
            have hz7 := hS7.size
            refine wpAnyM_one (i := 11) (by kernel_rfl) rfl (by rfl) (fun K' hK => ?_)
            go_simp
            refine hK _ _ (.inr hS7) ?_
            try simp only [Act.put, List.setIfInBounds_toArray]
            clear hK K'
            refine wpAnyM_one (i := 12) (by kernel_rfl) rfl (by rfl) (fun K' hK => ?_)
            go_simp
            obtain ⟨x8, hx8⟩ : ∃ v, v = w7.setCell ⟨G, i, none⟩ (.int .i64 (nth ts i + (zp - 1))) := ⟨_, rfl⟩
            rw [← hx8]
            have hbx : Below w3.heap.size w7 x8 := by rw [hx8]; exact (Below.refl _ _).setCell (p := ⟨G, i, none⟩) (by simp; omega) _
            have hz8x := hbx.size
            replace dr := dr.lo hbx hBv
            replace ow : Own 2 x8 w3.heap.size w4.heap.size (.slice (some ⟨G, 0, none⟩) n C) (ts.set i (nth ts i + (zp - 1))) := by rw [hx8]; exact ow7.put i _
            replace hall := all64_set (i := i) hall (show I64 (nth ts i + (zp - 1)) from mid64 (by omega) (by omega))
            replace hlen : (ts.set i (nth ts i + (zp - 1))).length = n := by simpa using hlen
            clear hx8 hbx cG fG ow7 dr6 hS hS6 hS7
            refine hK _ _ (.inl rfl) ?_
            try simp only [Act.put, List.setIfInBounds_toArray]
            clear hK K'
            refine wpAnyM_done (by kernel_rfl) ?_ _
            clear hv1 hv2
            go_wp2_with fail
            go_meet
            case rel => exact ⟨_, _, by omega, rfl, dr, ow, hall, hlen, by omega⟩
        case rest =>
        obtain ⟨ts2, N', hN', rfl, dr, ow, hall, hlen, hz8x⟩ := hcut
        obtain ⟨x8, rfl⟩ : ∃ u, u = wc := ⟨_, rfl⟩
        obtain ⟨A, hA⟩ : ∃ A : Option Addr, A = some ⟨G, 0, none⟩ := ⟨_, rfl⟩
        rw [← hA] at ow ⊢
        clear hA HTB
        go_wp2_with fail
        refine (one_any g _ 8 x8 dr.src (by omega) (by omega)).mono ?_
        rintro e w8 ⟨zc, rfl, hs, ht⟩
        have hz8 := ht.size
        replace ow := ow.touch ht (.inr (by omega))
        replace dr := dr.touch ht hs
        clear hs ht
        cases zc with
        | false =>
          have c0 := dr.br.at_ 0 rfl
          have c1 := dr.br.at_ 1 rfl
          have c2 := dr.br.at_ 2 rfl
          have c3 := dr.br.at_ 3 rfl
          have f0 := dr.br.thaw 0
          have f1 := dr.br.thaw 1
          have f2 := dr.br.thaw 2
          have f3 := dr.br.thaw 3
          obtain ⟨bz, tz⟩ := bx_putD (a' := .int .i64 K) (b' := .int .i64 b) (c' := .int .i64 T) (d' := .int .i64 F) dr.br
          have q0 := bz.at_ 0 rfl
          have q1 := bz.at_ 1 rfl
          have q2 := bz.at_ 2 rfl
          have q3 := bz.at_ 3 rfl
          have p0 := dr.bB.at_ 0 rfl
          have p1 := dr.bB.at_ 1 rfl
          have p2 := dr.bB.at_ 2 rfl
          have p3 := dr.bB.at_ 3 rfl
          have oz := (ow.touch tz (.inr (by have := dr.rg; omega))).rd
          have hbz := dr.bel.trans (tz.below dr.wr dr.bel.size)
          go_wp2_with fail
          exact bodyPost_ret (v := .tuple #[.agg #[.int .i64 K, .int .i64 b, .int .i64 T, .int .i64 F], .slice A n C]) (by simp [results, Tryd.results14, go_sem, q0, q1, q2, q3]) rfl ⟨K, b, T, F, ts2, A, C, by rw [hlen], dr.d, hall, oz, hbz⟩
        | true =>
          go_wp2_with fail
          refine (pick_any g _ 30 w8 dr.src (by omega) (by omega)).mono ?_
          rintro e w9 ⟨z9, rfl, z90, z91, hs, ht⟩
          have hz9 := ht.size
          replace ow := ow.touch ht (.inr (by omega))
          replace dr := dr.touch ht hs
          clear hs ht
          go_upto_region 10 with (at_builtin; go_must (refine wpList_appI rfl (.tmp 43) (.tmp 46) 35 2 rfl Tryd.underlying35 info_int64 rfl (ow.alloc _) hlen ⟨w9.heap.size, 0, none⟩ 1 z9 rfl (cell_new1 w9 _ _) (by omega) (by simp; omega) ?_); intro A' C' w10 ow10 ht10)
          have hbx : Below w3.heap.size w9 w10 := ((Below.refl _ _).alloc (by omega) _).trans (ht10.below (Nat.le_refl _) (by simp; omega))
          replace dr := dr.lo hbx hBv
          replace ow := ow10
          have hz10 := hbx.size
          replace hall := all64_snoc hall (show I64 z9 from mid64 (by omega) (by omega))
          have hl9 : (ts2 ++ [z9]).length = n + 1 := by rw [List.length_append, hlen]; rfl
          clear ow10 ht10 hbx
          have c0 := dr.br.at_ 0 rfl
          have c1 := dr.br.at_ 1 rfl
          have c2 := dr.br.at_ 2 rfl
          have c3 := dr.br.at_ 3 rfl
          have f0 := dr.br.thaw 0
          have f1 := dr.br.thaw 1
          have f2 := dr.br.thaw 2
          have f3 := dr.br.thaw 3
          obtain ⟨bz, tz⟩ := bx_putD (a' := .int .i64 K) (b' := .int .i64 b) (c' := .int .i64 T) (d' := .int .i64 F) dr.br
          have q0 := bz.at_ 0 rfl
          have q1 := bz.at_ 1 rfl
          have q2 := bz.at_ 2 rfl
          have q3 := bz.at_ 3 rfl
          have p0 := dr.bB.at_ 0 rfl
          have p1 := dr.bB.at_ 1 rfl
          have p2 := dr.bB.at_ 2 rfl
          have p3 := dr.bB.at_ 3 rfl
          have oz := (ow.touch tz (.inr (by have := dr.rg; omega))).rd
          have hbz := dr.bel.trans (tz.below dr.wr dr.bel.size)
          go_wp2_with fail
          exact bodyPost_ret (v := .tuple #[.agg #[.int .i64 K, .int .i64 b, .int .i64 T, .int .i64 F], .slice A' (n + 1) C']) (by simp [results, Tryd.results14, go_sem, q0, q1, q2, q3]) rfl ⟨K, b, T, F, (ts2 ++ [z9]), A', C', by rw [hl9], dr.d, hall, oz, hbz⟩
    · have hg1 : ¬ (0 : Int) < (n : Int) := by omega
      go_wp2_with fail
      refine (one_any g _ 8 w4 dr.src (by omega) (by omega)).mono ?_
      rintro e w8 ⟨zc, rfl, hs, ht⟩
      have hz8 := ht.size
      replace ow := ow.touch ht (.inr (by omega))
      replace dr := dr.touch ht hs
      clear hs ht
      cases zc with
      | false =>
        have c0 := dr.br.at_ 0 rfl
        have c1 := dr.br.at_ 1 rfl
        have c2 := dr.br.at_ 2 rfl
        have c3 := dr.br.at_ 3 rfl
        have f0 := dr.br.thaw 0
        have f1 := dr.br.thaw 1
        have f2 := dr.br.thaw 2
        have f3 := dr.br.thaw 3
        obtain ⟨bz, tz⟩ := bx_putD (a' := .int .i64 K) (b' := .int .i64 b) (c' := .int .i64 T) (d' := .int .i64 F) dr.br
        have q0 := bz.at_ 0 rfl
        have q1 := bz.at_ 1 rfl
        have q2 := bz.at_ 2 rfl
        have q3 := bz.at_ 3 rfl
        have p0 := dr.bB.at_ 0 rfl
        have p1 := dr.bB.at_ 1 rfl
        have p2 := dr.bB.at_ 2 rfl
        have p3 := dr.bB.at_ 3 rfl
        have oz := (ow.touch tz (.inr (by have := dr.rg; omega))).rd
        have hbz := dr.bel.trans (tz.below dr.wr dr.bel.size)
        go_wp2_with fail
        exact bodyPost_ret (v := .tuple #[.agg #[.int .i64 K, .int .i64 b, .int .i64 T, .int .i64 F], .slice A n C]) (by simp [results, Tryd.results14, go_sem, q0, q1, q2, q3]) rfl ⟨K, b, T, F, ts, A, C, by rw [hlen], dr.d, hall, oz, hbz⟩
      | true =>
        go_wp2_with fail
        refine (pick_any g _ 30 w8 dr.src (by omega) (by omega)).mono ?_
        rintro e w9 ⟨z9, rfl, z90, z91, hs, ht⟩
        have hz9 := ht.size
        replace ow := ow.touch ht (.inr (by omega))
        replace dr := dr.touch ht hs
        clear hs ht
        go_upto_region 10 with (at_builtin; go_must (refine wpList_appI rfl (.tmp 43) (.tmp 46) 35 2 rfl Tryd.underlying35 info_int64 rfl (ow.alloc _) hlen ⟨w9.heap.size, 0, none⟩ 1 z9 rfl (cell_new1 w9 _ _) (by omega) (by simp; omega) ?_); intro A' C' w10 ow10 ht10)
        have hbx : Below w3.heap.size w9 w10 := ((Below.refl _ _).alloc (by omega) _).trans (ht10.below (Nat.le_refl _) (by simp; omega))
        replace dr := dr.lo hbx hBv
        replace ow := ow10
        have hz10 := hbx.size
        replace hall := all64_snoc hall (show I64 z9 from mid64 (by omega) (by omega))
        have hl9 : (ts ++ [z9]).length = n + 1 := by rw [List.length_append, hlen]; rfl
        clear ow10 ht10 hbx
        have c0 := dr.br.at_ 0 rfl
        have c1 := dr.br.at_ 1 rfl
        have c2 := dr.br.at_ 2 rfl
        have c3 := dr.br.at_ 3 rfl
        have f0 := dr.br.thaw 0
        have f1 := dr.br.thaw 1
        have f2 := dr.br.thaw 2
        have f3 := dr.br.thaw 3
        obtain ⟨bz, tz⟩ := bx_putD (a' := .int .i64 K) (b' := .int .i64 b) (c' := .int .i64 T) (d' := .int .i64 F) dr.br
        have q0 := bz.at_ 0 rfl
        have q1 := bz.at_ 1 rfl
        have q2 := bz.at_ 2 rfl
        have q3 := bz.at_ 3 rfl
        have p0 := dr.bB.at_ 0 rfl
        have p1 := dr.bB.at_ 1 rfl
        have p2 := dr.bB.at_ 2 rfl
        have p3 := dr.bB.at_ 3 rfl
        have oz := (ow.touch tz (.inr (by have := dr.rg; omega))).rd
        have hbz := dr.bel.trans (tz.below dr.wr dr.bel.size)
        go_wp2_with fail
        exact bodyPost_ret (v := .tuple #[.agg #[.int .i64 K, .int .i64 b, .int .i64 T, .int .i64 F], .slice A' (n + 1) C']) (by simp [results, Tryd.results14, go_sem, q0, q1, q2, q3]) rfl ⟨K, b, T, F, (ts ++ [z9]), A', C', by rw [hl9], dr.d, hall, oz, hbz⟩
  · have hc' : (codeR K b T F d != 0) = true := by simp [hc]
    clear hc
    have c0 := dr.br.at_ 0 rfl
    have c1 := dr.br.at_ 1 rfl
    have c2 := dr.br.at_ 2 rfl
    have c3 := dr.br.at_ 3 rfl
    have f0 := dr.br.thaw 0
    have f1 := dr.br.thaw 1
    have f2 := dr.br.thaw 2
    have f3 := dr.br.thaw 3
    obtain ⟨bz, tz⟩ := bx_putD (a' := .int .i64 K) (b' := .int .i64 b) (c' := .int .i64 T) (d' := .int .i64 F) dr.br
    have q0 := bz.at_ 0 rfl
    have q1 := bz.at_ 1 rfl
    have q2 := bz.at_ 2 rfl
    have q3 := bz.at_ 3 rfl
    have hbz := dr.bel.trans (tz.below dr.wr dr.bel.size)
    have p0 := dr.bB.at_ 0 rfl
    have p1 := dr.bB.at_ 1 rfl
    have p2 := dr.bB.at_ 2 rfl
    have p3 := dr.bB.at_ 3 rfl
    have hrl := dr.br.lt
    have hBl := dr.bB.lt
    have bz2 := bz.alloc (.cells #[.int .i64 1] 2)
    have u0 := bz2.at_ 0 rfl
    have u1 := bz2.at_ 1 rfl
    have u2 := bz2.at_ 2 rfl
    have u3 := bz2.at_ 3 rfl
    have oz : Rd (((((w3.setCell ⟨r, 0, none⟩ (.int .i64 K)).setCell ⟨r, 1, none⟩ (.int .i64 b)).setCell ⟨r, 2, none⟩ (.int .i64 T)).setCell ⟨r, 3, none⟩ (.int .i64 F)).alloc (.cells #[.int .i64 1] 2)) (some ⟨w3.heap.size, 0, none⟩) [1] := by simpa using rd_new1 ((((w3.setCell ⟨r, 0, none⟩ (.int .i64 K)).setCell ⟨r, 1, none⟩ (.int .i64 b)).setCell ⟨r, 2, none⟩ (.int .i64 T)).setCell ⟨r, 3, none⟩ (.int .i64 F)) 1 2
    have hbz2 := hbz.alloc (by simpa using dr.bel.size) (.cells #[.int .i64 1] 2)
    go_wp2_with fail
    exact bodyPost_ret (v := .tuple #[.agg #[.int .i64 K, .int .i64 b, .int .i64 T, .int .i64 F], .slice (some ⟨w3.heap.size, 0, none⟩) 1 1]) (by simp [results, Tryd.results14, go_sem, u0, u1, u2, u3]) rfl ⟨K, b, T, F, [1], some ⟨w3.heap.size, 0, none⟩, 1, rfl, dr.d, (by intro x hx; rw [List.mem_singleton] at hx; subst hx; exact mid64 (by omega) (by omega)), oz, hbz2⟩
end Go.Proofs.YtcfpfhlgcfmioaaDoor
