/-
  impl.Abacus.addDigit.
-/
import Derived.Test.YtcfpfhlgcfmioaaAbaM
import Derived.Test.YtcfpfhlgcfmioaaBdS
namespace Go.Proofs.Ytcfpfhlgcfmioaa
open Go.RowKit

theorem Touch.behind {lo hi l h : Nat} {a b c : World} (h1 : Touch lo hi a b) (h2 : Touch l h b c) (hl : a.heap.size ≤ l) : Touch lo hi a c :=
  ⟨h2.os.trans h1.os, h2.tape.trans h1.tape, h2.output.trans h1.output, Nat.le_trans h1.size h2.size, fun k hk ho => (h2.block k (by have := h1.size; omega) (.inl (by omega))).trans (h1.block k hk ho)⟩
theorem Touch.next {lo hi : Nat} {a b c : World} (h1 : Touch lo hi a b) (h2 : Below b.heap.size b c) : Touch lo hi a c := h1.trans (Below.touch h2)

/-- What addDigit returns: the moves, whether there were all the rods. -/
def adL (R : List (Int × Int) × List (Int × Int × Int) × Bool) : List (Int × Int × Int) := if R.2.2 = true then R.2.1 else []
/-- The state of the loop: acc has been told, the rods are cur, dd is to be added to the rod j. -/
def AdAt (U W : Int) (R : List (Int × Int) × List (Int × Int × Int) × Bool) (cur : List (Int × Int)) (j : Nat) (dd : Int) (acc : List (Int × Int × Int)) : Prop :=
  R.1 = (addD U W cur j dd).1 ∧ R.2.1 = acc ++ (addD U W cur j dd).2.1 ∧ R.2.2 = (addD U W cur j dd).2.2
theorem adAt_zero (U W : Int) (rs : List (Int × Int)) (k : Nat) (d : Int) : AdAt U W (addD U W rs k d) rs k d [] := ⟨rfl, rfl, rfl⟩
theorem adAt_step {U W : Int} {R : List (Int × Int) × List (Int × Int × Int) × Bool} {cur : List (Int × Int)} {j : Nat} {dd : Int} {acc : List (Int × Int × Int)} (h : AdAt U W R cur j dd acc) (hd : ¬ dd = 0) (hj : j < cur.length) : AdAt U W R (cur.set j (addT U W cur j dd)) (j + 1) (addC W cur j dd) (acc ++ [addM U W cur j dd]) := by
  obtain ⟨h1, h2, h3⟩ := h
  rw [addD_step hd hj] at h1 h2 h3
  exact ⟨h1, by rw [h2, List.append_assoc]; rfl, h3⟩
theorem adAt_end {U W : Int} {R : List (Int × Int) × List (Int × Int × Int) × Bool} {cur : List (Int × Int)} {j : Nat} {acc : List (Int × Int × Int)} (h : AdAt U W R cur j 0 acc) : R = (cur, acc, true) := by
  obtain ⟨h1, h2, h3⟩ := h
  rw [addD_zero] at h1 h2 h3
  rw [List.append_nil] at h2
  exact Prod.ext h1 (Prod.ext h2 h3)
theorem adAt_full {U W : Int} {R : List (Int × Int) × List (Int × Int × Int) × Bool} {cur : List (Int × Int)} {j : Nat} {dd : Int} {acc : List (Int × Int × Int)} (h : AdAt U W R cur j dd acc) (hd : ¬ dd = 0) (hj : ¬ j < cur.length) : R = (cur, acc, false) := by
  obtain ⟨h1, h2, h3⟩ := h
  rw [addD_full hd hj] at h1 h2 h3
  rw [List.append_nil] at h2
  exact Prod.ext h1 (Prod.ext h2 h3)

/-- addDigit's answer: the moves of its own, whether there were all the rods; the rods. -/
def AdP (R : List (Int × Int) × List (Int × Int × Int) × Bool) (A : Option Addr) (n C lo hi : Nat) (w : World) (e : Ending) (w' : World) : Prop := ∃ LA LC,
  e = .returned (.tuple #[.slice LA (adL R).length LC, .bool R.2.2]) ∧ OwnF pairF 102 w' lo hi (.slice A n C) R.1 ∧ OwnF tripF 37 w' w.heap.size w'.heap.size (.slice LA (adL R).length LC) (adL R) ∧ Touch lo hi w w'

set_option maxRecDepth 100000 in
set_option maxHeartbeats 4000000 in
theorem addDigit_any (U L W : Int) (A : Option Addr) (C lo hi : Nat) (rs : List (Int × Int)) (k : Nat) (d : Int) (w : World) (hP : Pln U L W rs) (d0 : 0 ≤ d) (d1 : d ≤ 9) (hk : k ≤ 100) (ow : OwnF pairF 102 w lo hi (.slice A rs.length C) rs) (hlz : lo ≤ w.heap.size) (hhz : hi ≤ w.heap.size) :
    Calls Try.prog 74 #[.agg #[.int .i64 U, .int .i64 L, .int .i64 W, .slice A rs.length C], .int .i64 k, .int .i64 d] w (AdP (addD U W rs k d) A rs.length C lo hi w) := by
  obtain ⟨gb, rfl, l1, l2, l3⟩ := ow.head (by have := hP.aba.n0; omega)
  obtain ⟨u, hu⟩ : ∃ u, u = w.alloc (.cells #[.int .i64 U, .int .i64 L, .int .i64 W, .slice (some ⟨gb, 0, none⟩) rs.length C] 26) := ⟨_, rfl⟩
  have hbu : Below w.heap.size w u := by rw [hu]; exact (Below.refl _ _).alloc (Nat.le_refl _) _
  have bx : Bx u w.heap.size 26 #[.int .i64 U, .int .i64 L, .int .i64 W, .slice (some ⟨gb, 0, none⟩) rs.length C] := by rw [hu]; exact Bx.new _ _ _
  have huz : u.heap.size = w.heap.size + 1 := by rw [hu]; simp
  have HU := Lib.hid hu
  replace ow := ow.below hbu
  have hb0 : Touch lo hi w u := Below.touch hbu
  have HAD := Lib.hid (adAt_zero U W rs k d)
  obtain ⟨R, hR⟩ : ∃ R, R = addD U W rs k d := ⟨_, rfl⟩
  rw [← hR] at HAD ⊢
  obtain ⟨n, hn⟩ : ∃ n, n = rs.length := ⟨_, rfl⟩
  rw [← hn] at ow bx HU ⊢
  have hn1 : n ≤ 10 := by rw [hn]; exact hP.aba.n1
  have HN := Lib.hid hn
  have HPL := Lib.hid hP
  clear hu hbu hR hn hP
  go_enter Try.func74, Try.ntmps74
  go_wp2
  rw [← HU.out]
  go_loopw [1, 2, 8] (fun kv dv lv wr => ∃ (j : Nat) (cur : List (Int × Int)) (dd : Int) (acc : List (Int × Int × Int)) (LA : Option Addr) (LC : Nat), kv = .int .i64 j ∧ dv = .int .i64 dd ∧ lv = .slice LA acc.length LC ∧ Hid (AdAt U W R cur j dd acc) ∧ Hid (Pln U L W cur) ∧ Hid (cur.length = n) ∧ 0 ≤ dd ∧ dd ≤ 9 ∧ j ≤ 100 ∧ acc.length + (n - j) ≤ 1000 ∧
    OwnF pairF 102 wr lo hi (.slice (some ⟨gb, 0, none⟩) n C) cur ∧ OwnF tripF 37 wr (w.heap.size + 1) wr.heap.size (.slice LA acc.length LC) acc ∧ Bx wr w.heap.size 26 #[.int .i64 U, .int .i64 L, .int .i64 W, .slice (some ⟨gb, 0, none⟩) n C] ∧ Touch lo hi w wr ∧ w.heap.size + 1 ≤ wr.heap.size) (fun kv _ _ _ => n - (intOf kv).toNat)
  case atStart => exact ⟨k, rs, d, [], none, 0, rfl, rfl, rfl, HAD, HPL, Lib.hid HN.out.symm, d0, d1, hk, by simp; omega, ow, ownF_nil _ _ _ _ _, bx, hb0, by omega⟩
  case round =>
    obtain ⟨j, cur, dd, acc, LA, LC, rfl, rfl, rfl, HA, HC, HL, e0, e1, hj, hal, owr, owl, bxr, hbr, hz⟩ := hrel
    clear ow bx hb0 HAD HPL HU
    have hcl := HL.out
    clear HL HN
    subst hcl
    by_cases hd : dd = 0
    · subst hd
      have hR := adAt_end HA.out
      have HRES := Lib.hid (show AdP R (some ⟨gb, 0, none⟩) cur.length C lo hi w (.returned (.tuple #[.slice LA acc.length LC, .bool true])) wr from by
        unfold AdP
        rw [hR]
        exact ⟨LA, LC, rfl, owr, owl.wide (by omega) (Nat.le_refl _), hbr⟩)
      clear hR owr owl bxr
      go_wp2
      exact bodyPost_ret (v := .tuple #[.slice LA acc.length LC, .bool true]) (by simp [results, Try.results74, go_sem]) rfl HRES.out
    · have hgt : 0 < dd := by omega
      by_cases hlt : j < cur.length
      · have HPS := Lib.hid (HC.out.set hlt e0 e1)
        have HA' := Lib.hid (adAt_step HA.out hd hlt)
        have hcar := HC.out.carry hlt e0 e1
        obtain ⟨s0, s1⟩ := HC.out.show hlt
        have hrb := rodB_true (rodsB_at HC.out.aba.rods hlt)
        obtain ⟨b1, b2, b3, b4⟩ := show_bd HC.out.aba.u1 HC.out.aba.l1 HC.out.aba.w0 HC.out.aba.w1 (rodsB_at HC.out.aba.rods hlt)
        have htb := rodB_true (rodsB_at HPS.out.aba.rods (k := j) (by simpa using hlt))
        have he : elt pairF (cur.set j (addT U W cur j dd)) j = addT U W cur j dd := by rw [elt_get (F := pairF) (by simpa using hlt)]; simp
        rw [he] at htb
        have hu1 := HC.out.aba.u1
        have hll := HC.out.aba.l1
        have HT := Lib.hid (show addT U W cur j dd = digP U W ((showR W (elt pairF cur j) + dd) % 10) from rfl)
        have HX := Lib.hid (show addM U W cur j dd = ((j : Int), (addT U W cur j dd).1 - (elt pairF cur j).1, (addT U W cur j dd).2 - (elt pairF cur j).2) from rfl)
        have HC10 := Lib.hid (show addC W cur j dd = (showR W (elt pairF cur j) + dd) / 10 from rfl)
        have HSH := Lib.hid (fun (v : World) => shows_any (elt pairF cur j) W v b1 b2 hrb.2.2.1 (by omega))
        obtain ⟨s, hs⟩ : ∃ s, s = showR W (elt pairF cur j) := ⟨_, rfl⟩
        obtain ⟨t, ht⟩ : ∃ t, t = addT U W cur j dd := ⟨_, rfl⟩
        obtain ⟨x, hx⟩ : ∃ x, x = addM U W cur j dd := ⟨_, rfl⟩
        obtain ⟨c1, hc1⟩ : ∃ c1, c1 = addC W cur j dd := ⟨_, rfl⟩
        rw [← hs] at s0 s1 HT HC10 HSH hcar
        rw [← ht] at htb HT HX HPS HA'
        rw [← hx] at HX HA'
        rw [← hc1] at HC10 HA' hcar
        have hw1 : IntKind.i64.wrap (s + dd) = s + dd := IntWalk.i64_in _ (by omega)
        have hrm : (s + dd).tmod 10 = (s + dd) % 10 := Int.tmod_eq_emod_of_nonneg (by omega)
        have hqt : (s + dd).tdiv 10 = c1 := by rw [HC10.out]; exact Int.tdiv_eq_ediv_of_nonneg (by omega)
        have hw3 : IntKind.i64.wrap (t.1 - (elt pairF cur j).1) = x.2.1 := by rw [HX.out]; exact IntWalk.i64_in _ (by omega)
        have hw4 : IntKind.i64.wrap (t.2 - (elt pairF cur j).2) = x.2.2 := by rw [HX.out]; exact IntWalk.i64_in _ (by omega)
        have hx1 : x.1 = (j : Int) := by rw [HX.out]
        have hw5 : IntKind.i64.wrap c1 = c1 := IntWalk.i64_in _ (by omega)
        have HP2 := Lib.hid (fun (v : World) => plainRod_any U L W (some ⟨gb, 0, none⟩) cur.length C ((s + dd) % 10) v HC.out.aba.u0 HC.out.aba.u1 HC.out.aba.w0 HC.out.aba.w1 (by omega) (by omega))
        rw [← HT.out] at HP2
        clear HA HC hs ht hx hc1 he b1 b2 b3 b4 HT hcar
        obtain ⟨g0, g1⟩ := owr.get2 (k := j) hlt
        have c3 := bxr.at_ 3 rfl
        go_upto_region 7 with fail
        obtain ⟨V1, hV1⟩ : ∃ V1, V1 = wr.alloc (.cells #[.int .i64 (elt pairF cur j).1, .int .i64 (elt pairF cur j).2] 102) := ⟨_, rfl⟩
        rw [← hV1]
        have hb1 : Below wr.heap.size wr V1 := by rw [hV1]; exact (Below.refl _ _).alloc (Nat.le_refl _) _
        have bf : Bx V1 wr.heap.size 102 #[.int .i64 (elt pairF cur j).1, .int .i64 (elt pairF cur j).2] := by rw [hV1]; exact Bx.new _ _ _
        clear hV1 g0 g1 c3
        replace owr := owr.below hb1
        replace owl := owl.below hb1
        replace bxr := bxr.below hb1
        have hz1 : wr.heap.size < V1.heap.size := bf.lt
        have hlw : lo ≤ wr.heap.size := by omega
        replace hbr := hbr.next hb1
        clear hb1
        have f0 := bf.at_ 0 rfl
        have f1 := bf.at_ 1 rfl
        have e2 := bxr.at_ 2 rfl
        go_wp2_with fail
        refine (HSH.out V1).mono ?_
        rintro e V2 ⟨rfl, hb2⟩
        replace owr := owr.below hb2
        replace owl := owl.below hb2
        replace bxr := bxr.below hb2
        replace bf := bf.below hb2
        have hz2 : V1.heap.size ≤ V2.heap.size := hb2.size
        replace hbr := hbr.next hb2
        clear hb2 f0 f1 e2 HSH
        have e0' := bxr.at_ 0 rfl
        have e1' := bxr.at_ 1 rfl
        have e2' := bxr.at_ 2 rfl
        have e3' := bxr.at_ 3 rfl
        go_wp2_with fail
        refine (HP2.out V2).mono ?_
        rintro e V3 ⟨rfl, hb3⟩
        replace owr := owr.below hb3
        replace owl := owl.below hb3
        replace bxr := bxr.below hb3
        replace bf := bf.below hb3
        have hz3 : V2.heap.size ≤ V3.heap.size := hb3.size
        replace hbr := hbr.next hb3
        clear hb3 e0' e1' e2' e3' HP2
        go_upto_region 9 with fail
        obtain ⟨V4, hV4⟩ : ∃ V4, V4 = V3.alloc (.cells #[.int .i64 t.1, .int .i64 t.2] 102) := ⟨_, rfl⟩
        rw [← hV4]
        have hb4 : Below V3.heap.size V3 V4 := by rw [hV4]; exact (Below.refl _ _).alloc (Nat.le_refl _) _
        have bt : Bx V4 V3.heap.size 102 #[.int .i64 t.1, .int .i64 t.2] := by rw [hV4]; exact Bx.new _ _ _
        clear hV4
        replace owr := owr.below hb4
        replace owl := owl.below hb4
        replace bxr := bxr.below hb4
        replace bf := bf.below hb4
        have hz4 : V3.heap.size < V4.heap.size := bt.lt
        replace hbr := hbr.next hb4
        clear hb4
        have f0 := bf.at_ 0 rfl
        have f1 := bf.at_ 1 rfl
        have q0 := bt.at_ 0 rfl
        have q1 := bt.at_ 1 rfl
        have HXE := Lib.hid (show x = ((j : Int), x.2.1, x.2.2) from Prod.ext hx1 rfl)
        have hd4 : hi ≤ w.heap.size + 1 := by omega
        have hlo5 : lo ≤ w.heap.size + 1 := by omega
        go_wp2_with (at_builtin; refine wpList_appR rfl (.tmp 36) (.tmp 49) 29 37 rfl (.agg #[.int .i64 0, .int .i64 0, .int .i64 0]) 3 24 Try.underlying29 info_Move rfl (by omega) (by omega) rfl (owl.alloc _).row ⟨V4.heap.size, 0, none⟩ 1 1 (flat tripF [((j : Int), x.2.1, x.2.2)]) rfl rfl (news_move V4 ((j : Int), x.2.1, x.2.2)) flat_mem (by omega) (by simp; omega) ?_; intro A' C' V5 hrow htc; have owr5 := (owr.alloc _).touch htc (.inl hd4); have bxr5 := (bxr.alloc _).touch htc (.inl (by omega)); have bt5 := (bt.alloc _).touch htc (.inr (by omega)); have HB5 := Lib.hid ((hbr.alloc _).behind htc (Nat.le_succ _)); have hz5 := htc.size; have c3 := bxr5.at_ 3 rfl; have q0' := bt5.at_ 0 rfl; have q1' := bt5.at_ 1 rfl; obtain ⟨g0, g1⟩ := owr5.get2 (k := j) hlt; have p0 := owr5.thaw (j * 2); have p1 := owr5.thaw (j * 2 + 1); have HO5 := Lib.hid (owr5.put2 (k := j) hlt t); have HW5 := Lib.hid hrow; clear hrow f0 f1 q0 q1)
        have ow9 : OwnF tripF 37 V5 (w.heap.size + 1) V5.heap.size (.slice A' (acc.length + 1) C') (acc ++ [x]) := ⟨by rw [flat_append, List.length_append, HXE.out]; exact HW5.out, by simp; omega⟩
        have hlen : (acc ++ [x]).length = acc.length + 1 := by simp
        have hgl : gb < w.heap.size + 1 := by omega
        have ow10 := (ow9.setCell (p := ⟨gb, j * 2, none⟩) (.inl hgl) (.int .i64 t.1)).setCell (p := ⟨gb, j * 2 + 1, none⟩) (.inl hgl) (.int .i64 t.2)
        have bx10 := (bxr5.far (p := ⟨gb, j * 2, none⟩) (show w.heap.size ≠ gb by omega) (.int .i64 t.1)).far (p := ⟨gb, j * 2 + 1, none⟩) (show w.heap.size ≠ gb by omega) (.int .i64 t.2)
        have HB10 := Lib.hid ((HB5.out.setCell (p := ⟨gb, j * 2, none⟩) l1 l2 (.int .i64 t.1)).setCell (p := ⟨gb, j * 2 + 1, none⟩) l1 l2 (.int .i64 t.2))
        have hz9 : w.heap.size + 1 ≤ V5.heap.size := by simp at hz5; omega
        have hc10 := HC10.out
        clear hz5 ow9 htc owr5 bxr5 c3 q0' q1' g0 g1 p0 p1
        go_roundw
        case rel => exact ⟨j + 1, cur.set j t, c1, acc ++ [x], A', C', by go_num, rfl, by rw [hlen], HA', HPS, Lib.hid (List.length_set ..), by omega, by omega, by have := HPS.out.aba.n1; rw [List.length_set] at this; omega, by rw [hlen]; omega, HO5.out, by rw [hlen]; simpa using ow10, bx10, HB10.out, by simpa using hz9⟩
        case measure => (simp [intOf]) <;> omega
      · have hR := adAt_full HA.out hd hlt
        have HRES := Lib.hid (show AdP R (some ⟨gb, 0, none⟩) cur.length C lo hi w (.returned (.tuple #[.slice none 0 0, .bool false])) wr from by
          unfold AdP
          rw [hR]
          exact ⟨none, 0, rfl, owr, ownF_nil _ _ _ _ _, hbr⟩)
        have c3 := bxr.at_ 3 rfl
        clear hR owr owl bxr
        go_wp2
        exact bodyPost_ret (v := .tuple #[.slice none 0 0, .bool false]) (by simp [results, Try.results74, go_sem]) rfl HRES.out
end Go.Proofs.Ytcfpfhlgcfmioaa
