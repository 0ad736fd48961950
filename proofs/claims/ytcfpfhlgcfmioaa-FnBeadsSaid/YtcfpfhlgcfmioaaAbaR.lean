/-
  spec.ReplayBeads.
-/
import Derived.Test.YtcfpfhlgcfmioaaAbaO
namespace Go.Proofs.Ytcfpfhlgcfmioaa
open Go.RowKit

/-- ReplayBeads: beads, worth, rods, the moves made, code. -/
def rplR (U L W : Int) (rs : List (Int × Int)) (ms : List (Int × Int × Int)) : Int × Int × Int × List (Int × Int) × Int × Int :=
  if abaB U L W rs = true then (U, L, W, (repL U L rs ms).1, ((repL U L rs ms).2 : Int), 0) else (0, 0, 0, [], 0, 1)
theorem rplR_bad {U L W : Int} {rs : List (Int × Int)} {ms : List (Int × Int × Int)} (h : abaB U L W rs = false) : rplR U L W rs ms = (0, 0, 0, [], 0, 1) := by simp [rplR, h]
theorem rplR_ok {U L W : Int} {rs : List (Int × Int)} {ms : List (Int × Int × Int)} (h : abaB U L W rs = true) : rplR U L W rs ms = (U, L, W, (repL U L rs ms).1, ((repL U L rs ms).2 : Int), 0) := by rw [rplR, if_pos h]

/-- An abacus of its own, a number and a code. -/
def AbaN (R : Int × Int × Int × List (Int × Int) × Int × Int) (w : World) (e : Ending) (w' : World) : Prop := ∃ A C,
  e = .returned (.tuple #[.agg #[.int .i64 R.1, .int .i64 R.2.1, .int .i64 R.2.2.1, .slice A R.2.2.2.1.length C], .int .i64 R.2.2.2.2.1, .int .i64 R.2.2.2.2.2]) ∧ OwnF pairF 102 w' w.heap.size w'.heap.size (.slice A R.2.2.2.1.length C) R.2.2.2.1 ∧ Below w.heap.size w w'
theorem abaN_err {R : Int × Int × Int × List (Int × Int) × Int × Int} {c : Int} {w w' : World} {e : Ending} (h : R = (0, 0, 0, [], 0, c)) (he : e = .returned (.tuple #[.agg #[.int .i64 0, .int .i64 0, .int .i64 0, .slice none 0 0], .int .i64 0, .int .i64 c])) (hb : Below w.heap.size w w') : AbaN R w e w' := by
  subst h
  exact ⟨none, 0, he, ownF_nil _ _ _ _ _, hb⟩
theorem abaN_ok {R : Int × Int × Int × List (Int × Int) × Int × Int} {U L W m c : Int} {xs : List (Int × Int)} {n : Nat} {w w' : World} {A : Option Addr} {C lo hi : Nat} {e : Ending} (h : R = (U, L, W, xs, m, c)) (hn : xs.length = n) (he : e = .returned (.tuple #[.agg #[.int .i64 U, .int .i64 L, .int .i64 W, .slice A n C], .int .i64 m, .int .i64 c]))
    (ho : OwnF pairF 102 w' lo hi (.slice A n C) xs) (hl : w.heap.size ≤ lo) (hh : hi ≤ w'.heap.size) (hb : Below w.heap.size w w') : AbaN R w e w' := by
  subst h hn
  exact ⟨A, C, he, ho.wide hl hh, hb⟩

theorem aba_movL {U L W : Int} {rs : List (Int × Int)} {x : Int × Int × Int} (h : Aba U L W rs) (hc : movC U L rs x = 0) : Aba U L W (movL rs x) := by
  have hr : rodB U L (movedRod rs x) = true := by
    unfold movC at hc
    by_cases h1 : moveB rs.length x = true
    · rw [if_pos h1] at hc
      by_cases h2 : rodB U L (movedRod rs x) = true
      · exact h2
      · rw [if_neg h2] at hc; cases hc
    · rw [if_neg h1] at hc; cases hc
  obtain ⟨u0, u1, l0, l1, w0, w1, lw, n0, n1, nine, rods⟩ := h
  refine ⟨u0, u1, l0, l1, w0, w1, lw, by simpa [movL] using n0, by simpa [movL] using n1, nine, rodsB_all fun r hr' => ?_⟩
  rcases List.mem_or_eq_of_mem_set hr' with h1 | rfl
  · exact rodsB_true rods _ h1
  · exact hr
/-- What is left to do behind j moves that were made: the rods are cur. -/
def RepAt (U L : Int) (rs : List (Int × Int)) (ms : List (Int × Int × Int)) (j : Nat) (cur : List (Int × Int)) : Prop :=
  (repL U L rs ms).1 = (repL U L cur (ms.drop j)).1 ∧ (repL U L rs ms).2 = (repL U L cur (ms.drop j)).2 + j
theorem repAt_zero {U L : Int} {rs : List (Int × Int)} {ms : List (Int × Int × Int)} : RepAt U L rs ms 0 rs := ⟨by simp, by simp⟩
theorem repAt_cons {ms : List (Int × Int × Int)} {j : Nat} (hj : j < ms.length) : ms.drop j = elt tripF ms j :: ms.drop (j + 1) := by
  rw [elt_get hj, List.drop_eq_getElem_cons hj]
theorem repAt_succ {U L : Int} {rs cur : List (Int × Int)} {ms : List (Int × Int × Int)} {j : Nat} (h : RepAt U L rs ms j cur) (hj : j < ms.length) (hc : movC U L cur (elt tripF ms j) = 0) : RepAt U L rs ms (j + 1) (movL cur (elt tripF ms j)) := by
  obtain ⟨h1, h2⟩ := h
  rw [repAt_cons hj, repL, if_pos hc] at h1 h2
  exact ⟨h1, by rw [h2]; show _ + 1 + j = _; omega⟩
theorem repAt_stop {U L W : Int} {rs cur : List (Int × Int)} {ms : List (Int × Int × Int)} {j : Nat} (ha : abaB U L W rs = true) (h : RepAt U L rs ms j cur) (hj : j < ms.length) (hc : ¬ movC U L cur (elt tripF ms j) = 0) : rplR U L W rs ms = (U, L, W, cur, (j : Int), 0) := by
  obtain ⟨h1, h2⟩ := h
  rw [repAt_cons hj, repL, if_neg hc] at h1 h2
  rw [rplR_ok ha, h1, h2]
  simp
theorem repAt_end {U L W : Int} {rs cur : List (Int × Int)} {ms : List (Int × Int × Int)} {j : Nat} (ha : abaB U L W rs = true) (h : RepAt U L rs ms j cur) (hj : j = ms.length) : rplR U L W rs ms = (U, L, W, cur, (j : Int), 0) := by
  obtain ⟨h1, h2⟩ := h
  rw [List.drop_of_length_le (by omega), repL] at h1 h2
  rw [rplR_ok ha, h1, h2]
  simp

set_option maxRecDepth 100000 in
set_option maxHeartbeats 2000000 in
theorem specReplayBeads (U L W : Int) (a : Option Addr) (c : Nat) (rs : List (Int × Int)) (b : Option Addr) (d : Nat) (ms : List (Int × Int × Int)) (w : World) (ha : RdF pairF w a rs) (_ : I64 U) (_ : I64 L) (_ : I64 W) (_ : All2 rs) (hm : RdF tripF w b ms) (zm : All3 ms) :
    Calls Try.prog 20 #[.agg #[.int .i64 U, .int .i64 L, .int .i64 W, .slice a rs.length c], .slice b ms.length d] w (AbaN (rplR U L W rs ms) w) := by
  have hml := hm.len
  obtain ⟨u, hu⟩ : ∃ u, u = (w.alloc (.cells #[.int .i64 U, .int .i64 L, .int .i64 W, .slice a rs.length c] 26)).alloc (.cells #[.int .i64 0, .int .i64 0, .int .i64 0, .slice none 0 0] 26) := ⟨_, rfl⟩
  have hbel : Below w.heap.size w u := by rw [hu]; exact (by repeat (first | exact Below.refl _ _ | refine Below.setCell ?_ (by first | omega | (simp <;> omega)) _ | refine Below.alloc ?_ (by first | omega | (simp <;> omega)) _ | refine Below.drew ?_))
  have at0 : AbaAt u w.heap.size U L W a rs.length c := by rw [hu]; exact .of_box ((Bx.new _ _ _).alloc _)
  have bx2 : Bx u (w.heap.size + 1) 26 #[.int .i64 0, .int .i64 0, .int .i64 0, .slice none 0 0] := by rw [hu]; simpa using Bx.new (w.alloc (.cells #[.int .i64 U, .int .i64 L, .int .i64 W, .slice a rs.length c] 26)) #[.int .i64 0, .int .i64 0, .int .i64 0, .slice none 0 0] 26
  have HU := Lib.hid hu
  clear hu
  replace ha := ha.below hbel
  cases h : abaB U L W rs with
  | false =>
    have HR := Lib.hid (rplR_bad (ms := ms) h)
    have HO := Lib.hid (l03Ok_at w.heap.size U L W a c rs u h at0 ha)
    clear h
    go_enter Try.func20, Try.ntmps20
    go_wp2_with fail
    rw [← HU.out]
    refine HO.out.mono ?_
    rintro e w1 ⟨rfl, hb1⟩
    replace bx2 := bx2.below hb1
    have r0 := bx2.at_ 0 rfl
    have r1 := bx2.at_ 1 rfl
    have r2 := bx2.at_ 2 rfl
    have r3 := bx2.at_ 3 rfl
    have f0 := bx2.thaw 0
    have f1 := bx2.thaw 1
    have f2 := bx2.thaw 2
    have f3 := bx2.thaw 3
    have hb := hbel.trans (hb1.mono hbel.size)
    go_wp2
    exact bodyPost_ret (v := .tuple #[.agg #[.int .i64 0, .int .i64 0, .int .i64 0, .slice none 0 0], .int .i64 0, .int .i64 1]) (by simp [results, Try.results20, go_sem, r0, r1, r2, r3]) rfl
      (abaN_err HR.out rfl (by repeat (first | exact hb | refine Below.setCell ?_ (by first | omega | (simp <;> omega)) _ | refine Below.alloc ?_ (by first | omega | (simp <;> omega)) _ | refine Below.drew ?_)))
  | true =>
    have HO := Lib.hid (l03Ok_at w.heap.size U L W a c rs u h at0 ha)
    have HA := Lib.hid (aba_of h)
    have HST := Lib.hid (fun (j : Nat) (cur : List (Int × Int)) => repAt_stop (j := j) (cur := cur) (ms := ms) h)
    have HEN := Lib.hid (fun (j : Nat) (cur : List (Int × Int)) => repAt_end (j := j) (cur := cur) (ms := ms) h)
    clear h
    go_enter Try.func20, Try.ntmps20
    go_wp2_with fail
    rw [← HU.out]
    refine HO.out.mono ?_
    rintro e w1 ⟨rfl, hb1⟩
    replace at0 := at0.below hb1
    replace bx2 := bx2.below hb1
    replace ha := ha.below hb1
    replace hbel := hbel.trans (hb1.mono hbel.size)
    have hlo : w.heap.size + 1 < w1.heap.size := bx2.lt
    clear hb1
    go_wp2_with fail
    refine (l03Own_any w.heap.size U L W a c rs w1 at0 ha (by have := HA.out.n0; omega)).mono ?_
    rintro e w2 ⟨A, C, rfl, ow, hb2⟩
    replace bx2 := bx2.below hb2
    replace hbel := hbel.trans (hb2.mono hbel.size)
    have hsz : w1.heap.size ≤ w2.heap.size := hb2.size
    clear hb2 ha at0
    go_upto_region 4 with fail
    obtain ⟨V, hV⟩ : ∃ V, V = w2.alloc (.cells #[.int .i64 U, .int .i64 L, .int .i64 W, .slice A rs.length C] 26) := ⟨_, rfl⟩
    rw [← hV]
    have hbV : Below w2.heap.size w2 V := by rw [hV]; exact (Below.refl _ _).alloc (Nat.le_refl _) _
    have bo : Bx V w2.heap.size 26 #[.int .i64 U, .int .i64 L, .int .i64 W, .slice A rs.length C] := by rw [hV]; exact Bx.new _ _ _
    clear hV
    replace ow := ow.below hbV
    replace bx2 := bx2.below hbV
    replace hbel := hbel.trans (hbV.mono hbel.size)
    clear hbV
    have hzV : w2.heap.size < V.heap.size := bo.lt
    have atV : AbaAt V w2.heap.size U L W A rs.length C := .of_box bo
    obtain ⟨n, hn⟩ : ∃ n, n = rs.length := ⟨_, rfl⟩
    rw [← hn] at ow atV ⊢
    have HN := Lib.hid hn
    clear bo hn
    go_wp2
    go_loopw [8, 9] (fun q i wr => ∃ (j : Nat) (cur : List (Int × Int)), j ≤ ms.length ∧ i = .int .i64 j ∧ q = .int .i64 j ∧ Hid (RepAt U L rs ms j cur) ∧ Hid (Aba U L W cur) ∧ Hid (cur.length = n) ∧
      OwnF pairF 102 wr w1.heap.size w2.heap.size (.slice A n C) cur ∧ AbaAt wr w2.heap.size U L W A n C ∧ Bx wr (w.heap.size + 1) 26 #[.int .i64 0, .int .i64 0, .int .i64 0, .slice none 0 0] ∧ Below w.heap.size w wr ∧ Hid (w2.heap.size < wr.heap.size)) (fun _ i _ => ms.length - (intOf i).toNat)
    case atStart => exact ⟨0, rs, Nat.zero_le _, rfl, rfl, Lib.hid repAt_zero, HA, Lib.hid HN.out.symm, ow, atV, bx2, hbel, Lib.hid hzV⟩
    case round =>
      obtain ⟨j, cur, hj, rfl, rfl, HP, HC, HL, owr, atr, bxr, hbr, HZ⟩ := hrel
      clear ow atV bx2 hbel
      have hcl := HL.out
      clear HL HN
      subst hcl
      by_cases hlt : j < ms.length
      · obtain ⟨b', off, rfl, p0, p1, p2⟩ := (hm.below hbr).at3 hlt
        have hI := zm _ (elt_mem (F := tripF) hlt)
        have HMV := Lib.hid (l03Move_any w2.heap.size U L W A C cur (elt tripF ms j) w1.heap.size w2.heap.size wr atr owr HC.out (by have := HZ.out; omega) (by have := HZ.out; omega) (.inr (Nat.le_refl _)) hI)
        clear atr owr
        go_wp2_with fail
        refine HMV.out.mono ?_
        rintro e w3 ⟨rfl, ow, at0, hb3⟩
        have HZ3 := Lib.hid (Nat.lt_of_lt_of_le HZ.out hb3.size)
        replace bxr := bxr.lo hb3 hlo
        replace hbr : Below w.heap.size w w3 := hbr.trans (hb3.mono (by omega))
        clear p0 p1 p2 hb3
        by_cases hc : movC U L cur (elt tripF ms j) = 0
        · rw [hc]
          rw [if_pos hc] at ow
          have HP' := Lib.hid (repAt_succ HP.out hlt hc)
          have HC' := Lib.hid (aba_movL HC.out hc)
          clear hc HP HC HMV
          go_wp2
          go_roundw
          case rel => exact ⟨j + 1, _, by omega, by go_num, by go_num, HP', HC', Lib.hid (movL_len' _ _), ow, at0, bxr, hbr, HZ3⟩
          case measure => (simp [intOf]) <;> omega
        · rw [if_neg hc] at ow
          have HR := Lib.hid (HST.out j cur HP.out hlt hc)
          have hne : (movC U L cur (elt tripF ms j) == 0) = false := by simp [hc]
          clear HMV HP HC
          have f0 := bxr.thaw 0
          have f1 := bxr.thaw 1
          have f2 := bxr.thaw 2
          have f3 := bxr.thaw 3
          have z0 := bxr.at_ 0 rfl
          have z1 := bxr.at_ 1 rfl
          have z2 := bxr.at_ 2 rfl
          have z3 := bxr.at_ 3 rfl
          have hbz : w.heap.size ≤ w.heap.size + 1 := by omega
          have hd : w.heap.size + 1 < w1.heap.size ∨ w2.heap.size ≤ w.heap.size + 1 := .inl hlo
          have OW := Lib.hid ((((ow.setCell (p := ⟨w.heap.size + 1, 0, none⟩) hd (.int .i64 U)).setCell (p := ⟨w.heap.size + 1, 1, none⟩) hd (.int .i64 L)).setCell (p := ⟨w.heap.size + 1, 2, none⟩) hd (.int .i64 W)).setCell (p := ⟨w.heap.size + 1, 3, none⟩) hd (.slice A cur.length C))
          have HB := Lib.hid ((((hbr.setCell (p := ⟨w.heap.size + 1, 0, none⟩) hbz (.int .i64 U)).setCell (p := ⟨w.heap.size + 1, 1, none⟩) hbz (.int .i64 L)).setCell (p := ⟨w.heap.size + 1, 2, none⟩) hbz (.int .i64 W)).setCell (p := ⟨w.heap.size + 1, 3, none⟩) hbz (.slice A cur.length C))
          have hlw : w.heap.size ≤ w1.heap.size := by omega
          have hpn : ¬ w2.heap.size = w.heap.size + 1 := by omega
          have hpn' : ¬ w.heap.size + 1 = w2.heap.size := by omega
          obtain ⟨c0, c1, c2, c3⟩ := at0
          clear ow hbr HST HEN HA HO HU
          go_wp2
          exact bodyPost_ret (v := .tuple #[.agg #[.int .i64 U, .int .i64 L, .int .i64 W, .slice A cur.length C], .int .i64 j, .int .i64 0]) (by simp [results, Try.results20, go_sem, z0, z1, z2, z3]) rfl
            (abaN_ok HR.out rfl rfl (lo := w1.heap.size) (hi := w2.heap.size) OW.out hlw (by have := HZ3.out; simp; omega) HB.out)
      · have HR := Lib.hid (HEN.out j cur HP.out (by omega))
        have HZ3 := HZ
        have ow := owr
        have at0 := atr
        clear HP HC owr atr HZ
        have f0 := bxr.thaw 0
        have f1 := bxr.thaw 1
        have f2 := bxr.thaw 2
        have f3 := bxr.thaw 3
        have z0 := bxr.at_ 0 rfl
        have z1 := bxr.at_ 1 rfl
        have z2 := bxr.at_ 2 rfl
        have z3 := bxr.at_ 3 rfl
        have hbz : w.heap.size ≤ w.heap.size + 1 := by omega
        have hd : w.heap.size + 1 < w1.heap.size ∨ w2.heap.size ≤ w.heap.size + 1 := .inl hlo
        have OW := Lib.hid ((((ow.setCell (p := ⟨w.heap.size + 1, 0, none⟩) hd (.int .i64 U)).setCell (p := ⟨w.heap.size + 1, 1, none⟩) hd (.int .i64 L)).setCell (p := ⟨w.heap.size + 1, 2, none⟩) hd (.int .i64 W)).setCell (p := ⟨w.heap.size + 1, 3, none⟩) hd (.slice A cur.length C))
        have HB := Lib.hid ((((hbr.setCell (p := ⟨w.heap.size + 1, 0, none⟩) hbz (.int .i64 U)).setCell (p := ⟨w.heap.size + 1, 1, none⟩) hbz (.int .i64 L)).setCell (p := ⟨w.heap.size + 1, 2, none⟩) hbz (.int .i64 W)).setCell (p := ⟨w.heap.size + 1, 3, none⟩) hbz (.slice A cur.length C))
        have hlw : w.heap.size ≤ w1.heap.size := by omega
        have hpn : ¬ w2.heap.size = w.heap.size + 1 := by omega
        have hpn' : ¬ w.heap.size + 1 = w2.heap.size := by omega
        obtain ⟨c0, c1, c2, c3⟩ := at0
        clear ow hbr HST HEN HA HO HU
        go_wp2
        exact bodyPost_ret (v := .tuple #[.agg #[.int .i64 U, .int .i64 L, .int .i64 W, .slice A cur.length C], .int .i64 j, .int .i64 0]) (by simp [results, Try.results20, go_sem, z0, z1, z2, z3]) rfl
          (abaN_ok HR.out rfl rfl (lo := w1.heap.size) (hi := w2.heap.size) OW.out hlw (by have := HZ3.out; simp; omega) HB.out)
end Go.Proofs.Ytcfpfhlgcfmioaa
