/-
  GroupSignals: the program's.
-/
import Derived.Test.YtmdngcoccekdgaaGrpI
import Derived.Test.YtmdngcoccekdgaaGrpM
namespace Go.Proofs.Ytmdngcoccekdgaa
open Go.RowKit

theorem Groups.at_ {X : World} {L b off : Nat} : ∀ {xs : List (Nat × Nat)} {gs : List Nat} (j : Nat), Groups X L b off xs gs → j < gs.length → NewG X b off (elt ptrF gs j) (xs.getD j (0, 0)) ∧ L ≤ elt ptrF gs j ∧ elt ptrF gs j ∉ gs.take j
  | x :: xs, g :: gs, 0, h, _ => ⟨by simpa [elt] using h.1, by simpa [elt] using h.2.1, by simp⟩
  | x :: xs, g :: gs, j + 1, h, hj => by
    have hj' : j < gs.length := by simpa using hj
    obtain ⟨h1, h2, h3⟩ := Groups.at_ j h.2.2.2 hj'
    have e : elt ptrF (g :: gs) (j + 1) = elt ptrF gs j := by simp [elt]
    have hmem : elt ptrF gs j ∈ gs := by rw [elt_get hj']; exact List.getElem_mem _
    have := h.2.2.1 _ hmem
    rw [e]
    refine ⟨by simpa using h1, h2, fun hm => ?_⟩
    rw [List.take_succ_cons] at hm
    rcases List.mem_cons.1 hm with h4 | h4
    · omega
    · exact h3 h4
  | [], _ :: _, _, h, _ => h.elim
  | _ :: _, [], _, h, _ => h.elim
  | [], [], _, _, hj => by simp at hj
theorem Groups.box {X : World} {L b off : Nat} : ∀ {xs : List (Nat × Nat)} {gs : List Nat}, Groups X L b off xs gs → ∀ g ∈ gs, L ≤ g ∧ ∃ cs, Bx X g 179 cs
  | [], [], _, _, h => by simp at h
  | x :: xs, g :: gs, h, k, hk => by
    rcases List.mem_cons.1 hk with rfl | hk
    · obtain ⟨ch, hb⟩ := h.1; exact ⟨h.2.1, _, hb⟩
    · exact Groups.box h.2.2.2 k hk
  | [], _ :: _, h, _, _ => h.elim
  | _ :: _, [], h, _, _ => h.elim
theorem cks_get {m l : Nat} : ∀ {k j : Nat}, j < k → (cks m l k).getD j (0, 0) = (j * m, min m (l - j * m))
  | k + 1, j, h => by
    rw [cks, List.getD_eq_getElem?_getD]
    by_cases hj : j < k
    · rw [List.getElem?_append_left (by rw [cks_len]; exact hj), ← List.getD_eq_getElem?_getD]; exact cks_get hj
    · obtain rfl : j = k := by omega
      rw [List.getElem?_append_right (by rw [cks_len]; exact Nat.le_refl _), cks_len]; simp
  | 0, _, h => by omega
theorem ownF_capG {α : Type} {F : Flat α} {t : TypeId} {w : World} {lo hi : Nat} {a : Option Addr} {c : Nat} {xs : List α} (h : OwnF F t w lo hi (.slice a xs.length c) xs) : xs.length ≤ c := by
  rcases h.row.row.2 with ⟨_, hn⟩ | ⟨g, cap, cur, hv, _, _, hc, _⟩
  · omega
  · injection hv with _ _ hc2
    omega
/-- What turned, of the blocks that there were: these only. -/
structure TouchL (gs : List Nat) (w w' : World) : Prop where
  os : w'.os = w.os
  tape : w'.tape = w.tape
  output : w'.output = w.output
  size : w.heap.size ≤ w'.heap.size
  block : ∀ k, k < w.heap.size → k ∉ gs → w'.heap[k]? = w.heap[k]?
theorem RdF.block {α : Type} {F : Flat α} {w w' : World} {b off : Nat} {xs : List α} (h : RdF F w (some ⟨b, off, none⟩) xs) (hb : w'.heap[b]? = w.heap[b]?) : RdF F w' (some ⟨b, off, none⟩) xs :=
  ⟨h.len, fun hne => by
    obtain ⟨b', off', e, hc⟩ := h.cells hne
    cases e
    exact ⟨b, off, rfl, fun i x hi j v hv => (World.cell?_of_block hb).trans (hc i x hi j v hv)⟩⟩

set_option maxRecDepth 100000 in
set_option maxHeartbeats 4000000 in
theorem implGroupSignals (a : Option Addr) (c : Nat) (xs : List (Bool × Bool)) (s : Int) (w : World) (ha : RdF sigF w a xs) (_ : I64 s) (hcap : xs.length ≤ c) :
    Calls Try.prog 53 #[.slice a xs.length c, .int .i64 s] w (SgC (grR xs s) w) := by
  have HA := fun b h v => Lib.hid (isWidth_at (b := b) (xs.length : Int) v h)
  have HB := fun b h v => Lib.hid (isWidth_at (b := b) s v h)
  have hxl := ha.len
  cases h0 : inB s 1 16 with
  | false =>
    have HR := Lib.hid (grR_bad1 (xs := xs) h0)
    replace HB := HB _ h0
    clear h0 HA
    go_enter Try.func53, Try.ntmps53
    go_wp2_with (go_at_call 71; refine (HB _).out.mono ?_; rintro e w1 ⟨rfl, hq⟩; subst w1)
    exact bodyPost_ret (v := .tuple #[.slice none 0 0, .int .i64 2]) (by simp [results, Try.results53, go_sem]) rfl (sgC_err HR.out rfl (Below.refl _ _))
  | true =>
    replace HB := HB _ h0
    cases h1 : inB (xs.length : Int) 1 16 with
    | false =>
      have HR := Lib.hid (grR_bad2 (s := s) h1)
      replace HA := HA _ h1
      clear h0 h1
      go_enter Try.func53, Try.ntmps53
      go_wp2_with fail
      refine (HB _).out.mono ?_
      rintro e w1 ⟨rfl, hq⟩
      subst w1
      go_wp2_with fail
      refine (HA _).out.mono ?_
      rintro e w1 ⟨rfl, hq⟩
      subst w1
      go_wp2
      exact bodyPost_ret (v := .tuple #[.slice none 0 0, .int .i64 2]) (by simp [results, Try.results53, go_sem]) rfl (sgC_err HR.out rfl (Below.refl _ _))
    | true =>
      have HR := Lib.hid (grR_ok h0 h1)
      replace HA := HA _ h1
      obtain ⟨n1, n2⟩ := inB_true h1
      obtain ⟨s1, s2⟩ := inB_true h0
      clear h0 h1
      obtain ⟨m, rfl⟩ : ∃ n : Nat, s = n := ⟨s.toNat, by omega⟩
      rw [Int.toNat_natCast] at HR
      have hpos : 0 < xs.length := by omega
      obtain ⟨b, off, rfl, hcx⟩ := ha.cells (by intro h; rw [h] at hpos; simp at hpos)
      have hb : b < w.heap.size := World.block_lt_of_cell? _ _ (hcx 0 _ (elt_some (F := sigF) hpos) 0 _ rfl)
      clear hcx
      go_enter Try.func53, Try.ntmps53
      go_wp2_with fail
      refine (HB _).out.mono ?_
      rintro e w1 ⟨rfl, hq⟩
      subst w1
      go_wp2_with fail
      refine (HA _).out.mono ?_
      rintro e w1 ⟨rfl, hq⟩
      subst w1
      go_wp2_with fail
      refine (groupsOf_any b off c m xs.length (by omega) (by omega) (by omega) hcap w hb).mono ?_
      rintro e w1 ⟨Ap, Cp, gs, K, rfl, ⟨hk1, hk2⟩, ow, hG, hb1⟩
      have HK1 := Lib.hid (grp_all (xs := xs) (m := m) (by omega) hk1 hk2)
      have HK2 := Lib.hid hk2
      have HL := Lib.hid (hG.len.trans (cks_len _ _ _))
      clear hk1 hk2 HA HB
      have hsz := hb1.size
      have hg16 : gs.length ≤ 16 := by
        rw [HL.out]
        rcases Nat.lt_or_ge 16 K with h | h
        · have := HK2.out 16 h; have := Nat.le_mul_of_pos_right 16 (show 0 < m by omega); omega
        · exact h
      go_wp2
      go_loopw [6, 8, 22] (fun s _ i wr => ∃ (j : Nat) (A : Option Addr) (C : Nat), j ≤ gs.length ∧ s = .slice A j C ∧ i = .int .i64 (j : Nat) ∧
          OwnF sigF 122 wr w1.heap.size wr.heap.size (.slice A j C) (sgL m xs j) ∧ TouchL (gs.take j) w1 wr) (fun _ _ i _ => gs.length - (intOf i).toNat)
      case atStart => exact ⟨0, none, 0, Nat.zero_le _, rfl, rfl, ownF_nil _ _ _ _ _, ⟨rfl, rfl, rfl, Nat.le_refl _, fun _ _ _ => rfl⟩⟩
      case round =>
        obtain ⟨j, A, C, hj, rfl, rfl, hown, ht⟩ := hrel
        have hsr := ht.size
        by_cases hlt : j < gs.length
        · obtain ⟨gp, rfl, hgp1, hgp2, hgp3⟩ := ow.head (by omega)
          have hjK : j < K := by rw [← HL.out]; exact hlt
          have hgpn : gp ∉ gs.take j := fun hm => by
            obtain ⟨_, cs, hbx⟩ := hG.box gp (List.mem_of_mem_take hm)
            obtain ⟨cur, hcur⟩ := ow.cellsF
            rw [show w1.heap[gp]? = _ from hbx] at hcur
            injection hcur with hcur
            injection hcur with _ h3 _
            exact absurd h3 (by decide)
          have hcell : wr.cell? ⟨gp, j, none⟩ = some (.pointer (some ⟨elt ptrF gs j, 0, none⟩)) := by
            have := ow.get (k := j) (j := 0) hlt rfl
            rw [show j * ptrF.sz + 0 = j by show j * 1 + 0 = j; omega] at this
            exact (World.cell?_of_block (ht.block gp hgp3 hgpn)).trans this
          obtain ⟨⟨ch, hbx⟩, hgL, hgn⟩ := Groups.at_ j hG hlt
          rw [cks_get hjK] at hbx
          have hjm : j * m < xs.length := HK2.out j hjK
          obtain ⟨g, hg⟩ : ∃ g, g = elt ptrF gs j := ⟨_, rfl⟩
          have hgm : g ∈ gs.take (j + 1) := by
            have e : gs[j] = (gs.take (j + 1))[j]'(by simp; omega) := by simp
            rw [hg, elt_get hlt, e]
            exact List.getElem_mem _
          have HKD : Hid (∀ k, k ∉ gs.take (j + 1) → k < g ∨ g + 1 ≤ k) := Lib.hid (fun k hnk => by
            have hne : k ≠ g := fun h => hnk (h ▸ hgm)
            omega)
          rw [← hg] at hcell hbx hgL hgn
          clear hg
          have hg1 : g < w1.heap.size := hbx.lt
          have bx2 : Bx wr g 179 _ := (ht.block g hg1 hgn).trans hbx
          obtain ⟨n, hn⟩ : ∃ n, n = min m (xs.length - j * m) := ⟨_, rfl⟩
          rw [← hn] at bx2
          have hpl : ((xs.drop (j * m)).take n).length = n := by simp; omega
          have hbn : b ∉ gs.take j := fun hm => by have := (hG.box b (List.mem_of_mem_take hm)).1; omega
          have har : RdF sigF wr (some ⟨b, off, none⟩) xs := (ha.below hb1).block (ht.block b (by omega) hbn)
          have hw := Lib.hid (whole_first g (some ⟨b, off + j * m * 2, none⟩) n ((xs.drop (j * m)).take n) (.int .u32 0) ch (.slice none 0 0) wr (by rw [hpl]; exact bx2) (har.piece (j * m) n) (fun b' off' e => by cases e; omega) (by rw [hpl]; omega))
          rw [hpl, scn_take (Nat.le_refl _)] at hw
          have HS := Lib.hid (show sgL m xs (j + 1) = sgL m xs j ++ [scn (xs.drop (j * m)) n] by rw [hn]; rfl)
          have HN := Lib.hid (sgL_len m xs j)
          obtain ⟨y, hy⟩ : ∃ y, y = scn (xs.drop (j * m)) n := ⟨_, rfl⟩
          obtain ⟨ms, hms⟩ : ∃ ms, ms = sgL m xs j := ⟨_, rfl⟩
          rw [← hy] at hw HS
          rw [← hms] at hown HS HN
          clear hy hms hn hpl bx2 hbx
          have row0 : Row 122 2 wr w1.heap.size wr.heap.size (.slice A j C) j (flat sigF ms) := by have := hown.row; rw [HN.out] at this; exact this
          clear hown
          go_wp2_with (first | (go_at_call 97; refine hw.out.mono ?_; rintro e w3 ⟨rfl, ht3⟩; have hs3 := ht3.size; have row3 := row0.touch ht3 (.inr (by omega))) | (at_builtin; refine wpList_appR rfl (.tmp 26) (.tmp 29) 73 122 rfl (.agg #[.bool false, .bool false]) 2 2 Try.underlying73 info_Signal rfl (by omega) (by omega) rfl (row3.alloc _) ⟨w3.heap.size, 0, none⟩ 1 1 (flat sigF [y]) rfl rfl (sig_new w3 y) flat_mem (by omega) (by simp; omega) ?_; intro A' C' w5 row5 ht5; have hs5 := ht5.size; simp only [World.size_alloc] at hs5; have ow5 : OwnF sigF 122 w5 w1.heap.size w5.heap.size (.slice A' (j + 1) C') (ms ++ [y]) := ownF_row (n := j + 1) (by rw [flat_append]; exact row5) (by have := HN.out; simp; omega) (by have := HN.out; simp; omega); have HT := Lib.hid (show TouchL (gs.take (j + 1)) w1 w5 from ⟨ht5.os.trans (ht3.os.trans ht.os), ht5.tape.trans (ht3.tape.trans ht.tape), ht5.output.trans (ht3.output.trans ht.output), by omega, fun k hk hnk => (ht5.block k (by simp; omega) (.inl hk)).trans ((Below.heap_alloc _ _ _ (by omega)).trans ((ht3.block k (by omega) (HKD.out k hnk)).trans (ht.block k hk (fun h => hnk (List.take_subset_take_left _ (Nat.le_succ j) h)))))⟩); clear row5 ht5))
          go_roundw
          case rel => exact ⟨j + 1, A', C', by omega, rfl, by go_num, by rw [HS.out]; exact ow5, HT.out⟩
          case measure => (simp [intOf]) <;> omega
        · obtain rfl : j = gs.length := by omega
          have hbe : Below w.heap.size w wr := ⟨ht.os.trans hb1.os, ht.tape.trans hb1.tape, ht.output.trans hb1.output, by omega, fun k hk => (ht.block k (by omega) (fun hm => by have := (hG.box k (List.mem_of_mem_take hm)).1; omega)).trans (hb1.block k hk)⟩
          go_wp2
          exact bodyPost_ret (v := .tuple #[.slice A gs.length C, .int .i64 0]) (by simp [results, Try.results53, go_sem]) rfl (sgC_ok HR.out (by rw [HK1.out, sgL_len, HL.out]) rfl (by rw [HK1.out, ← HL.out]; exact hown) hsz (Nat.le_refl _) hbe)
end Go.Proofs.Ytmdngcoccekdgaa
