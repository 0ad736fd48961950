/-
  spec.l03Own, l03Digit, l03Set; spec.SetAbacus, PlainAbacus, IsPlain.
-/
import Derived.Test.YtcfpfhlgcfmioaaAbaV
import Derived.Test.YtcfpfhlgcfmioaaAbaQ
import Derived.Test.YtcfpfhlgcfmioaaOrd
namespace Go.Proofs.Ytcfpfhlgcfmioaa
open Go.RowKit

/-- An abacus of its own and a code. -/
def AbaC (R : Int × Int × Int × List (Int × Int) × Int) (w : World) (e : Ending) (w' : World) : Prop := ∃ A C,
  e = .returned (.tuple #[.agg #[.int .i64 R.1, .int .i64 R.2.1, .int .i64 R.2.2.1, .slice A R.2.2.2.1.length C], .int .i64 R.2.2.2.2]) ∧ OwnF pairF 102 w' w.heap.size w'.heap.size (.slice A R.2.2.2.1.length C) R.2.2.2.1 ∧ Below w.heap.size w w'
theorem abaC_err {R : Int × Int × Int × List (Int × Int) × Int} {c : Int} {w w' : World} {e : Ending} (h : R = (0, 0, 0, [], c)) (he : e = .returned (.tuple #[.agg #[.int .i64 0, .int .i64 0, .int .i64 0, .slice none 0 0], .int .i64 c])) (hb : Below w.heap.size w w') : AbaC R w e w' := by
  subst h
  exact ⟨none, 0, he, ownF_nil _ _ _ _ _, hb⟩
theorem abaC_ok {R : Int × Int × Int × List (Int × Int) × Int} {U L W c : Int} {xs : List (Int × Int)} {n : Nat} {w w' : World} {A : Option Addr} {C lo hi : Nat} {e : Ending} (h : R = (U, L, W, xs, c)) (hn : xs.length = n) (he : e = .returned (.tuple #[.agg #[.int .i64 U, .int .i64 L, .int .i64 W, .slice A n C], .int .i64 c]))
    (ho : OwnF pairF 102 w' lo hi (.slice A n C) xs) (hl : w.heap.size ≤ lo) (hh : hi ≤ w'.heap.size) (hb : Below w.heap.size w w') : AbaC R w e w' := by
  subst h hn
  exact ⟨A, C, he, ho.wide hl hh, hb⟩

set_option maxHeartbeats 2000000 in
theorem l03Own_any (p : Nat) (U L W : Int) (a : Option Addr) (c : Nat) (rs : List (Int × Int)) (w : World) (h : AbaAt w p U L W a rs.length c) (ha : RdF pairF w a rs) (hne : 0 < rs.length) :
    Calls Try.prog 78 #[.pointer (some ⟨p, 0, none⟩)] w fun e w' => ∃ A C, e = .returned (.agg #[.int .i64 U, .int .i64 L, .int .i64 W, .slice A rs.length C]) ∧
      OwnF pairF 102 w' w.heap.size w'.heap.size (.slice A rs.length C) rs ∧ Below w.heap.size w w' := by
  have hx := ha.len
  obtain ⟨b, off, rfl, _⟩ := ha.cells (by rintro rfl; simp at hne)
  have hp : p < w.heap.size := World.block_lt_of_cell? _ _ h.c0
  have hp1 : p < w.heap.size + 1 := by omega
  have hp2 : p < w.heap.size + 1 + 1 := by omega
  obtain ⟨u, hu⟩ : ∃ u, u = ((w.alloc (.cells #[.int .i64 0, .int .i64 0, .int .i64 0, .slice none 0 0] 26)).alloc (.cells #[.int .i64 U, .int .i64 L, .int .i64 W, .slice (some ⟨b, off, none⟩) rs.length c] 26)).alloc (.cells #[] 102) := ⟨_, rfl⟩
  have hbel : Below w.heap.size w u := by rw [hu]; exact (by repeat (first | exact Below.refl _ _ | refine Below.setCell ?_ (by first | omega | (simp <;> omega)) _ | refine Below.alloc ?_ (by first | omega | (simp <;> omega)) _ | refine Below.drew ?_))
  have bx0 : Bx u w.heap.size 26 #[.int .i64 0, .int .i64 0, .int .i64 0, .slice none 0 0] := by rw [hu]; exact ((Bx.new _ _ _).alloc _).alloc _
  have bx1 : Bx u (w.heap.size + 1) 26 #[.int .i64 U, .int .i64 L, .int .i64 W, .slice (some ⟨b, off, none⟩) rs.length c] := by rw [hu]; exact (by simpa using Bx.new (w.alloc (.cells #[.int .i64 0, .int .i64 0, .int .i64 0, .slice none 0 0] 26)) #[.int .i64 U, .int .i64 L, .int .i64 W, .slice (some ⟨b, off, none⟩) rs.length c] 26 : Bx _ (w.heap.size + 1) _ _).alloc _
  have hrow : Row 102 2 u (w.heap.size + 1 + 1) (w.heap.size + 1 + 1 + 1) (.slice (some ⟨w.heap.size + 1 + 1, 0, none⟩) 0 0) 0 [] := by
    rw [hu]
    simpa using row_new 102 2 ((w.alloc (.cells #[.int .i64 0, .int .i64 0, .int .i64 0, .slice none 0 0] 26)).alloc (.cells #[.int .i64 U, .int .i64 L, .int .i64 W, .slice (some ⟨b, off, none⟩) rs.length c] 26)) #[] 0 (by simp) (by omega)
  have hus : u.heap.size = w.heap.size + 1 + 1 + 1 := by rw [hu]; simp
  have hnew := (ha.below hbel).news
  obtain ⟨c0, c1, c2, c3⟩ := h
  have HU := Lib.hid hu
  clear hu
  go_enter Try.func78, Try.ntmps78
  go_wp2_with (at_builtin; rw [← HU.out]; refine wpList_appR rfl (.tmp 7) (.tmp 11) 24 102 rfl (.agg #[.int .i64 0, .int .i64 0]) 2 16 Try.underlying24 info_Rod rfl (by omega) (by omega) rfl hrow ⟨b, off, none⟩ rs.length c (flat pairF rs) rfl (flat_len rs) hnew flat_mem (by omega) (by omega) ?_; intro A' C' w1 hrow1 ht; have dx0 := bx0.touch ht (.inl (by omega)); have dx1 := bx1.touch ht (.inl (by omega)); have e0 := dx1.at_ 0 rfl; have e1 := dx1.at_ 1 rfl; have e2 := dx1.at_ 2 rfl; have e3 := dx1.at_ 3 rfl; have g3 := dx1.thaw 3; have z0 := dx0.at_ 0 rfl; have z1 := dx0.at_ 1 rfl; have z2 := dx0.at_ 2 rfl; have z3 := dx0.at_ 3 rfl; have f0 := dx0.thaw 0; have f1 := dx0.thaw 1; have f2 := dx0.thaw 2; have f3 := dx0.thaw 3; have hzs := ht.size)
  have ow : OwnF pairF 102 w1 (w.heap.size + 1 + 1) w1.heap.size (.slice A' rs.length C') rs := ⟨show Row 102 2 w1 (w.heap.size + 1 + 1) w1.heap.size (.slice A' rs.length C') rs.length (flat pairF rs) by simpa using hrow1, hx⟩
  have hb1 : Below w.heap.size w w1 := hbel.trans (ht.below (by omega) (by omega))
  exact bodyPost_ret (v := .agg #[.int .i64 U, .int .i64 L, .int .i64 W, .slice A' rs.length C']) (by simp [results, Try.results78, go_sem, z0, z1, z2, z3]) rfl
    ⟨A', C', rfl, ((((ow.setCell (p := ⟨w.heap.size + 1, 3, none⟩) (.inl (by simp)) _).setCell (p := ⟨w.heap.size, 0, none⟩) (.inl (by simp <;> omega)) _).setCell (p := ⟨w.heap.size, 1, none⟩) (.inl (by simp <;> omega)) _).setCell (p := ⟨w.heap.size, 2, none⟩) (.inl (by simp <;> omega)) _).setCell (p := ⟨w.heap.size, 3, none⟩) (.inl (by simp <;> omega)) _ |>.wide (by omega) (by simp), (by repeat (first | exact hb1 | refine Below.setCell ?_ (by first | omega | (simp <;> omega)) _ | refine Below.alloc ?_ (by first | omega | (simp <;> omega)) _ | refine Below.drew ?_))⟩

set_option maxHeartbeats 1000000 in
theorem l03Digit_any (p : Nat) (U L W : Int) (a : Option Addr) (n c : Nat) (d : Int) (w : World) (h : AbaAt w p U L W a n c) (u0 : 0 ≤ U) (u1 : U ≤ 4) (w0 : 1 ≤ W) (w1 : W ≤ 10) (d0 : 0 ≤ d) (d1 : d ≤ 9) :
    Calls Try.prog 125 #[.pointer (some ⟨p, 0, none⟩), .int .i64 d] w fun e w' => e = .returned (.agg #[.int .i64 (digP U W d).1, .int .i64 (digP U W d).2]) ∧ Below w.heap.size w w' := by
  have hp : p < w.heap.size := World.block_lt_of_cell? _ _ h.c0
  obtain ⟨c0, c1, c2, c3⟩ := h
  have q0 : 0 ≤ d / W := Int.ediv_nonneg d0 (by omega)
  have q1 : d / W ≤ 9 := Int.le_trans (Int.ediv_le_self W d0) d1
  have hb0 : ¬ W = 0 := by omega
  have e1 : d.tdiv W = d / W := Int.tdiv_eq_ediv_of_nonneg d0
  have e2 : IntKind.i64.wrap (d / W) = d / W := IntWalk.i64_in _ (by omega)
  obtain ⟨m, hm⟩ : ∃ m, m = min U (d / W) := ⟨_, rfl⟩
  have m0 : 0 ≤ m := by omega
  have m1 : m ≤ 4 := by omega
  obtain ⟨mw0, mw1⟩ := mul_bd m0 m1 w0 w1
  have HM := Lib.hid hm
  have hb9 : Below w.heap.size w (w.alloc (.cells #[.int .i64 0, .int .i64 0] 102)) := (by repeat (first | exact Below.refl _ _ | refine Below.setCell ?_ (by first | omega | (simp <;> omega)) _ | refine Below.alloc ?_ (by first | omega | (simp <;> omega)) _ | refine Below.drew ?_))
  have hmin : min U (d / W) = m := hm.symm
  clear hm
  go_enter Try.func125, Try.ntmps125
  go_wp2
  go_quiet ((go_at_call 146; exact Calls.quiet_of_same (l00Min_any _ _ _)))
  rw [hmin]
  clear e1 e2 hmin
  go_wp2
  refine bodyPost_ret (v := .agg #[.int .i64 m, .int .i64 (d - m * W)]) (by simp [results, Try.results125, go_sem]) rfl ⟨by rw [HM.out]; rfl, ?_⟩
  exact (by repeat (first | exact bel_drewN hb9 _ | refine Below.setCell ?_ (by first | omega | (simp <;> omega)) _ | refine Below.alloc ?_ (by first | omega | (simp <;> omega)) _ | refine Below.drew ?_))

theorem setP_padded (U W v : Int) (rs : List (Int × Int)) {k : Nat} (hk : k < rs.length) : (setP U W k v ++ rs.drop k).set k (digP U W (leftR 10 k v % 10)) = setP U W (k + 1) v ++ rs.drop (k + 1) := by
  rw [List.set_append_right _ _ (by rw [setP_len]; exact Nat.le_refl _), setP_len, Nat.sub_self, List.drop_eq_getElem_cons hk, List.set_cons_zero, setP_succ, List.append_assoc, List.singleton_append]
theorem setP_plen (U W v : Int) (rs : List (Int × Int)) {k : Nat} (hk : k ≤ rs.length) : (setP U W k v ++ rs.drop k).length = rs.length := by rw [List.length_append, setP_len, List.length_drop]; omega

set_option maxRecDepth 100000 in
set_option maxHeartbeats 2000000 in
theorem l03Set_any (p : Nat) (U L W : Int) (a : Option Addr) (c : Nat) (rs : List (Int × Int)) (v : Int) (w : World) (h : AbaAt w p U L W a rs.length c) (ha : RdF pairF w a rs) (hA : Aba U L W rs) (v0 : 0 ≤ v) (v1 : v ≤ 1000000000000) :
    Calls Try.prog 86 #[.pointer (some ⟨p, 0, none⟩), .int .i64 v] w fun e w' => ∃ A C, e = .returned (.tuple #[.agg #[.int .i64 U, .int .i64 L, .int .i64 W, .slice A rs.length C], .bool (leftR 10 rs.length v == 0)]) ∧
      OwnF pairF 102 w' w.heap.size w'.heap.size (.slice A rs.length C) (setP U W rs.length v) ∧ Below w.heap.size w w' := by
  have hx := ha.len
  have hp : p < w.heap.size := World.block_lt_of_cell? _ _ h.c0
  have bx0 := Bx.new w #[.int .i64 0, .int .i64 0, .int .i64 0, .slice none 0 0] 26
  have hbel : Below w.heap.size w (w.alloc (.cells #[.int .i64 0, .int .i64 0, .int .i64 0, .slice none 0 0] 26)) := (by repeat (first | exact Below.refl _ _ | refine Below.setCell ?_ (by first | omega | (simp <;> omega)) _ | refine Below.alloc ?_ (by first | omega | (simp <;> omega)) _ | refine Below.drew ?_))
  have h1 := h.below hbel
  have ha1 := ha.below hbel
  go_enter Try.func86, Try.ntmps86
  go_wp2_with fail
  refine (l03Own_any p U L W a c rs _ h1 ha1 (by have := hA.n0; omega)).mono ?_
  rintro e w1 ⟨A, C, rfl, ow, hb1⟩
  replace bx0 := bx0.below hb1
  have h2 := h1.below hb1
  have ha2 := ha1.below hb1
  have hbel1 := hbel.trans (hb1.mono hbel.size)
  have hz1 := bx0.lt
  replace ow : OwnF pairF 102 w1 (w.heap.size + 1) w1.heap.size (.slice A rs.length C) rs := by simpa using ow
  clear h1 ha1 hb1 hbel
  go_wp2
  go_loopw [1, 7] (fun q i wr => ∃ k : Nat, k ≤ rs.length ∧ i = .int .i64 k ∧ q = .int .i64 (leftR 10 k v) ∧ Bx wr w.heap.size 26 #[.int .i64 0, .int .i64 0, .int .i64 0, .slice none 0 0] ∧ Bx wr w1.heap.size 26 #[.int .i64 U, .int .i64 L, .int .i64 W, .slice A rs.length C] ∧
    OwnF pairF 102 wr (w.heap.size + 1) w1.heap.size (.slice A rs.length C) (setP U W k v ++ rs.drop k) ∧ AbaAt wr p U L W a rs.length c ∧ Below w.heap.size w wr) (fun _ i _ => rs.length - (intOf i).toNat)
  case atStart =>
    have hb3 : Below w1.heap.size w1 (w1.alloc (.cells #[.int .i64 U, .int .i64 L, .int .i64 W, .slice A rs.length C] 26)) := (Below.refl _ _).alloc (Nat.le_refl _) _
    exact ⟨0, Nat.zero_le _, rfl, rfl, bx0.alloc _, Bx.new _ _ _, by simpa [setP, digsR] using ow.alloc _, h2.below hb3, hbel1.trans (hb3.mono hbel1.size)⟩
  case round =>
    obtain ⟨k, hk, rfl, rfl, dx0, dx1, own, h3, hb⟩ := hrel
    have e3 := dx1.at_ 3 rfl
    have hlb := leftR_bd (by omega : (1 : Int) ≤ 10) k v v0 v1
    have hzs := dx1.lt
    by_cases hlt : k < rs.length
    · have hr : (leftR 10 k v).tmod 10 = leftR 10 k v % 10 := Int.tmod_eq_emod_of_nonneg hlb.1
      have hdx : 0 ≤ leftR 10 k v % 10 ∧ leftR 10 k v % 10 ≤ 9 := by omega
      obtain ⟨g, rfl, hg1, hg2, hg3⟩ := own.head (by rw [setP_plen U W v rs hk]; omega)
      obtain ⟨g0, g1⟩ := own.get2 (k := k) (by rw [setP_plen U W v rs hk]; exact hlt)
      have k3 := kept_all e3
      go_wp2
      refine wp_region_marked (fun w' => Below wr.heap.size wr w') 8 (by kernel_rfl) ?_
      have hS : Below wr.heap.size wr wr.drew := (Below.refl _ _).drew
      refine wpAnyM_take (i := 0) (v := ?_) rfl (by kernel_rfl) (by kernel_rfl) (by kernel_rfl) (by kernel_rfl) (by kernel_rfl) (fun _ _ _ h => h) hS (.inl ⟨by rfl, ?_⟩) ?_
      rotate_left 1
      · intro w' hS'; go_simp; try with_reducible rfl
      simp only [Act.put, List.setIfInBounds_toArray]
      refine wpAnyM_take (i := 1) (v := ?_) rfl (by kernel_rfl) (by kernel_rfl) (by kernel_rfl) (by kernel_rfl) (by kernel_rfl) (fun _ _ _ h => h) hS (.inl ⟨by rfl, ?_⟩) ?_
      rotate_left 1
      · intro w' hS'; go_simp; try with_reducible rfl
      simp only [Act.put]
      refine wpAnyM_take (i := 2) (v := ?_) rfl (by kernel_rfl) (by kernel_rfl) (by kernel_rfl) (by kernel_rfl) (by kernel_rfl) (fun _ _ _ h => h) hS (.inl ⟨by rfl, ?_⟩) ?_
      rotate_left 1
      · intro w' hS'; go_simp; try with_reducible rfl
      simp only [Act.put]
      refine wpAnyM_take (i := 3) (v := ?_) rfl (by kernel_rfl) (by kernel_rfl) (by kernel_rfl) (by kernel_rfl) (by kernel_rfl) (fun _ _ _ h => h) hS (.inl ⟨by rfl, ?_⟩) ?_
      rotate_left 1
      · intro w' hS'; go_simp; try with_reducible rfl
      simp only [Act.put]
      refine wpAnyM_take (i := 4) (v := ?_) rfl (by kernel_rfl) (by kernel_rfl) (by kernel_rfl) (by kernel_rfl) (by kernel_rfl) (fun _ _ _ h => h) hS (.inl ⟨by rfl, ?_⟩) ?_
      rotate_left 1
      · intro w' hS'; go_simp; try with_reducible rfl
      simp only [Act.put]
      refine wpAnyM_take (i := 5) (v := ?_) rfl (by kernel_rfl) (by kernel_rfl) (by kernel_rfl) (by kernel_rfl) (by kernel_rfl) (fun _ _ _ h => h) hS (.inl ⟨by rfl, ?_⟩) ?_
      rotate_left 1
      · intro w' hS'; go_simp; try with_reducible rfl
      simp only [Act.put]
      refine wpAnyM_one (i := 6) (by kernel_rfl) rfl (by rfl) (fun K hK => ?_)
      go_simp
      refine (l03Digit_any p U L W a rs.length c (leftR 10 k v % 10) wr.drew (h3.below hS) hA.u0 hA.u1 hA.w0 hA.w1 hdx.1 hdx.2).mono ?_
      rintro e w2 ⟨rfl, hb2⟩
      replace hS : Below wr.heap.size wr w2 := hS.trans (hb2.mono (by simp))
      have own2 := own.below hS
      obtain ⟨g0, g1⟩ := own2.get2 (k := k) (by rw [setP_plen U W v rs hk]; exact hlt)
      have f0 := own2.thaw (k * 2)
      have f1 := own2.thaw (k * 2 + 1)
      have HP := Lib.hid (own2.put2 (k := k) (by rw [setP_plen U W v rs hk]; exact hlt) (digP U W (leftR 10 k v % 10)))
      have hws := hS.size
      refine hK _ _ (.inr hS) ?_
      try simp only [Act.put, List.setIfInBounds_toArray]
      clear hK K hb2
      refine wpAnyM_take (i := 7) (v := ?_) rfl (by kernel_rfl) (by kernel_rfl) (by kernel_rfl) (by kernel_rfl) (by kernel_rfl) (fun _ _ _ h => h) hS (.inl ⟨by rfl, ?_⟩) ?_
      rotate_left 1
      · intro w' hS'; go_simp; try with_reducible rfl
      simp only [Act.put, List.setIfInBounds_toArray]
      refine wpAnyM_one (i := 8) (by kernel_rfl) rfl (by rfl) (fun K hK => ?_)
      go_simp
      refine hK _ _ (.inl rfl) ?_
      clear hK K
      refine wpAnyM_done (by kernel_rfl) ?_ _
      have dx0' := dx0.below hS
      have dx1' := dx1.below hS
      have h3' := h3.below hS
      have hb' := hb.trans (hS.mono hb.size)
      clear k3 f0 f1
      go_wp2
      go_roundw
      case rel =>
        refine ⟨k + 1, by omega, by go_num, by rw [leftR_succ], (dx0'.far (by simp; omega) _).far (by simp; omega) _, (dx1'.far (by simp; omega) _).far (by simp; omega) _, ?_, ?_, (by repeat (first | exact hb' | refine Below.setCell ?_ (by first | omega | (simp <;> omega)) _ | refine Below.alloc ?_ (by first | omega | (simp <;> omega)) _ | refine Below.drew ?_))⟩
        · have := HP.out
          rwa [setP_padded U W v rs hlt] at this
        · exact (h3'.far (by simp; omega) _).far (by simp; omega) _
      case measure => (simp [intOf]) <;> omega
    · obtain rfl : k = rs.length := by omega
      have e : setP U W rs.length v ++ rs.drop rs.length = setP U W rs.length v := by simp
      rw [e] at own
      clear e
      have o0 := dx1.at_ 0 rfl
      have o1 := dx1.at_ 1 rfl
      have o2 := dx1.at_ 2 rfl
      have r0 := dx0.at_ 0 rfl
      have r1 := dx0.at_ 1 rfl
      have r2 := dx0.at_ 2 rfl
      have r3 := dx0.at_ 3 rfl
      have f0 := dx0.thaw 0
      have f1 := dx0.thaw 1
      have f2 := dx0.thaw 2
      have f3 := dx0.thaw 3
      go_wp2
      exact bodyPost_ret (v := .tuple #[.agg #[.int .i64 U, .int .i64 L, .int .i64 W, .slice A rs.length C], .bool (leftR 10 rs.length v == 0)]) (by simp [results, Try.results86, go_sem, r0, r1, r2, r3]) rfl
        ⟨A, C, rfl, ((((own.setCell (p := ⟨w.heap.size, 0, none⟩) (.inl (by simp <;> omega)) _).setCell (p := ⟨w.heap.size, 1, none⟩) (.inl (by simp <;> omega)) _).setCell (p := ⟨w.heap.size, 2, none⟩) (.inl (by simp <;> omega)) _).setCell (p := ⟨w.heap.size, 3, none⟩) (.inl (by simp <;> omega)) _ |>.wide (by omega) (by simp; omega)), (by repeat (first | exact hb | refine Below.setCell ?_ (by first | omega | (simp <;> omega)) _ | refine Below.alloc ?_ (by first | omega | (simp <;> omega)) _ | refine Below.drew ?_))⟩
end Go.Proofs.Ytcfpfhlgcfmioaa
