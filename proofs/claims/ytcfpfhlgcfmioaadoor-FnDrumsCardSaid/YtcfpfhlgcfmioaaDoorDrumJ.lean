/-
  impl: the kinds of drums, the times of their steps.
-/
import Derived.Test.YtcfpfhlgcfmioaaDoorDrumI
import Derived.Test.YtcfpfhlgcfmioaaDoorApp
import Derived.Test.YtcfpfhlgcfmioaaDoorToI
namespace Go.Proofs.YtcfpfhlgcfmioaaDoor
open Go.RowKit

theorem tooth1_any (K B T F d k : Int) (w : World) (hB : 2 ≤ B ∧ B ≤ 16) (hd : 0 ≤ d ∧ d < B) (hk : 0 ≤ k ∧ k < d) : Calls Tryd.prog 74 #[.agg #[.int .i64 K, .int .i64 B, .int .i64 T, .int .i64 F], .int .i64 d, .int .i64 k] w fun e w' => e = .returned (.int .i64 (B - 1 - d + k)) ∧ Below w.heap.size w w' := by
  go_enter Tryd.func74, Tryd.ntmps74
  go_wp2
  go_ret
  exact ⟨rfl, (by repeat (first | exact Below.refl _ _ | refine Below.setCell ?_ (by first | omega | (simp <;> omega)) _ | refine Below.alloc ?_ (by first | omega | (simp <;> omega)) _ | refine Below.drew ?_))⟩
theorem tooth2_any (K B T F d k : Int) (w : World) : Calls Tryd.prog 76 #[.agg #[.int .i64 K, .int .i64 B, .int .i64 T, .int .i64 F], .int .i64 d, .int .i64 k] w fun e w' => e = .returned (.int .i64 k) ∧ Below w.heap.size w w' := by
  go_enter Tryd.func76, Tryd.ntmps76
  go_wp2
  go_ret
  exact ⟨rfl, (by repeat (first | exact Below.refl _ _ | refine Below.setCell ?_ (by first | omega | (simp <;> omega)) _ | refine Below.alloc ?_ (by first | omega | (simp <;> omega)) _ | refine Below.drew ?_))⟩

set_option maxHeartbeats 1000000 in
theorem time1_any (K B T F d k : Int) (w : World) (hB : 2 ≤ B ∧ B ≤ 16) (hF : 0 ≤ F ∧ F ≤ 60) (hd : 0 ≤ d ∧ d < B) (hk : 0 ≤ k ∧ k < d) : Calls Tryd.prog 73 #[.agg #[.int .i64 K, .int .i64 B, .int .i64 T, .int .i64 F], .int .i64 d, .int .i64 k] w fun e w' => e = .returned (.int .i64 (F + (B - 1 - d + k))) ∧ Below w.heap.size w w' := by
  obtain ⟨u, hu⟩ : ∃ u, u = w.alloc (.cells #[.int .i64 K, .int .i64 B, .int .i64 T, .int .i64 F] 81) := ⟨_, rfl⟩
  have bx : Bx u w.heap.size 81 #[.int .i64 K, .int .i64 B, .int .i64 T, .int .i64 F] := by rw [hu]; exact Bx.new _ _ _
  have hbel : Below w.heap.size w u := by rw [hu]; exact (by repeat (first | exact Below.refl _ _ | refine Below.setCell ?_ (by first | omega | (simp <;> omega)) _ | refine Below.alloc ?_ (by first | omega | (simp <;> omega)) _ | refine Below.drew ?_))
  have c0 := kept_after (bx.at_ 0 rfl)
  have c1 := kept_after (bx.at_ 1 rfl)
  have c2 := kept_after (bx.at_ 2 rfl)
  have c3 := kept_after (bx.at_ 3 rfl)
  have hw1 : IntKind.i64.wrap (F + (B - 1 - d + k)) = F + (B - 1 - d + k) := IntWalk.i64_in _ (by omega)
  have HC := Lib.hid (fun v => tooth1_any K B T F d k v (by omega) (by omega) (by omega))
  have HU := Lib.hid hu
  clear hu bx
  go_enter Tryd.func73, Tryd.ntmps73
  go_wp2
  rw [← HU.out]
  refine wp_region_after (by kernel_rfl) (by kernel_rfl) ?_
  repeat (go_big_quiet_step ((go_at_call 74; exact calls_after (HC.out _))))
  refine wpQuiet_nil ?_
  intro u
  go_wp2
  go_ret
  exact ⟨rfl, hbel.trans (u.ok.mono hbel.size)⟩

set_option maxHeartbeats 1000000 in
theorem time2_any (K B T F d k : Int) (w : World) (hB : 2 ≤ B ∧ B ≤ 16) (hF : 0 ≤ F ∧ F ≤ 60) (hd : 0 ≤ d ∧ d < B) (hk : 0 ≤ k ∧ k < d) : Calls Tryd.prog 75 #[.agg #[.int .i64 K, .int .i64 B, .int .i64 T, .int .i64 F], .int .i64 d, .int .i64 k] w fun e w' => e = .returned (.int .i64 (F + k)) ∧ Below w.heap.size w w' := by
  obtain ⟨u, hu⟩ : ∃ u, u = w.alloc (.cells #[.int .i64 K, .int .i64 B, .int .i64 T, .int .i64 F] 82) := ⟨_, rfl⟩
  have bx : Bx u w.heap.size 82 #[.int .i64 K, .int .i64 B, .int .i64 T, .int .i64 F] := by rw [hu]; exact Bx.new _ _ _
  have hbel : Below w.heap.size w u := by rw [hu]; exact (by repeat (first | exact Below.refl _ _ | refine Below.setCell ?_ (by first | omega | (simp <;> omega)) _ | refine Below.alloc ?_ (by first | omega | (simp <;> omega)) _ | refine Below.drew ?_))
  have c0 := kept_after (bx.at_ 0 rfl)
  have c1 := kept_after (bx.at_ 1 rfl)
  have c2 := kept_after (bx.at_ 2 rfl)
  have c3 := kept_after (bx.at_ 3 rfl)
  have hw1 : IntKind.i64.wrap (F + k) = F + k := IntWalk.i64_in _ (by omega)
  have HC := Lib.hid (fun v => tooth2_any K B T F d k v )
  have HU := Lib.hid hu
  clear hu bx
  go_enter Tryd.func75, Tryd.ntmps75
  go_wp2
  rw [← HU.out]
  refine wp_region_after (by kernel_rfl) (by kernel_rfl) ?_
  repeat (go_big_quiet_step ((go_at_call 76; exact calls_after (HC.out _))))
  refine wpQuiet_nil ?_
  intro u
  go_wp2
  go_ret
  exact ⟨rfl, hbel.trans (u.ok.mono hbel.size)⟩

set_option maxHeartbeats 1000000 in
theorem time3_any (K B T F d k : Int) (w : World) (hT : 2 ≤ T ∧ T ≤ 60) (hd : 0 ≤ d ∧ d < 16) (hk : 0 ≤ k ∧ k < d) : Calls Tryd.prog 77 #[.agg #[.int .i64 K, .int .i64 B, .int .i64 T, .int .i64 F], .int .i64 d, .int .i64 k] w fun e w' => e = .returned (.int .i64 (((k + 1) * T + d - 1) / d)) ∧ Below w.heap.size w w' := by
  obtain ⟨m0, m1, m2, m3⟩ := rack_bd (T := T) (d := d) (k := k) (by omega) hT.2 hk.1 hk.2 hd.2
  obtain ⟨q, hq⟩ : ∃ q, q = (k + 1) * T := ⟨_, rfl⟩
  have hw1 : IntKind.i64.wrap ((k + 1) * T) = q := by rw [← hq]; exact IntWalk.i64_in _ (by omega)
  have hw1' : wrap64 ((k + 1) * T) = q := by rw [← hq]; unfold wrap64; omega
  have hd0 : ¬ (d = 0) := by omega
  have q0 : 0 ≤ q + d - 1 := by omega
  have q1 : q + d - 1 ≤ 1000 := by omega
  have q2 : 0 ≤ q ∧ q ≤ 960 := by omega
  have qd : (q + d - 1).tdiv d = (q + d - 1) / d := Int.tdiv_eq_ediv_of_nonneg (by omega)
  have e2 : ((k + 1) * T + d - 1) / d = (q + d - 1) / d := by rw [hq]
  have hz : wrap64 ((q + d - 1) / d) = (q + d - 1) / d := by
    have z0 := Int.ediv_nonneg q0 hd.1
    have z1 := Int.ediv_le_self d q0
    unfold wrap64; omega
  have HE := Lib.hid (show wrap64 ((q + d - 1) / d) = ((k + 1) * T + d - 1) / d by rw [hz, e2])
  clear hz
  clear hq m0 m1 m2 m3 e2
  go_enter Tryd.func77, Tryd.ntmps77
  go_wp2
  go_ret
  exact ⟨ret_int HE.out, (by repeat (first | exact Below.refl _ _ | refine Below.setCell ?_ (by first | omega | (simp <;> omega)) _ | refine Below.alloc ?_ (by first | omega | (simp <;> omega)) _ | refine Below.drew ?_))⟩

theorem kind1_any (B T F : Int) (w : World) : Calls Tryd.prog 51 #[.agg #[.int .i64 1, .int .i64 B, .int .i64 T, .int .i64 F]] w fun e w' => e = .returned (.iface 81 (.agg #[.int .i64 1, .int .i64 B, .int .i64 T, .int .i64 F])) ∧ Below w.heap.size w w' := by
  go_enter Tryd.func51, Tryd.ntmps51
  go_wp2
  go_ret
  exact ⟨rfl, (by repeat (first | exact Below.refl _ _ | refine Below.setCell ?_ (by first | omega | (simp <;> omega)) _ | refine Below.alloc ?_ (by first | omega | (simp <;> omega)) _ | refine Below.drew ?_))⟩

theorem kind2_any (B T F : Int) (w : World) : Calls Tryd.prog 51 #[.agg #[.int .i64 2, .int .i64 B, .int .i64 T, .int .i64 F]] w fun e w' => e = .returned (.iface 82 (.agg #[.int .i64 2, .int .i64 B, .int .i64 T, .int .i64 F])) ∧ Below w.heap.size w w' := by
  go_enter Tryd.func51, Tryd.ntmps51
  go_wp2
  go_ret
  exact ⟨rfl, (by repeat (first | exact Below.refl _ _ | refine Below.setCell ?_ (by first | omega | (simp <;> omega)) _ | refine Below.alloc ?_ (by first | omega | (simp <;> omega)) _ | refine Below.drew ?_))⟩

theorem kind3_any (B T F : Int) (w : World) : Calls Tryd.prog 51 #[.agg #[.int .i64 3, .int .i64 B, .int .i64 T, .int .i64 F]] w fun e w' => e = .returned (.iface 83 (.agg #[.int .i64 3, .int .i64 B, .int .i64 T, .int .i64 F])) ∧ Below w.heap.size w w' := by
  go_enter Tryd.func51, Tryd.ntmps51
  go_wp2
  go_ret
  exact ⟨rfl, (by repeat (first | exact Below.refl _ _ | refine Below.setCell ?_ (by first | omega | (simp <;> omega)) _ | refine Below.alloc ?_ (by first | omega | (simp <;> omega)) _ | refine Below.drew ?_))⟩

theorem method1 (B T F : Int) (n : Nat) (w : World) : (method (n + 1) 81 (.agg #[.int .i64 1, .int .i64 B, .int .i64 T, .int .i64 F]) "loop.example/g00930/impl.stepTime").run Tryd.prog w = .ok (73, .agg #[.int .i64 1, .int .i64 B, .int .i64 T, .int .i64 F]) w := by kernel_rfl
set_option maxRecDepth 100000 in
set_option maxHeartbeats 2000000 in
theorem stepTimes1 (B T F d : Int) (w : World) (hD : Drm 1 B T F) (h1 : 0 ≤ d) (h2 : d < B) :
    Calls Tryd.prog 40 #[.agg #[.int .i64 1, .int .i64 B, .int .i64 T, .int .i64 F], .int .i64 d] w fun e w' => ∃ A C, e = .returned (.slice A d.toNat C) ∧ Own 2 w' w.heap.size w'.heap.size (.slice A d.toNat C) (tms 1 B T F d) ∧ Below w.heap.size w w' := by
  have hC : ∀ (k : Int) (v : World), 0 ≤ k → k < d → Calls Tryd.prog 73 #[.agg #[.int .i64 1, .int .i64 B, .int .i64 T, .int .i64 F], .int .i64 d, .int .i64 k] v fun e w' => e = .returned (.int .i64 (tm 1 B T F d k)) ∧ Below v.heap.size v w' := fun k v a b => (tm1 B T F d k).symm ▸ time1_any 1 B T F d k v ⟨hD.b1, hD.b2⟩ hD.fb ⟨h1, h2⟩ ⟨a, b⟩
  have hK := kind1_any B T F
  obtain ⟨n, rfl⟩ := Int.eq_ofNat_of_zero_le h1
  have hn16 : n < 16 := by have := hD.b2; omega
  have HT := Lib.hid (fun (k : Nat) (hk : k < n) => show pad n (tmsN 1 B T F n (k + 1)) = (pad n (tmsN 1 B T F n k)).set k (tm 1 B T F n k) by
    have e := pad_set (n := n) (zs := tmsN 1 B T F n k) (by rw [tmsN_len]; exact hk) (tm 1 B T F n k)
    rw [tmsN_len] at e
    rw [e, ← tmsN_succ])
  obtain ⟨u, hu⟩ : ∃ u, u = w.alloc (.cells #[.int .i64 1, .int .i64 B, .int .i64 T, .int .i64 F] 25) := ⟨_, rfl⟩
  have bx : Bx u w.heap.size 25 #[.int .i64 1, .int .i64 B, .int .i64 T, .int .i64 F] := by rw [hu]; exact Bx.new _ _ _
  have hbel : Below w.heap.size w u := by rw [hu]; exact (by repeat (first | exact Below.refl _ _ | refine Below.setCell ?_ (by first | omega | (simp <;> omega)) _ | refine Below.alloc ?_ (by first | omega | (simp <;> omega)) _ | refine Below.drew ?_))
  have HU := Lib.hid hu
  have c0 := bx.at_ 0 rfl
  have c1 := bx.at_ 1 rfl
  have c2 := bx.at_ 2 rfl
  have c3 := bx.at_ 3 rfl
  have HC := Lib.hid hC
  have HK := Lib.hid hK
  have HD := Lib.hid hD
  clear hu bx hC hK hD
  have hm := method1 B T F
  go_enter Tryd.func40, Tryd.ntmps40
  go_wp2_with fail
  rw [← HU.out]
  refine (HK.out _).mono ?_
  rintro e w1 ⟨rfl, hb1⟩
  replace hbel := hbel.trans (hb1.mono hbel.size)
  clear c0 c1 c2 c3 hb1
  go_wp2_with (at_make; refine wpList_makeI rfl (.tmp 10) (.tmp 10) 35 2 rfl Tryd.underlying35 info_int64 n rfl rfl (by omega) ?_; intro w2 hown2 hb2)
  obtain ⟨G, hG⟩ : ∃ G, G = w1.heap.size := ⟨_, rfl⟩
  rw [← hG] at hown2 ⊢
  have hGw : w.heap.size ≤ G := by rw [hG]; exact hbel.size
  replace hbel := hbel.trans (hb2.mono hbel.size)
  have hG2 := hown2.block
  replace hown2 : Own 2 w2 G (G + 1) (.slice (some ⟨G, 0, none⟩) n n) (pad n []) := ⟨hown2.row, fun k hk => by simp [Value.ownBlock] at hk; omega, hown2.len⟩
  clear hb2 hG
  go_loopw [7, 14] (fun _ i wr => ∃ k : Nat, k ≤ n ∧ i = .int .i64 k ∧ Own 2 wr G (G + 1) (.slice (some ⟨G, 0, none⟩) n n) (pad n (tmsN 1 B T F n k)) ∧ Below w.heap.size w wr) (fun _ i _ => n - (intOf i).toNat)
  case atStart => exact ⟨0, Nat.zero_le _, rfl, hown2, hbel⟩
  case round =>
    clear hown2 hbel
    obtain ⟨k, hk, rfl, hown, hbel⟩ := hrel
    by_cases hlt : k < n
    · go_wp2_with fail
      refine (HC.out k _ (by omega) (by omega)).mono ?_
      rintro e w3 ⟨rfl, hb3⟩
      replace hown := hown.below hb3
      replace hbel := hbel.trans (hb3.mono hbel.size)
      have hg := hown.block
      have hgt := hown.get (j := k) (by rw [pad_len (by rw [tmsN_len]; omega)]; exact hlt)
      have hth := hown.thaw k
      have HP := Lib.hid (hown.put k (tm 1 B T F n k))
      clear hb3
      go_wp2
      go_roundw
      case rel => exact ⟨k + 1, by omega, by go_num, by rw [HT.out k hlt]; exact HP.out, (by repeat (first | exact hbel | refine Below.setCell ?_ (by first | omega | (simp <;> omega)) _ | refine Below.alloc ?_ (by first | omega | (simp <;> omega)) _ | refine Below.drew ?_))⟩
      case measure => (simp [intOf]) <;> omega
    · obtain rfl : k = n := by omega
      go_wp2
      go_ret
      exact ⟨_, _, rfl, by rw [pad_all (by rw [tmsN_len])] at hown; exact hown.wide hGw (by have := hown.block; omega), hbel⟩

theorem method2 (B T F : Int) (n : Nat) (w : World) : (method (n + 1) 82 (.agg #[.int .i64 2, .int .i64 B, .int .i64 T, .int .i64 F]) "loop.example/g00930/impl.stepTime").run Tryd.prog w = .ok (75, .agg #[.int .i64 2, .int .i64 B, .int .i64 T, .int .i64 F]) w := by kernel_rfl
set_option maxRecDepth 100000 in
set_option maxHeartbeats 2000000 in
theorem stepTimes2 (B T F d : Int) (w : World) (hD : Drm 2 B T F) (h1 : 0 ≤ d) (h2 : d < B) :
    Calls Tryd.prog 40 #[.agg #[.int .i64 2, .int .i64 B, .int .i64 T, .int .i64 F], .int .i64 d] w fun e w' => ∃ A C, e = .returned (.slice A d.toNat C) ∧ Own 2 w' w.heap.size w'.heap.size (.slice A d.toNat C) (tms 2 B T F d) ∧ Below w.heap.size w w' := by
  have hC : ∀ (k : Int) (v : World), 0 ≤ k → k < d → Calls Tryd.prog 75 #[.agg #[.int .i64 2, .int .i64 B, .int .i64 T, .int .i64 F], .int .i64 d, .int .i64 k] v fun e w' => e = .returned (.int .i64 (tm 2 B T F d k)) ∧ Below v.heap.size v w' := fun k v a b => (tm2 B T F d k).symm ▸ time2_any 2 B T F d k v ⟨hD.b1, hD.b2⟩ hD.fb ⟨h1, h2⟩ ⟨a, b⟩
  have hK := kind2_any B T F
  obtain ⟨n, rfl⟩ := Int.eq_ofNat_of_zero_le h1
  have hn16 : n < 16 := by have := hD.b2; omega
  have HT := Lib.hid (fun (k : Nat) (hk : k < n) => show pad n (tmsN 2 B T F n (k + 1)) = (pad n (tmsN 2 B T F n k)).set k (tm 2 B T F n k) by
    have e := pad_set (n := n) (zs := tmsN 2 B T F n k) (by rw [tmsN_len]; exact hk) (tm 2 B T F n k)
    rw [tmsN_len] at e
    rw [e, ← tmsN_succ])
  obtain ⟨u, hu⟩ : ∃ u, u = w.alloc (.cells #[.int .i64 2, .int .i64 B, .int .i64 T, .int .i64 F] 25) := ⟨_, rfl⟩
  have bx : Bx u w.heap.size 25 #[.int .i64 2, .int .i64 B, .int .i64 T, .int .i64 F] := by rw [hu]; exact Bx.new _ _ _
  have hbel : Below w.heap.size w u := by rw [hu]; exact (by repeat (first | exact Below.refl _ _ | refine Below.setCell ?_ (by first | omega | (simp <;> omega)) _ | refine Below.alloc ?_ (by first | omega | (simp <;> omega)) _ | refine Below.drew ?_))
  have HU := Lib.hid hu
  have c0 := bx.at_ 0 rfl
  have c1 := bx.at_ 1 rfl
  have c2 := bx.at_ 2 rfl
  have c3 := bx.at_ 3 rfl
  have HC := Lib.hid hC
  have HK := Lib.hid hK
  have HD := Lib.hid hD
  clear hu bx hC hK hD
  have hm := method2 B T F
  go_enter Tryd.func40, Tryd.ntmps40
  go_wp2_with fail
  rw [← HU.out]
  refine (HK.out _).mono ?_
  rintro e w1 ⟨rfl, hb1⟩
  replace hbel := hbel.trans (hb1.mono hbel.size)
  clear c0 c1 c2 c3 hb1
  go_wp2_with (at_make; refine wpList_makeI rfl (.tmp 10) (.tmp 10) 35 2 rfl Tryd.underlying35 info_int64 n rfl rfl (by omega) ?_; intro w2 hown2 hb2)
  obtain ⟨G, hG⟩ : ∃ G, G = w1.heap.size := ⟨_, rfl⟩
  rw [← hG] at hown2 ⊢
  have hGw : w.heap.size ≤ G := by rw [hG]; exact hbel.size
  replace hbel := hbel.trans (hb2.mono hbel.size)
  have hG2 := hown2.block
  replace hown2 : Own 2 w2 G (G + 1) (.slice (some ⟨G, 0, none⟩) n n) (pad n []) := ⟨hown2.row, fun k hk => by simp [Value.ownBlock] at hk; omega, hown2.len⟩
  clear hb2 hG
  go_loopw [7, 14] (fun _ i wr => ∃ k : Nat, k ≤ n ∧ i = .int .i64 k ∧ Own 2 wr G (G + 1) (.slice (some ⟨G, 0, none⟩) n n) (pad n (tmsN 2 B T F n k)) ∧ Below w.heap.size w wr) (fun _ i _ => n - (intOf i).toNat)
  case atStart => exact ⟨0, Nat.zero_le _, rfl, hown2, hbel⟩
  case round =>
    clear hown2 hbel
    obtain ⟨k, hk, rfl, hown, hbel⟩ := hrel
    by_cases hlt : k < n
    · go_wp2_with fail
      refine (HC.out k _ (by omega) (by omega)).mono ?_
      rintro e w3 ⟨rfl, hb3⟩
      replace hown := hown.below hb3
      replace hbel := hbel.trans (hb3.mono hbel.size)
      have hg := hown.block
      have hgt := hown.get (j := k) (by rw [pad_len (by rw [tmsN_len]; omega)]; exact hlt)
      have hth := hown.thaw k
      have HP := Lib.hid (hown.put k (tm 2 B T F n k))
      clear hb3
      go_wp2
      go_roundw
      case rel => exact ⟨k + 1, by omega, by go_num, by rw [HT.out k hlt]; exact HP.out, (by repeat (first | exact hbel | refine Below.setCell ?_ (by first | omega | (simp <;> omega)) _ | refine Below.alloc ?_ (by first | omega | (simp <;> omega)) _ | refine Below.drew ?_))⟩
      case measure => (simp [intOf]) <;> omega
    · obtain rfl : k = n := by omega
      go_wp2
      go_ret
      exact ⟨_, _, rfl, by rw [pad_all (by rw [tmsN_len])] at hown; exact hown.wide hGw (by have := hown.block; omega), hbel⟩

theorem method3 (B T F : Int) (n : Nat) (w : World) : (method (n + 1) 83 (.agg #[.int .i64 3, .int .i64 B, .int .i64 T, .int .i64 F]) "loop.example/g00930/impl.stepTime").run Tryd.prog w = .ok (77, .agg #[.int .i64 3, .int .i64 B, .int .i64 T, .int .i64 F]) w := by kernel_rfl
set_option maxRecDepth 100000 in
set_option maxHeartbeats 2000000 in
theorem stepTimes3 (B T F d : Int) (w : World) (hD : Drm 3 B T F) (h1 : 0 ≤ d) (h2 : d < B) :
    Calls Tryd.prog 40 #[.agg #[.int .i64 3, .int .i64 B, .int .i64 T, .int .i64 F], .int .i64 d] w fun e w' => ∃ A C, e = .returned (.slice A d.toNat C) ∧ Own 2 w' w.heap.size w'.heap.size (.slice A d.toNat C) (tms 3 B T F d) ∧ Below w.heap.size w w' := by
  have hC : ∀ (k : Int) (v : World), 0 ≤ k → k < d → Calls Tryd.prog 77 #[.agg #[.int .i64 3, .int .i64 B, .int .i64 T, .int .i64 F], .int .i64 d, .int .i64 k] v fun e w' => e = .returned (.int .i64 (tm 3 B T F d k)) ∧ Below v.heap.size v w' := fun k v a b => (tm3 B T F d k).symm ▸ time3_any 3 B T F d k v ⟨by have := hD.b1; have := hD.t1; omega, hD.t2⟩ ⟨h1, by have := hD.b2; omega⟩ ⟨a, b⟩
  have hK := kind3_any B T F
  obtain ⟨n, rfl⟩ := Int.eq_ofNat_of_zero_le h1
  have hn16 : n < 16 := by have := hD.b2; omega
  have HT := Lib.hid (fun (k : Nat) (hk : k < n) => show pad n (tmsN 3 B T F n (k + 1)) = (pad n (tmsN 3 B T F n k)).set k (tm 3 B T F n k) by
    have e := pad_set (n := n) (zs := tmsN 3 B T F n k) (by rw [tmsN_len]; exact hk) (tm 3 B T F n k)
    rw [tmsN_len] at e
    rw [e, ← tmsN_succ])
  obtain ⟨u, hu⟩ : ∃ u, u = w.alloc (.cells #[.int .i64 3, .int .i64 B, .int .i64 T, .int .i64 F] 25) := ⟨_, rfl⟩
  have bx : Bx u w.heap.size 25 #[.int .i64 3, .int .i64 B, .int .i64 T, .int .i64 F] := by rw [hu]; exact Bx.new _ _ _
  have hbel : Below w.heap.size w u := by rw [hu]; exact (by repeat (first | exact Below.refl _ _ | refine Below.setCell ?_ (by first | omega | (simp <;> omega)) _ | refine Below.alloc ?_ (by first | omega | (simp <;> omega)) _ | refine Below.drew ?_))
  have HU := Lib.hid hu
  have c0 := bx.at_ 0 rfl
  have c1 := bx.at_ 1 rfl
  have c2 := bx.at_ 2 rfl
  have c3 := bx.at_ 3 rfl
  have HC := Lib.hid hC
  have HK := Lib.hid hK
  have HD := Lib.hid hD
  clear hu bx hC hK hD
  have hm := method3 B T F
  go_enter Tryd.func40, Tryd.ntmps40
  go_wp2_with fail
  rw [← HU.out]
  refine (HK.out _).mono ?_
  rintro e w1 ⟨rfl, hb1⟩
  replace hbel := hbel.trans (hb1.mono hbel.size)
  clear c0 c1 c2 c3 hb1
  go_wp2_with (at_make; refine wpList_makeI rfl (.tmp 10) (.tmp 10) 35 2 rfl Tryd.underlying35 info_int64 n rfl rfl (by omega) ?_; intro w2 hown2 hb2)
  obtain ⟨G, hG⟩ : ∃ G, G = w1.heap.size := ⟨_, rfl⟩
  rw [← hG] at hown2 ⊢
  have hGw : w.heap.size ≤ G := by rw [hG]; exact hbel.size
  replace hbel := hbel.trans (hb2.mono hbel.size)
  have hG2 := hown2.block
  replace hown2 : Own 2 w2 G (G + 1) (.slice (some ⟨G, 0, none⟩) n n) (pad n []) := ⟨hown2.row, fun k hk => by simp [Value.ownBlock] at hk; omega, hown2.len⟩
  clear hb2 hG
  go_loopw [7, 14] (fun _ i wr => ∃ k : Nat, k ≤ n ∧ i = .int .i64 k ∧ Own 2 wr G (G + 1) (.slice (some ⟨G, 0, none⟩) n n) (pad n (tmsN 3 B T F n k)) ∧ Below w.heap.size w wr) (fun _ i _ => n - (intOf i).toNat)
  case atStart => exact ⟨0, Nat.zero_le _, rfl, hown2, hbel⟩
  case round =>
    clear hown2 hbel
    obtain ⟨k, hk, rfl, hown, hbel⟩ := hrel
    by_cases hlt : k < n
    · go_wp2_with fail
      refine (HC.out k _ (by omega) (by omega)).mono ?_
      rintro e w3 ⟨rfl, hb3⟩
      replace hown := hown.below hb3
      replace hbel := hbel.trans (hb3.mono hbel.size)
      have hg := hown.block
      have hgt := hown.get (j := k) (by rw [pad_len (by rw [tmsN_len]; omega)]; exact hlt)
      have hth := hown.thaw k
      have HP := Lib.hid (hown.put k (tm 3 B T F n k))
      clear hb3
      go_wp2
      go_roundw
      case rel => exact ⟨k + 1, by omega, by go_num, by rw [HT.out k hlt]; exact HP.out, (by repeat (first | exact hbel | refine Below.setCell ?_ (by first | omega | (simp <;> omega)) _ | refine Below.alloc ?_ (by first | omega | (simp <;> omega)) _ | refine Below.drew ?_))⟩
      case measure => (simp [intOf]) <;> omega
    · obtain rfl : k = n := by omega
      go_wp2
      go_ret
      exact ⟨_, _, rfl, by rw [pad_all (by rw [tmsN_len])] at hown; exact hown.wide hGw (by have := hown.block; omega), hbel⟩

end Go.Proofs.YtcfpfhlgcfmioaaDoor
