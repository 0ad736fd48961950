/-
  impl.JoinTrains; slices.Grow of nothing, slices.Concat of two.
-/
import Derived.Test.YtaefgkhbgljkoaaTrainI
import Derived.Test.YtaefgkhbgljkoaaTrainT
import Derived.Test.YtaefgkhbgljkoaaGearPairS
import Derived.Lib.AppendZerosOnto
import Derived.Lib.SliceRun
namespace Go.Proofs.Ytaefgkhbgljkoaa
open Go.RowKit Go.Lib

set_option maxRecDepth 100000 in
set_option maxHeartbeats 2000000 in
theorem grow_any (n : Nat) (w : World) (h1 : 1 ≤ n) (h2 : n ≤ 1000000) :
    Calls Try.prog 96 #[.slice none 0 0, .int .i64 (n : Int)] w fun e w' => ∃ G, e = .returned (.slice (some ⟨w.heap.size, 0, none⟩) 0 G) ∧ Row 76 2 w' w.heap.size (w.heap.size + 1) (.slice (some ⟨w.heap.size, 0, none⟩) 0 G) 0 [] ∧ Below w.heap.size w w' := by
  obtain ⟨i, hi1, hi2, hi3, hi4⟩ := info_parts info_GearPair
  have hold : (Builtin.firstCells i.size 0 (.slice none 0 0)).run Try.prog w.drew = .ok (([] : List Value).toArray) w.drew := run_firstCells_none w.drew i.size 0 0 0
  have hrun : ∀ ty, (Builtin.append_ #[24, 3] ty #[.slice none 0 0, .int .i64 (n : Int)]).run Try.prog w = .ok (.slice (some ⟨w.heap.size, 0, none⟩) (0 + n) (grownCap w (0 + n) 0 76))
      (w.drew.alloc (.cells (([] : List Value).toArray ++ Builtin.zeroCells (Value.agg #[.int .i64 0, .int .i64 0]).cells n ++ Builtin.zeroCells (Value.agg #[.int .i64 0, .int .i64 0]).cells (grownCap w (0 + n) 0 76 - (0 + n))) 76)) := fun ty =>
    Lib.run_append_grow_zeros w 24 3 ty 76 i (.agg #[.int .i64 0, .int .i64 0]) .i64 .i64 Try.underlying24 Try.underlying3 hi1 hi2 none 0 0 [] hold n (by omega) (by omega) (by omega) (by omega) (by rw [hi4]; omega)
      (growslice_fits (by omega) (by rw [hi4]; omega))
  obtain ⟨G, hG⟩ : ∃ G, G = grownCap w (0 + n) 0 76 := ⟨_, rfl⟩
  have hGn : n ≤ G := by rw [hG]; have := grownCap_ge w (0 + n) 0 76; omega
  have hGm : G ≤ maxLen := by rw [hG]; exact grownCap_le_maxLen w (0 + n) 0 76 (by unfold maxLen; omega)
  rw [← hG] at hrun
  obtain ⟨Z, hZ⟩ : ∃ Z, Z = ([] : List Value).toArray ++ Builtin.zeroCells (Value.agg #[.int .i64 0, .int .i64 0]).cells n ++ Builtin.zeroCells (Value.agg #[.int .i64 0, .int .i64 0]).cells (G - (0 + n)) := ⟨_, rfl⟩
  have hZs : Z.size = G * 2 := by
    rw [hZ]
    simp only [Array.size_append, size_zeroCells]
    simp [Value.cells]
    omega
  rw [← hZ] at hrun
  have hv1 : IntKind.i64.wrap ((0 : Int) - 0) = 0 := by decide
  have hv2 : IntKind.i64.wrap ((n : Int) - 0) = (n : Int) := IntWalk.i64_in _ (by omega)
  have hG63 : G ≤ 9223372036854775807 := by unfold maxLen at hGm; omega
  rw [Nat.zero_add] at hrun
  clear hG hZ hold
  go_enter Try.func96, Try.ntmps96
  go_wp2_with (at_builtin; refine Lib.wpList_append_run _ rfl _ _ _ _ rfl _ _ rfl rfl _ _ (hrun _) ?_)
  go_ret
  refine ⟨G, rfl, ⟨⟨rfl, .inr ⟨w.heap.size, G, Z, rfl, Nat.le_refl _, ?_, by omega, hGm, hZs, by simp⟩⟩, fun k hk => by simp [Value.ownBlock] at hk; omega⟩, (by repeat (first | exact Below.refl _ _ | refine Below.setCell ?_ (by first | omega | (simp <;> omega)) _ | refine Below.alloc ?_ (by first | omega | (simp <;> omega)) _ | refine Below.drew ?_))⟩
  exact heap_alloc_new w.drew _

set_option maxHeartbeats 4000000 in
theorem concat_any (g cp : Nat) (a : Option Addr) (c : Nat) (xs : List (Int × Int)) (b : Option Addr) (d : Nat) (ys : List (Int × Int)) (w : World) (ha : RdF pairF w a xs) (hb : RdF pairF w b ys) (hx0 : 1 ≤ xs.length) (hy0 : 1 ≤ ys.length) (hx : xs.length ≤ 1000) (hy : ys.length ≤ 1000)
    (h0 : w.cell? ⟨g, 0, none⟩ = some (.slice a xs.length c)) (h1 : w.cell? ⟨g, 1, none⟩ = some (.slice b ys.length d)) :
    Calls Try.prog 63 #[.slice (some ⟨g, 0, none⟩) 2 cp] w fun e w' => ∃ A C, e = .returned (.slice A (xs.length + ys.length) C) ∧ OwnF pairF 76 w' w.heap.size w'.heap.size (.slice A (xs.length + ys.length) C) (xs ++ ys) ∧ Below w.heap.size w w' := by
  obtain ⟨b1, o1, rfl, _⟩ := ha.cells (by rintro rfl; simp at hx0)
  obtain ⟨b2, o2, rfl, _⟩ := hb.cells (by rintro rfl; simp at hy0)
  go_enter Try.func63, Try.ntmps63
  have hg := World.block_lt_of_cell? _ _ h0
  simp only at hg
  go_wp2
  go_loop [3, 5, 11] (fun s _ i => (i = .int .i64 0 ∧ s = .int .i64 0) ∨ (i = .int .i64 1 ∧ s = .int .i64 (xs.length : Int)) ∨ (i = .int .i64 2 ∧ s = .int .i64 ((xs.length : Int) + (ys.length : Int)))) (fun _ _ i => 2 - (intOf i).toNat)
  case atStart => exact .inl ⟨rfl, rfl⟩
  case round =>
    rcases hrel with ⟨rfl, rfl⟩ | ⟨rfl, rfl⟩ | ⟨rfl, rfl⟩
    · have hv : IntKind.i64.wrap (0 + (xs.length : Int)) = (xs.length : Int) := (fits_int _ (by omega) (by omega)).trans (by omega)
      have hn : ¬ ((xs.length : Int) < 0) := by omega
      go_wp2
      go_round
      case rel => exact .inr (.inl ⟨rfl, by go_num⟩)
      case measure => (simp [intOf])
    · have hv : IntKind.i64.wrap ((xs.length : Int) + (ys.length : Int)) = (xs.length : Int) + (ys.length : Int) := fits_int _ (by omega) (by omega)
      have hn : ¬ ((xs.length : Int) + (ys.length : Int) < 0) := by omega
      go_wp2
      go_round
      case rel => exact .inr (.inr ⟨rfl, rfl⟩)
      case measure => (simp [intOf])
    · have HG := Lib.hid (fun v => grow_any (xs.length + ys.length) v (by omega) (by omega))
      rw [show ((xs.length + ys.length : Nat) : Int) = (xs.length : Int) + (ys.length : Int) by omega] at HG
      go_wp2_with fail
      refine (HG.out w).mono ?_
      rintro e w1 ⟨G, rfl, row0, hb1⟩
      have k0 := kept hb1 h0
      have k1 := kept hb1 h1
      have hs1 := hb1.size
      have hgl := row0.lo_le (k := w.heap.size) rfl
      clear HG
      go_wp2
      go_loopw [6, 8, 27] (fun t _ i wr => ∃ A C, ((i = .int .i64 0 ∧ t = .slice A 0 C ∧ Row 76 2 wr w.heap.size wr.heap.size (.slice A 0 C) 0 []) ∨ (i = .int .i64 1 ∧ t = .slice A xs.length C ∧ Row 76 2 wr w.heap.size wr.heap.size (.slice A xs.length C) xs.length (flat pairF xs)) ∨
        (i = .int .i64 2 ∧ t = .slice A (xs.length + ys.length) C ∧ Row 76 2 wr w.heap.size wr.heap.size (.slice A (xs.length + ys.length) C) (xs.length + ys.length) (flat pairF xs ++ flat pairF ys))) ∧ Below w.heap.size w wr) (fun _ _ i _ => 2 - (intOf i).toNat)
      case atStart => exact ⟨_, _, .inl ⟨rfl, rfl, row0.wide (Nat.le_refl _) (by omega)⟩, hb1⟩
      case round =>
        clear row0 k0 k1 hb1 hgl
        obtain ⟨A, C, hrel, hbr⟩ := hrel
        have k0 := kept hbr h0
        have k1 := kept hbr h1
        have hsr := hbr.size
        rcases hrel with ⟨rfl, rfl, row⟩ | ⟨rfl, rfl, row⟩ | ⟨rfl, rfl, row⟩
        · have new1 := (ha.below hbr).news
          go_wp2_with (at_builtin; refine wpList_appR rfl (.tmp 31) (.tmp 32) 24 76 rfl (.agg #[.int .i64 0, .int .i64 0]) 2 16 Try.underlying24 info_GearPair rfl (by omega) (by omega) rfl row ⟨b1, o1, none⟩ xs.length c (flat pairF xs) rfl (flat_len xs) new1 flat_mem (by omega) hsr ?_; intro A' C' w4 row1 ht4)
          go_roundw
          case rel => exact ⟨A', C', .inr (.inl ⟨rfl, by simp, by simpa using row1⟩), hbr.trans (ht4.below (Nat.le_refl _) hsr)⟩
          case measure => (simp [intOf])
        · have new2 := (hb.below hbr).news
          go_wp2_with (at_builtin; refine wpList_appR rfl (.tmp 31) (.tmp 32) 24 76 rfl (.agg #[.int .i64 0, .int .i64 0]) 2 16 Try.underlying24 info_GearPair rfl (by omega) (by omega) rfl row ⟨b2, o2, none⟩ ys.length d (flat pairF ys) rfl (flat_len ys) new2 flat_mem (by omega) hsr ?_; intro A' C' w4 row1 ht4)
          go_roundw
          case rel => exact ⟨A', C', .inr (.inr ⟨rfl, rfl, row1⟩), hbr.trans (ht4.below (Nat.le_refl _) hsr)⟩
          case measure => (simp [intOf])
        · go_wp2
          go_ret
          exact ⟨A, C, rfl, ownF_of_row (by rw [flat_append]; exact row) (by simp) (by simp; omega), hbr⟩

set_option maxHeartbeats 4000000 in
theorem implJoinTrains (a : Option Addr) (c : Nat) (xs : List (Int × Int)) (b : Option Addr) (d : Nat) (ys : List (Int × Int)) (w : World) (ha : RdF pairF w a xs) (hz : All2 xs) (hb : RdF pairF w b ys) (hz' : All2 ys) :
    Calls Try.prog 21 #[.slice a xs.length c, .slice b ys.length d] w (PaC (joinR xs ys) w) := by
  have hx := ha.len
  have hy := hb.len
  cases h1 : trainB xs with
  | false =>
    have HR := Lib.hid (joinR_bad (xs := xs) (ys := ys) (.inl h1))
    have HV := Lib.hid (implValidTrain_at a c xs w h1 ha hz)
    clear h1
    go_enter Try.func21, Try.ntmps21
    go_wp2_with (go_at_call 37; refine HV.out.mono ?_; rintro e w1 ⟨rfl, hb1⟩)
    exact bodyPost_ret (v := .tuple #[.slice none 0 0, .int .i64 1]) (by simp [results, Try.results21, go_sem]) rfl (paC_err HR.out rfl hb1)
  | true =>
    have HV := Lib.hid (implValidTrain_at a c xs w h1 ha hz)
    cases h2 : trainB ys with
    | false =>
      have HR := Lib.hid (joinR_bad (xs := xs) (ys := ys) (.inr h2))
      have HU := Lib.hid (fun v hv => implValidTrain_at b d ys v h2 (hb.below hv) hz')
      clear h1 h2
      go_enter Try.func21, Try.ntmps21
      go_wp2_with (go_at_call 37; first | (with_reducible refine HV.out.mono ?_; rintro e w1 ⟨rfl, hb1⟩) | (with_reducible refine (HU.out _ hb1).mono ?_; rintro e w2 ⟨rfl, hb2⟩))
      exact bodyPost_ret (v := .tuple #[.slice none 0 0, .int .i64 1]) (by simp [results, Try.results21, go_sem]) rfl (paC_err HR.out rfl (hb1.trans (hb2.mono hb1.size)))
    | true =>
      have HU := Lib.hid (fun v hv => implValidTrain_at b d ys v h2 (hb.below hv) hz')
      have hv1 : IntKind.i64.wrap ((xs.length : Int) + (ys.length : Int)) = (xs.length : Int) + (ys.length : Int) := fits_int _ (by omega) (by omega)
      by_cases hl : xs.length + ys.length ≤ 6
      · have HR := Lib.hid (joinR_ok h1 h2 hl)
        have n0 := (train_of h1).n0
        have m0 := (train_of h2).n0
        have hl' : ¬ ((6 : Int) < (xs.length : Int) + (ys.length : Int)) := by omega
        have hd : decide ((xs.length : Int) + (ys.length : Int) > 6) = false := decide_eq_false (by omega)
        clear h1 h2
        go_enter Try.func21, Try.ntmps21
        go_wp2_with (go_at_call 37; first | (with_reducible refine HV.out.mono ?_; rintro e w1 ⟨rfl, hb1⟩) | (with_reducible refine (HU.out _ hb1).mono ?_; rintro e w2 ⟨rfl, hb2⟩))
        have hb3 := hb1.trans (hb2.mono hb1.size)
        have hs3 := hb3.size
        obtain ⟨u, hu⟩ : ∃ u, u = w2.alloc (.cells #[.slice a xs.length c, .slice b ys.length d] 24) := ⟨_, rfl⟩
        rw [← hu]
        have bu : Bx u w2.heap.size 24 #[.slice a xs.length c, .slice b ys.length d] := by rw [hu]; exact Bx.new _ _ _
        have hbu : Below w2.heap.size w2 u := by rw [hu]; exact (by repeat (first | exact Below.refl _ _ | refine Below.setCell ?_ (by first | omega | (simp <;> omega)) _ | refine Below.alloc ?_ (by first | omega | (simp <;> omega)) _ | refine Below.drew ?_))
        clear hu
        have hb4 := hb3.trans (hbu.mono hs3)
        refine (concat_any w2.heap.size 2 a c xs b d ys u (ha.below hb4) (hb.below hb4) n0 m0 (by omega) (by omega) (bu.at_ 0 rfl) (bu.at_ 1 rfl)).mono ?_
        rintro e w5 ⟨A, C, rfl, ow, hb5⟩
        go_wp2
        exact bodyPost_ret (v := .tuple #[.slice A (xs.length + ys.length) C, .int .i64 0]) (by simp [results, Try.results21, go_sem]) rfl (paC_ok HR.out (by simp) rfl ow hb4.size (Nat.le_refl _) (hb4.trans (hb5.mono hb4.size)))
      · have HR := Lib.hid (joinR_full h1 h2 hl)
        have hl' : (6 : Int) < (xs.length : Int) + (ys.length : Int) := by omega
        have hd : decide ((xs.length : Int) + (ys.length : Int) > 6) = true := decide_eq_true (by omega)
        clear h1 h2
        go_enter Try.func21, Try.ntmps21
        go_wp2_with (go_at_call 37; first | (with_reducible refine HV.out.mono ?_; rintro e w1 ⟨rfl, hb1⟩) | (with_reducible refine (HU.out _ hb1).mono ?_; rintro e w2 ⟨rfl, hb2⟩))
        exact bodyPost_ret (v := .tuple #[.slice none 0 0, .int .i64 5]) (by simp [results, Try.results21, go_sem]) rfl (paC_err HR.out rfl (hb1.trans (hb2.mono hb1.size)))
end Go.Proofs.Ytaefgkhbgljkoaa
