/-
  laws.FnSignals returns true at every input (no condition), and leaves its arguments as they were.
-/
import Derived.Test.YtcfpfhlgcfmioaaBytes
import Derived.Test.YtcfpfhlgcfmioaaSigD
import Derived.Test.YtcfpfhlgcfmioaaCtI
import Derived.Test.YtcfpfhlgcfmioaaBoxSig
import Derived.Test.YtcfpfhlgcfmioaaFacts
import Derived.Test.YtcfpfhlgcfmioaaRows
namespace Go.Proofs.Ytcfpfhlgcfmioaa.lawFnSignals
open Go.ChangeShapes Go.WideShapes Go.ChangeAt Go.WideElems Go.RowKit Go.Joins
open Go.ChangeMaps (open_string shut_string)

theorem boxSig_open {W wx : World} {x : Bool × Bool} {s : Value} (h : BoxSig W x s wx) : ∃ g, s = .pointer (some ⟨g, 0, none⟩) ∧ wx.cell? ⟨g, 0, none⟩ = some (.bool x.1) ∧ wx.cell? ⟨g, 1, none⟩ = some (.bool x.2) ∧ Below W.heap.size W wx := by
  obtain ⟨g, h1, h2, h3, _, _, h4⟩ := h
  exact ⟨g, h1, h2, h3, h4⟩

set_option maxRecDepth 100000 in
set_option maxHeartbeats 8000000 in
theorem law_walk (xA : Option Addr) (xC : Nat) (xZ : List Int) (yA : Option Addr) (yC : Nat) (yZ : List Int) (w : World) (hx : RawU w xA xZ) (hy : RawU w yA yZ) :
    Calls Try.prog 4 #[.slice xA xZ.length xC, .slice yA yZ.length yC] w fun e w' => e = .returned (.bool true) ∧ Below w.heap.size w w' := by
  have hbel : Below w.heap.size w w := Below.refl _ _
  go_enter Try.func4, Try.ntmps4
  go_wp2_with fail
  refine (a2Long_any xA yA xZ.length yZ.length xC yC w).mono ?_
  rintro e w1 ⟨rfl, hq⟩
  subst w1
  by_cases hl : 3000 < xZ.length ∨ 3000 < yZ.length
  · rw [decide_eq_true hl]
    clear hl
    go_wp2
    go_ret
    exact ⟨rfl, hbel⟩
  · rw [decide_eq_false hl]
    replace hx := hx.rd (by omega)
    replace hy := hy.rd (by omega)
    clear hl
    go_wp2_with fail
    refine (a2Signals_any xA xZ xC w hx).mono ?_
    rintro e w1 ⟨x, y, z, rfl, hb⟩
    replace hy := hy.below hb
    replace hbel := hbel.trans (hb.mono hbel.size)
    clear hb hx
    go_upto_region 4 with fail
    obtain ⟨g, hg⟩ : ∃ g, g = w1.heap.size := ⟨_, rfl⟩
    obtain ⟨V, hV⟩ : ∃ V, V = ((w1.alloc (.cells #[.bool x.1, .bool x.2] 51)).alloc (.cells #[.bool y.1, .bool y.2] 51)).alloc (.cells #[.bool z.1, .bool z.2] 51) := ⟨_, rfl⟩
    have b5 : Bx V g 51 #[.bool x.1, .bool x.2] := by rw [hV, hg]; exact ((Bx.new _ _ _).alloc _).alloc _
    have b6 : Bx V (g + 1) 51 #[.bool y.1, .bool y.2] := by rw [hV, hg]; simpa using (Bx.new (w1.alloc (.cells #[.bool x.1, .bool x.2] 51)) #[.bool y.1, .bool y.2] 51).alloc (.cells #[.bool z.1, .bool z.2] 51)
    have b7 : Bx V (g + 1 + 1) 51 #[.bool z.1, .bool z.2] := by rw [hV, hg]; simpa using Bx.new ((w1.alloc (.cells #[.bool x.1, .bool x.2] 51)).alloc (.cells #[.bool y.1, .bool y.2] 51)) #[.bool z.1, .bool z.2] 51
    have hb : Below w1.heap.size w1 V := by rw [hV]; exact (by repeat (first | exact Below.refl _ _ | refine Below.setCell ?_ (by first | omega | (simp <;> omega)) _ | refine Below.alloc ?_ (by first | omega | (simp <;> omega)) _ | refine Below.drew ?_))
    rw [← hg, ← hV]
    clear hV hg
    replace hy := hy.below hb
    replace hbel := hbel.trans (hb.mono hbel.size)
    clear hb
    go_cut [8] from 19 (fun sl wx => BoxSig V (jn (jn x y) z) sl wx)
    case first =>
      have rb50 := kept_all (b5.at_ 0 rfl)
      have rb51 := kept_all (b5.at_ 1 rfl)
      have rb60 := kept_all (b6.at_ 0 rfl)
      have rb61 := kept_all (b6.at_ 1 rfl)
      have rb70 := kept_all (b7.at_ 0 rfl)
      have rb71 := kept_all (b7.at_ 1 rfl)
      refine wp_region_marked (fun w' => Below V.heap.size V w') 6 (by kernel_rfl) ?_
      have hS : Below V.heap.size V V.drew := (Below.refl _ _).drew
      refine wpAnyM_takeC (i := 0) (v := ?_) 20 rfl (by kernel_rfl) (by kernel_rfl) (by kernel_rfl) (by kernel_rfl) (by kernel_rfl) (by kernel_rfl) (fun _ _ _ h => h) hS (.inl ⟨by rfl, ?_⟩) ?_
      rotate_left 1
      · intro w' hS'; go_simp; try with_reducible rfl
      simp only [Act.put, List.setIfInBounds_toArray]
      refine wpAnyM_takeC (i := 1) (v := ?_) 20 rfl (by kernel_rfl) (by kernel_rfl) (by kernel_rfl) (by kernel_rfl) (by kernel_rfl) (by kernel_rfl) (fun _ _ _ h => h) hS (.inl ⟨by rfl, ?_⟩) ?_
      rotate_left 1
      · intro w' hS'; go_simp; try with_reducible rfl
      simp only [Act.put]
      refine wpAnyM_takeC (i := 3) (v := ?_) 20 rfl (by kernel_rfl) (by kernel_rfl) (by kernel_rfl) (by kernel_rfl) (by kernel_rfl) (by kernel_rfl) (fun _ _ _ h => h) hS (.inl ⟨by rfl, ?_⟩) ?_
      rotate_left 1
      · intro w' hS'; go_simp; try with_reducible rfl
      simp only [Act.put]
      clear rb50 rb51 rb60 rb61 rb70 rb71
      refine wpAnyM_two (i := 2) (j := 5) (by kernel_rfl) rfl rfl (by rfl) (by rfl) (fun K hK => ?_) (fun K hK => ?_)
      · skip
        go_simp
        refine (implJoinSignals x y V.drew).mono ?_
        rintro e w1 ⟨rfl, hb⟩
        have h1 : Below V.heap.size V w1 := hS.trans (hb.mono hS.size)
        refine hK _ _ (.inr h1) ?_
        try simp only [Act.put, List.setIfInBounds_toArray]
        clear hK K
        refine wpAnyM_two (i := 4) (j := 5) (by kernel_rfl) rfl rfl (by rfl) (by rfl) (fun K hK => ?_) (fun K hK => ?_)
        · skip
          clear hb
          go_simp
          refine (implJoinSignals (jn x y) z w1).mono ?_
          rintro e w2 ⟨rfl, hb⟩
          have h2 : Below V.heap.size V w2 := h1.trans (hb.mono h1.size)
          refine hK _ _ (.inr h2) ?_
          try simp only [Act.put, List.setIfInBounds_toArray]
          clear hK K
          refine wpAnyM_one (i := 5) (by kernel_rfl) rfl (by rfl) (fun K hK => ?_)
          go_simp
          have h3 : Below V.heap.size V (w2.alloc (.cells #[.bool false, .bool false] 51)) := h2.alloc h2.size _
          refine hK _ _ (.inr h3) ?_
          try simp only [Act.put, List.setIfInBounds_toArray]
          clear hK K
          refine wpAnyM_one (i := 6) (by kernel_rfl) rfl (by rfl) (fun K hK => ?_)
          go_simp
          refine hK _ _ (.inl rfl) ?_
          try simp only [Act.put, List.setIfInBounds_toArray]
          clear hK K
          refine wpAnyM_done (by kernel_rfl) ?_ _
          go_wp2_with fail
          go_meet
          case rel => exact boxSig_after h1 hb
        · skip
          go_simp
          have bz := Bx.new w1 #[.bool false, .bool false] 51
          obtain ⟨G, hG⟩ : ∃ G, G = w1.heap.size := ⟨_, rfl⟩
          obtain ⟨v1, hv1⟩ : ∃ v, v = w1.alloc (.cells #[.bool false, .bool false] 51) := ⟨_, rfl⟩
          rw [← hG, ← hv1] at bz
          rw [← hG, ← hv1]
          have h2 : Below V.heap.size V v1 := by rw [hv1]; exact h1.alloc h1.size _
          have bg : Hid (V.heap.size ≤ G) := Lib.hid (by rw [hG]; exact h1.size)
          have bh := Lib.hid bz.lt
          clear hG hv1 hb
          refine hK _ _ (.inr h2) ?_
          try simp only [Act.put, List.setIfInBounds_toArray]
          clear hK K
          refine wpAnyM_one (i := 4) (by kernel_rfl) rfl (by rfl) (fun K hK => ?_)
          go_simp
          refine (implJoinSignals (jn x y) z v1).mono ?_
          rintro e w2 ⟨rfl, hb⟩
          have h3 : Below V.heap.size V w2 := h2.trans (hb.mono h2.size)
          replace bz := bz.below hb
          have z0 := bz.at_ 0 rfl
          have z1 := bz.at_ 1 rfl
          have y0 := bz.thaw 0
          have y1 := bz.thaw 1
          refine hK _ _ (.inr h3) ?_
          try simp only [Act.put, List.setIfInBounds_toArray]
          clear hK K
          refine wpAnyM_one (i := 6) (by kernel_rfl) rfl (by rfl) (fun K hK => ?_)
          go_simp
          refine hK _ _ (.inl rfl) ?_
          try simp only [Act.put, List.setIfInBounds_toArray]
          clear hK K
          refine wpAnyM_done (by kernel_rfl) ?_ _
          go_wp2_with fail
          go_meet
          case rel => exact boxSig_before h2 hb bz bg bh
      · skip
        go_simp
        obtain ⟨G, hG⟩ : ∃ G, G = V.heap.size := ⟨_, rfl⟩
        obtain ⟨v1, hv1⟩ : ∃ v, v = (V.alloc (.cells #[.bool false, .bool false] 51)).drew := ⟨_, rfl⟩
        have bz : Bx v1 G 51 #[.bool false, .bool false] := by rw [hv1, hG]; exact (Bx.new _ _ _).drew
        have h2 : Below V.heap.size V v1 := by rw [hv1]; exact ((Below.refl _ _).alloc (Nat.le_refl _) _).drew
        rw [← hG, ← hv1]
        have bg : Hid (V.heap.size ≤ G) := Lib.hid (by omega)
        clear hG hv1 hS
        refine hK _ _ (.inr h2) ?_
        try simp only [Act.put, List.setIfInBounds_toArray]
        clear hK K
        refine wpAnyM_one (i := 2) (by kernel_rfl) rfl (by rfl) (fun K hK => ?_)
        go_simp
        refine (implJoinSignals x y v1).mono ?_
        rintro e w1 ⟨rfl, hb⟩
        have h3 : Below V.heap.size V w1 := h2.trans (hb.mono h2.size)
        replace bz := bz.below hb
        have bh := Lib.hid bz.lt
        refine hK _ _ (.inr h3) ?_
        try simp only [Act.put, List.setIfInBounds_toArray]
        clear hK K
        clear hb
        refine wpAnyM_one (i := 4) (by kernel_rfl) rfl (by rfl) (fun K hK => ?_)
        go_simp
        refine (implJoinSignals (jn x y) z w1).mono ?_
        rintro e w2 ⟨rfl, hb⟩
        have h4 : Below V.heap.size V w2 := h3.trans (hb.mono h3.size)
        replace bz := bz.below hb
        have z0 := bz.at_ 0 rfl
        have z1 := bz.at_ 1 rfl
        have y0 := bz.thaw 0
        have y1 := bz.thaw 1
        refine hK _ _ (.inr h4) ?_
        try simp only [Act.put, List.setIfInBounds_toArray]
        clear hK K
        refine wpAnyM_one (i := 6) (by kernel_rfl) rfl (by rfl) (fun K hK => ?_)
        go_simp
        refine hK _ _ (.inl rfl) ?_
        try simp only [Act.put, List.setIfInBounds_toArray]
        clear hK K
        refine wpAnyM_done (by kernel_rfl) ?_ _
        go_wp2_with fail
        go_meet
        case rel => exact boxSig_before h3 hb bz bg bh
    case rest =>
    obtain ⟨G8, rfl, c80, c81, hb⟩ := boxSig_open hcut
    obtain ⟨V1, rfl⟩ : ∃ u, u = wc := ⟨_, rfl⟩
    replace b5 := b5.below hb
    replace b6 := b6.below hb
    replace b7 := b7.below hb
    replace hy := hy.below hb
    replace hbel := hbel.trans (hb.mono hbel.size)
    clear hb hcut
    go_upto_region 5 with fail
    go_cut [9] from 19 (fun sl wx => BoxSig V1 (jn x (jn y z)) sl wx)
    case first =>
      have rb50 := kept_all (b5.at_ 0 rfl)
      have rb51 := kept_all (b5.at_ 1 rfl)
      have rb60 := kept_all (b6.at_ 0 rfl)
      have rb61 := kept_all (b6.at_ 1 rfl)
      have rb70 := kept_all (b7.at_ 0 rfl)
      have rb71 := kept_all (b7.at_ 1 rfl)
      refine wp_region_marked (fun w' => Below V1.heap.size V1 w') 6 (by kernel_rfl) ?_
      have hS : Below V1.heap.size V1 V1.drew := (Below.refl _ _).drew
      refine wpAnyM_takeC (i := 0) (v := ?_) 20 rfl (by kernel_rfl) (by kernel_rfl) (by kernel_rfl) (by kernel_rfl) (by kernel_rfl) (by kernel_rfl) (fun _ _ _ h => h) hS (.inl ⟨by rfl, ?_⟩) ?_
      rotate_left 1
      · intro w' hS'; go_simp; try with_reducible rfl
      simp only [Act.put, List.setIfInBounds_toArray]
      refine wpAnyM_takeC (i := 1) (v := ?_) 20 rfl (by kernel_rfl) (by kernel_rfl) (by kernel_rfl) (by kernel_rfl) (by kernel_rfl) (by kernel_rfl) (fun _ _ _ h => h) hS (.inl ⟨by rfl, ?_⟩) ?_
      rotate_left 1
      · intro w' hS'; go_simp; try with_reducible rfl
      simp only [Act.put]
      refine wpAnyM_takeC (i := 2) (v := ?_) 20 rfl (by kernel_rfl) (by kernel_rfl) (by kernel_rfl) (by kernel_rfl) (by kernel_rfl) (by kernel_rfl) (fun _ _ _ h => h) hS (.inl ⟨by rfl, ?_⟩) ?_
      rotate_left 1
      · intro w' hS'; go_simp; try with_reducible rfl
      simp only [Act.put]
      clear rb50 rb51 rb60 rb61 rb70 rb71
      refine wpAnyM_two (i := 3) (j := 5) (by kernel_rfl) rfl rfl (by rfl) (by rfl) (fun K hK => ?_) (fun K hK => ?_)
      · skip
        go_simp
        refine (implJoinSignals y z V1.drew).mono ?_
        rintro e w1 ⟨rfl, hb⟩
        have h1 : Below V1.heap.size V1 w1 := hS.trans (hb.mono hS.size)
        refine hK _ _ (.inr h1) ?_
        try simp only [Act.put, List.setIfInBounds_toArray]
        clear hK K
        refine wpAnyM_two (i := 4) (j := 5) (by kernel_rfl) rfl rfl (by rfl) (by rfl) (fun K hK => ?_) (fun K hK => ?_)
        · skip
          clear hb
          go_simp
          refine (implJoinSignals x (jn y z) w1).mono ?_
          rintro e w2 ⟨rfl, hb⟩
          have h2 : Below V1.heap.size V1 w2 := h1.trans (hb.mono h1.size)
          refine hK _ _ (.inr h2) ?_
          try simp only [Act.put, List.setIfInBounds_toArray]
          clear hK K
          refine wpAnyM_one (i := 5) (by kernel_rfl) rfl (by rfl) (fun K hK => ?_)
          go_simp
          have h3 : Below V1.heap.size V1 (w2.alloc (.cells #[.bool false, .bool false] 51)) := h2.alloc h2.size _
          refine hK _ _ (.inr h3) ?_
          try simp only [Act.put, List.setIfInBounds_toArray]
          clear hK K
          refine wpAnyM_one (i := 6) (by kernel_rfl) rfl (by rfl) (fun K hK => ?_)
          go_simp
          refine hK _ _ (.inl rfl) ?_
          try simp only [Act.put, List.setIfInBounds_toArray]
          clear hK K
          refine wpAnyM_done (by kernel_rfl) ?_ _
          go_wp2_with fail
          go_meet
          case rel => exact boxSig_after h1 hb
        · skip
          go_simp
          have bz := Bx.new w1 #[.bool false, .bool false] 51
          obtain ⟨G, hG⟩ : ∃ G, G = w1.heap.size := ⟨_, rfl⟩
          obtain ⟨v1, hv1⟩ : ∃ v, v = w1.alloc (.cells #[.bool false, .bool false] 51) := ⟨_, rfl⟩
          rw [← hG, ← hv1] at bz
          rw [← hG, ← hv1]
          have h2 : Below V1.heap.size V1 v1 := by rw [hv1]; exact h1.alloc h1.size _
          have bg : Hid (V1.heap.size ≤ G) := Lib.hid (by rw [hG]; exact h1.size)
          have bh := Lib.hid bz.lt
          clear hG hv1 hb
          refine hK _ _ (.inr h2) ?_
          try simp only [Act.put, List.setIfInBounds_toArray]
          clear hK K
          refine wpAnyM_one (i := 4) (by kernel_rfl) rfl (by rfl) (fun K hK => ?_)
          go_simp
          refine (implJoinSignals x (jn y z) v1).mono ?_
          rintro e w2 ⟨rfl, hb⟩
          have h3 : Below V1.heap.size V1 w2 := h2.trans (hb.mono h2.size)
          replace bz := bz.below hb
          have z0 := bz.at_ 0 rfl
          have z1 := bz.at_ 1 rfl
          have y0 := bz.thaw 0
          have y1 := bz.thaw 1
          refine hK _ _ (.inr h3) ?_
          try simp only [Act.put, List.setIfInBounds_toArray]
          clear hK K
          refine wpAnyM_one (i := 6) (by kernel_rfl) rfl (by rfl) (fun K hK => ?_)
          go_simp
          refine hK _ _ (.inl rfl) ?_
          try simp only [Act.put, List.setIfInBounds_toArray]
          clear hK K
          refine wpAnyM_done (by kernel_rfl) ?_ _
          go_wp2_with fail
          go_meet
          case rel => exact boxSig_before h2 hb bz bg bh
      · skip
        go_simp
        obtain ⟨G, hG⟩ : ∃ G, G = V1.heap.size := ⟨_, rfl⟩
        obtain ⟨v1, hv1⟩ : ∃ v, v = (V1.alloc (.cells #[.bool false, .bool false] 51)).drew := ⟨_, rfl⟩
        have bz : Bx v1 G 51 #[.bool false, .bool false] := by rw [hv1, hG]; exact (Bx.new _ _ _).drew
        have h2 : Below V1.heap.size V1 v1 := by rw [hv1]; exact ((Below.refl _ _).alloc (Nat.le_refl _) _).drew
        rw [← hG, ← hv1]
        have bg : Hid (V1.heap.size ≤ G) := Lib.hid (by omega)
        clear hG hv1 hS
        refine hK _ _ (.inr h2) ?_
        try simp only [Act.put, List.setIfInBounds_toArray]
        clear hK K
        refine wpAnyM_one (i := 3) (by kernel_rfl) rfl (by rfl) (fun K hK => ?_)
        go_simp
        refine (implJoinSignals y z v1).mono ?_
        rintro e w1 ⟨rfl, hb⟩
        have h3 : Below V1.heap.size V1 w1 := h2.trans (hb.mono h2.size)
        replace bz := bz.below hb
        have bh := Lib.hid bz.lt
        refine hK _ _ (.inr h3) ?_
        try simp only [Act.put, List.setIfInBounds_toArray]
        clear hK K
        clear hb
        refine wpAnyM_one (i := 4) (by kernel_rfl) rfl (by rfl) (fun K hK => ?_)
        go_simp
        refine (implJoinSignals x (jn y z) w1).mono ?_
        rintro e w2 ⟨rfl, hb⟩
        have h4 : Below V1.heap.size V1 w2 := h3.trans (hb.mono h3.size)
        replace bz := bz.below hb
        have z0 := bz.at_ 0 rfl
        have z1 := bz.at_ 1 rfl
        have y0 := bz.thaw 0
        have y1 := bz.thaw 1
        refine hK _ _ (.inr h4) ?_
        try simp only [Act.put, List.setIfInBounds_toArray]
        clear hK K
        refine wpAnyM_one (i := 6) (by kernel_rfl) rfl (by rfl) (fun K hK => ?_)
        go_simp
        refine hK _ _ (.inl rfl) ?_
        try simp only [Act.put, List.setIfInBounds_toArray]
        clear hK K
        refine wpAnyM_done (by kernel_rfl) ?_ _
        go_wp2_with fail
        go_meet
        case rel => exact boxSig_before h3 hb bz bg bh
    case rest =>
    obtain ⟨G9, rfl, c90, c91, hb⟩ := boxSig_open hcut
    obtain ⟨V2, rfl⟩ : ∃ u, u = wc := ⟨_, rfl⟩
    replace b5 := b5.below hb
    replace b6 := b6.below hb
    replace b7 := b7.below hb
    replace c80 := kept hb c80
    replace c81 := kept hb c81
    replace hy := hy.below hb
    replace hbel := hbel.trans (hb.mono hbel.size)
    clear hb hcut
    rw [← jn_assoc] at c90 c91
    go_wp2_with fail
    refine (a2At_any yA yZ yC 0 2 V2 hy (by omega) (by omega) (by omega)).mono ?_
    rintro e V3 ⟨c, rfl, c0, c1, hq⟩
    have hb := hq
    replace b5 := b5.below hb
    replace b6 := b6.below hb
    replace b7 := b7.below hb
    replace c80 := kept hb c80
    replace c81 := kept hb c81
    replace c90 := kept hb c90
    replace c91 := kept hb c91
    replace hbel := hbel.trans (hb.mono hbel.size)
    clear hb hq hy
    have hcI : I64 c := i64_of (by omega) (by omega)
    have HC := Lib.hid (inB_yes c0 (show c ≤ 1 by omega))
    have x0 := b5.at_ 0 rfl
    have x1 := b5.at_ 1 rfl
    go_wp2_with fail
    refine (implCarryThrough x c V3 hcI).mono ?_
    rw [ctR_in HC.out]
    rintro e V4 ⟨rfl, hb⟩
    have ha := thr_bd x c
    obtain ⟨a, hae⟩ : ∃ a, a = thr x c := ⟨_, rfl⟩
    rw [← hae] at ha ⊢
    have HA := Lib.hid hae
    clear hae x0 x1
    replace b5 := b5.below hb
    replace b6 := b6.below hb
    replace b7 := b7.below hb
    replace c80 := kept hb c80
    replace c81 := kept hb c81
    replace c90 := kept hb c90
    replace c91 := kept hb c91
    replace hbel := hbel.trans (hb.mono hbel.size)
    clear hb
    obtain ⟨l, hl⟩ : ∃ l, l = jn (jn x y) z := ⟨_, rfl⟩
    rw [← hl] at c80 c81 c90 c91
    have HL := Lib.hid hl
    clear hl
    have a0 : ¬ a < 0 := by omega
    have a1 : ¬ 1 < a := by omega
    have hne0 : (l.1 != l.1) = false := by simp
    have hne1 : (l.2 != l.2) = false := by simp
    have y0 := b6.at_ 0 rfl
    have y1 := b6.at_ 1 rfl
    have haI : I64 a := i64_of (by omega) (by omega)
    have HC2 := Lib.hid (inB_yes ha.1 ha.2)
    go_wp2_with fail
    clear c90 c91 hne0 hne1 y0 y1
    refine (implCarryThrough y a V4 haI).mono ?_
    rw [ctR_in HC2.out]
    rintro e V5 ⟨rfl, hb⟩
    obtain ⟨b, hbe⟩ : ∃ b, b = thr y a := ⟨_, rfl⟩
    rw [← hbe]
    have HB := Lib.hid hbe
    clear hbe
    replace b5 := b5.below hb
    replace b6 := b6.below hb
    replace b7 := b7.below hb
    replace c80 := kept hb c80
    replace c81 := kept hb c81
    replace hbel := hbel.trans (hb.mono hbel.size)
    clear hb
    have x0 := b5.at_ 0 rfl
    have x1 := b5.at_ 1 rfl
    have y0 := b6.at_ 0 rfl
    have y1 := b6.at_ 1 rfl
    go_wp2_with fail
    clear x0 x1 y0 y1
    refine (implJoinSignals x y V5).mono ?_
    rintro e V6 ⟨rfl, hb⟩
    obtain ⟨m, hm⟩ : ∃ m, m = jn x y := ⟨_, rfl⟩
    rw [← hm]
    have HM := Lib.hid hm
    clear hm
    replace b5 := b5.below hb
    replace b6 := b6.below hb
    replace b7 := b7.below hb
    replace c80 := kept hb c80
    replace c81 := kept hb c81
    replace hbel := hbel.trans (hb.mono hbel.size)
    clear hb
    go_wp2_with fail
    refine (implCarryThrough m c V6 hcI).mono ?_
    rw [ctR_in HC.out]
    rintro e V7 ⟨rfl, hb⟩
    rw [show thr m c = b by rw [HB.out, HA.out, HM.out, thr_jn]]
    replace b5 := b5.below hb
    replace b6 := b6.below hb
    replace b7 := b7.below hb
    replace c80 := kept hb c80
    replace c81 := kept hb c81
    replace hbel := hbel.trans (hb.mono hbel.size)
    clear hb
    have x0 := b5.at_ 0 rfl
    have x1 := b5.at_ 1 rfl
    have y0 := b6.at_ 0 rfl
    have y1 := b6.at_ 1 rfl
    go_wp2_with fail
    clear x0 x1 y0 y1
    refine (specJoinSignals x y V7).mono ?_
    rintro e V8 ⟨rfl, hb⟩
    rw [← HM.out]
    replace b5 := b5.below hb
    replace b6 := b6.below hb
    replace b7 := b7.below hb
    replace c80 := kept hb c80
    replace c81 := kept hb c81
    replace hbel := hbel.trans (hb.mono hbel.size)
    clear hb
    go_wp2_with fail
    refine (specCarryThrough m c V8 hcI).mono ?_
    rw [ctR_in HC.out]
    rintro e V9 ⟨rfl, hb⟩
    rw [show thr m c = b by rw [HB.out, HA.out, HM.out, thr_jn]]
    replace b5 := b5.below hb
    replace b6 := b6.below hb
    replace b7 := b7.below hb
    replace c80 := kept hb c80
    replace c81 := kept hb c81
    replace hbel := hbel.trans (hb.mono hbel.size)
    clear hb
    have SJ := fun v => Lib.hid (specJoinSignals x y v)
    have SJ2 := fun v => Lib.hid (specJoinSignals m z v)
    rw [← HM.out] at SJ HL
    rw [← HL.out] at SJ2
    have x0 := kept_after (b5.at_ 0 rfl)
    have x1 := kept_after (b5.at_ 1 rfl)
    have y0 := kept_after (b6.at_ 0 rfl)
    have y1 := kept_after (b6.at_ 1 rfl)
    have z0 := kept_after (b7.at_ 0 rfl)
    have z1 := kept_after (b7.at_ 1 rfl)
    have c0 := kept_after c80
    have c1 := kept_after c81
    have he0 : (l.1 == l.1) = true := by simp
    have he1 : (l.2 == l.2) = true := by simp
    have hbb : (b == b) = true := by simp
    clear c80 c81
    go_wp2
    refine wp_region_after (by kernel_rfl) (by kernel_rfl) ?_
    repeat (go_big_quiet_step ((go_at_call 37; first | (with_reducible exact calls_after (SJ _).out) | (with_reducible exact calls_after (SJ2 _).out))))
    refine wpQuiet_nil ?_
    intro u
    go_wp2
    go_ret
    exact ⟨rfl, hbel.trans (u.ok.mono hbel.size)⟩

set_option maxRecDepth 100000 in
theorem lifted (os : Os) (started : os.Started) (H : Type) (enc : TypeId × Value → H) :
    ReturnsInHanded {} Try.checked os 4 .any (Rows.fnSignalsSpec.pre6 enc Try.prog Try.f4 Rows.fnSignalsRow.domain false) (Rows.fnSignalsSpec.post enc Try.prog Try.f4 false true false false) := by
  refine returnsInHanded_of_change (C := Try.checked) own_knob started (by kernel_rfl) Try.func4
    (ChangeSpec.witness6 (enc := enc) (C := Try.checked) false ⟨#[], #[.slice none 0 0, .slice none 0 0], []⟩ 8 (by kernel_rfl) (by kernel_rfl) (by kernel_rfl) (by kernel_rfl)) ?_
  intro W base args ds gs before hval0 hW hcnd _
  have hval : ∀ (j : Nat) t v, Try.f4.params[j]? = some t → args[j]? = some v → Value.okWide Try.prog W .any base t v := hval0
  have hW' := hW
  obtain ⟨p, q, hA0, hV, rfl, hfz, hnd⟩ := hW
  have hA : DataW.TrodAll enc Try.prog W 0 (fun _ => true) true Try.f4.params.toList args.toList ds p := hA0
  rw [Try.params4] at hA hval
  obtain ⟨v0, vs0, d0, ds0, p0, q0, hargs, rfl, rfl, h0, r0⟩ := trodAll_cons hA
  obtain ⟨v1, vs1, d1, ds1, p1, q1, rfl, rfl, rfl, h1, r1⟩ := trodAll_cons r0
  obtain ⟨rfl, rfl, rfl⟩ := trodAll_nil r1
  obtain rfl : args = #[v0, v1] := by cases args; simp_all
  obtain ⟨rfl, rfl⟩ := trodVars_none hV
  have k0 := h0
  have lt0 : ∀ x ∈ p0, x.block < W.heap.size := by obtain ⟨m, hm⟩ := k0; exact DataW.trod_lt m _ _ _ hm
  obtain ⟨xA, xC, xZ, rfl, hx⟩ := open_Bytes (hval 0 22 v0 rfl rfl) h0
  have k1 := h1
  have lt1 : ∀ x ∈ p1, x.block < W.heap.size := by obtain ⟨m, hm⟩ := k1; exact DataW.trod_lt m _ _ _ hm
  obtain ⟨yA, yC, yZ, rfl, hy⟩ := open_Bytes (hval 1 22 v1 rfl rfl) h1
  clear hA0 hval0
  refine (law_walk xA xC xZ yA yC yZ W hx hy).mono fun e W' ⟨he, bel⟩ => ?_
  subst he
  exact ⟨_, rfl, _, _, _, [], _, [], hW', trodAll_mk1 (shut_bool Try.underlying4 _), (trodAll_cons_mk (Below.trod laid_out (by kernel_rfl) (of_decide_eq_true (by kernel_rfl)) k0 bel lt0) (trodAll_cons_mk (Below.trod laid_out (by kernel_rfl) (of_decide_eq_true (by kernel_rfl)) k1 bel lt1) trodAll_mk0)), rfl, bel.frame _, fun h => by cases h⟩

set_option maxHeartbeats 20000000 in
theorem closed : joinedFacts Try.prog 4 Try.f4 Rows.fnSignalsSpec Rows.fnSignalsRow = true := by
  simp only [joinedFacts, Bool.and_eq_true]
  refine ⟨⟨⟨⟨⟨⟨⟨⟨⟨⟨⟨⟨⟨⟨⟨⟨⟨⟨⟨⟨⟨⟨⟨⟨⟨⟨⟨⟨⟨⟨⟨?_, laid_out⟩, fact_maps⟩, ?_⟩, ?_⟩, ?_⟩, fact_stops⟩, ?_⟩, fact_knobs⟩, ?_⟩, ?_⟩, ?_⟩, ?_⟩, ?_⟩, ?_⟩, ?_⟩, ?_⟩, ?_⟩, ?_⟩, ?_⟩, ?_⟩, ?_⟩, fact_plain⟩, ?_⟩, fact_heard⟩, fact_enter⟩, fact_lift⟩, ?_⟩, ?_⟩, ?_⟩, ?_⟩, ?_⟩
  all_goals (as_aux_lemma => kernel_rfl)

theorem over : Rows.fnSignalsRow.holds Try.pinned (OpenSpec.ofChange Rows.fnSignalsSpec) :=
  OpenClaim.holds_of_wide 4 Try.f4 rfl rfl rfl rfl rfl rfl rfl ⟨rfl, rfl, rfl, rfl, rfl⟩ rfl rfl rfl rfl rfl (by as_aux_lemma => kernel_rfl) Try.func4 closed
    (of_decide_eq_true (by as_aux_lemma => kernel_rfl)) (by unfold Func.isWrapper; rw [if_neg (by decide +kernel)]; exact ⟨rfl, rfl⟩)
    (fun os started H enc _ => lifted os started H enc)

/-- The statement. -/
theorem proved : Rows.FnSignalsSaid := over
end Go.Proofs.Ytcfpfhlgcfmioaa.lawFnSignals
