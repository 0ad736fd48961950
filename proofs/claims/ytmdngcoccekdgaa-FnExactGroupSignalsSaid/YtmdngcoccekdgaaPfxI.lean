/-
  PrefixSignals: the program's (a generic scan, a part of its results) and the model's.
-/
import Derived.Test.YtmdngcoccekdgaaSigI
import Derived.Test.YtmdngcoccekdgaaDepI
import Derived.Test.YtmdngcoccekdgaaSofI
import Derived.Test.YtmdngcoccekdgaaOrdC
import Derived.Test.YtmdngcoccekdgaaOffS
namespace Go.Proofs.Ytmdngcoccekdgaa
open Go.RowKit

/-- What a function value of the program's gives: the signals joined. -/
theorem scL_succ (xs : List (Bool × Bool)) (k : Nat) : scL xs (k + 1) = scL xs k ++ [scn xs k] := rfl

set_option maxRecDepth 100000 in
set_option maxHeartbeats 4000000 in
theorem scan_any (a : Option Addr) (c : Nat) (xs : List (Bool × Bool)) (w : World) (ha : RdF sigF w a xs) (hl : xs.length ≤ 1000000) :
    Calls Try.prog 140 #[.agg #[.bool false, .bool true], .slice a xs.length c, .func (.func 141) #[] #[]] w fun e w' => ∃ g C, e = .returned (.slice (some ⟨g, 0, none⟩) (xs.length + 1) C) ∧
      OwnF sigF 122 w' w.heap.size w'.heap.size (.slice (some ⟨g, 0, none⟩) (xs.length + 1) C) (scL xs (xs.length + 1)) ∧ Below w.heap.size w w' := by
  have ow0 : OwnF sigF 122 ((w.alloc (.cells #[.bool false, .bool true] 122)).alloc (.cells #[.bool false, .bool true] 122)) w.heap.size ((w.alloc (.cells #[.bool false, .bool true] 122)).alloc (.cells #[.bool false, .bool true] 122)).heap.size (.slice (some ⟨w.heap.size + 1, 0, none⟩) (0 + 1) 1) (scL xs (0 + 1)) := by
    have := ownF_row (F := sigF) (xs := [(false, true)]) (n := 1) (row_new 122 2 (w.alloc (.cells #[.bool false, .bool true] 122)) #[.bool false, .bool true] 1 (by simp) (by omega)) rfl (by simp)
    rw [show (w.alloc (.cells #[.bool false, .bool true] 122)).heap.size = w.heap.size + 1 by simp] at this
    exact this.wide (by omega) (by simp)
  have hb0 : Below w.heap.size w ((w.alloc (.cells #[.bool false, .bool true] 122)).alloc (.cells #[.bool false, .bool true] 122)) := (by repeat (first | exact Below.refl _ _ | refine Below.setCell ?_ (by first | omega | (simp <;> omega)) _ | refine Below.alloc ?_ (by first | omega | (simp <;> omega)) _ | refine Below.drew ?_))
  go_enter Try.func140, Try.ntmps140
  go_wp2_with fail
  go_loopw [7, 8, 9, 14] (fun s _ _ i wr => ∃ (k g C : Nat), k ≤ xs.length ∧ s = .slice (some ⟨g, 0, none⟩) (k + 1) C ∧ i = .int .i64 k ∧
      OwnF sigF 122 wr w.heap.size wr.heap.size (.slice (some ⟨g, 0, none⟩) (k + 1) C) (scL xs (k + 1)) ∧ Below w.heap.size w wr) (fun _ _ _ i _ => xs.length - (intOf i).toNat)
  case atStart => exact ⟨0, _, _, Nat.zero_le _, rfl, rfl, ow0, hb0⟩
  case round =>
    obtain ⟨k, g, C, hk, hs, hi, hown, hb1⟩ := hrel
    subst hs hi
    clear ow0 hb0
    have hsz := hb1.size
    by_cases hlt : k < xs.length
    · obtain ⟨p1, o1, rfl, hc0, hc1⟩ := (ha.below hb1).atS hlt
      have hlen := scL_len xs (k + 1)
      obtain ⟨q0, q1⟩ := hown.getS (k := k) (by omega)
      rw [scL_at xs (Nat.lt_succ_self k)] at q0 q1
      have HS := Lib.hid (show scL xs (k + 1 + 1) = scL xs (k + 1) ++ [jn (scn xs k) (elt sigF xs k)] from rfl)
      obtain ⟨x, hx⟩ : ∃ x, x = elt sigF xs k := ⟨_, rfl⟩
      obtain ⟨y, hy⟩ : ∃ y, y = scn xs k := ⟨_, rfl⟩
      obtain ⟨ms, hms⟩ : ∃ ms, ms = scL xs (k + 1) := ⟨_, rfl⟩
      rw [← hms] at hown HS hlen
      rw [← hx] at hc0 hc1 HS
      rw [← hy] at q0 q1 HS
      have HN := Lib.hid hlen
      clear hms hx hy hlen
      go_upto_region 5 with fail
      obtain ⟨V, hV⟩ : ∃ V, V = wr.alloc (.cells #[.bool x.1, .bool x.2] 122) := ⟨_, rfl⟩
      obtain ⟨b, hb⟩ : ∃ b, b = wr.heap.size := ⟨_, rfl⟩
      have bx : Bx V b 122 #[.bool x.1, .bool x.2] := by rw [hV, hb]; exact Bx.new _ _ _
      have hbV : Below wr.heap.size wr V := by rw [hV]; exact (Below.refl _ _).alloc (Nat.le_refl _) _
      rw [← hV, ← hb]
      have hsb : b < V.heap.size := bx.lt
      have hbW := hb1.trans (hbV.mono hsz)
      have owV := hown.below hbV
      have row0 : Row 122 2 V w.heap.size wr.heap.size (.slice (some ⟨g, 0, none⟩) (k + 1) C) (k + 1) (flat sigF ms) := by have := owV.row; rw [HN.out] at this; exact this
      have hsV := hbV.size
      have k0 := kept_all (kept hbV q0)
      have k1 := kept_all (kept hbV q1)
      have k2 := kept_all (bx.at_ 0 rfl)
      have k3 := kept_all (bx.at_ 1 rfl)
      have hi1 : (0 : Int) ≤ (k : Int) ∧ (k : Int) < (k : Int) + 1 := by omega
      clear hV hb hc0 hc1 q0 q1 bx
      refine wp_region_marked (fun w' => Below V.heap.size V w') 9 (by kernel_rfl) ?_
      have hS : Below V.heap.size V V.drew := (Below.refl _ _).drew
      refine wpAnyM_takeC (i := 0) (v := ?_) 20 rfl (by kernel_rfl) (by kernel_rfl) (by kernel_rfl) (by kernel_rfl) (by kernel_rfl) (by kernel_rfl) (fun _ _ _ h => h) hS (.inl ⟨by rfl, ?_⟩) ?_
      rotate_left 1
      · intro w' hS'; go_simp; try with_reducible rfl
      simp only [Act.put, List.setIfInBounds_toArray]
      refine wpAnyM_takeC (i := 1) (v := ?_) 20 rfl (by kernel_rfl) (by kernel_rfl) (by kernel_rfl) (by kernel_rfl) (by kernel_rfl) (by kernel_rfl) (fun _ _ _ h => h) hS (.inl ⟨by rfl, ?_⟩) ?_
      rotate_left 1
      · intro w' hS'; go_simp; try with_reducible rfl
      simp only [Act.put]
      refine wpAnyM_takeC (i := 2) (v := ?_) 20 rfl (by kernel_rfl) (by kernel_rfl) (by kernel_rfl) (by kernel_rfl) (by kernel_rfl) (by kernel_rfl) (fun _ _ _ h => h) hS (.inl ⟨by rfl, ?_⟩) ?_
      rotate_left 1
      · intro w' hS'; go_simp; try with_reducible rfl
      simp only [Act.put]
      refine wpAnyM_takeC (i := 3) (v := ?_) 20 rfl (by kernel_rfl) (by kernel_rfl) (by kernel_rfl) (by kernel_rfl) (by kernel_rfl) (by kernel_rfl) (fun _ _ _ h => h) hS (.inl ⟨by rfl, ?_⟩) ?_
      rotate_left 1
      · intro w' hS'; go_simp; try with_reducible rfl
      simp only [Act.put]
      refine wpAnyM_takeC (i := 4) (v := ?_) 20 rfl (by kernel_rfl) (by kernel_rfl) (by kernel_rfl) (by kernel_rfl) (by kernel_rfl) (by kernel_rfl) (fun _ _ _ h => h) hS (.inl ⟨by rfl, ?_⟩) ?_
      rotate_left 1
      · intro w' hS'; go_simp; try with_reducible rfl
      simp only [Act.put]
      refine wpAnyM_takeC (i := 5) (v := ?_) 20 rfl (by kernel_rfl) (by kernel_rfl) (by kernel_rfl) (by kernel_rfl) (by kernel_rfl) (by kernel_rfl) (fun _ _ _ h => h) hS (.inl ⟨by rfl, ?_⟩) ?_
      rotate_left 1
      · intro w' hS'; go_simp; try with_reducible rfl
      simp only [Act.put]
      refine wpAnyM_takeC (i := 6) (v := ?_) 20 rfl (by kernel_rfl) (by kernel_rfl) (by kernel_rfl) (by kernel_rfl) (by kernel_rfl) (by kernel_rfl) (fun _ _ _ h => h) hS (.inl ⟨by rfl, ?_⟩) ?_
      rotate_left 1
      · intro w' hS'; go_simp; try with_reducible rfl
      simp only [Act.put]
      clear k0 k1 k2 k3
      refine wpAnyM_one (i := 7) (by kernel_rfl) rfl (by rfl) (fun K hK => ?_)
      go_simp
      refine (joinI_any y x V.drew).mono ?_
      rintro e w1 ⟨rfl, hb2⟩
      have hS1 : Below V.heap.size V w1 := hS.trans hb2
      have hs1 := hb2.size
      replace hs1 : V.heap.size ≤ w1.heap.size := hs1
      have row1 : Row 122 2 w1 w.heap.size wr.heap.size (.slice (some ⟨g, 0, none⟩) (k + 1) C) (k + 1) (flat sigF ms) := (row0.drew).below hb2
      refine hK _ _ (.inr hS1) ?_
      try simp only [Act.put, List.setIfInBounds_toArray]
      clear hK K
      refine wpAnyM_one (i := 8) (by kernel_rfl) rfl (by rfl) (fun K hK => ?_)
      go_simp
      replace hS1 : Below V.heap.size V (w1.alloc (.cells #[.bool (jn y x).1, .bool (jn y x).2] 122)) := hS1.alloc hs1 _
      refine hK _ _ (.inr hS1) ?_
      clear hK K
      try simp only [Act.put, List.setIfInBounds_toArray]
      refine wpAnyM_one (i := 9) (by kernel_rfl) rfl (by rfl) (fun K hK => ?_)
      refine wp_appR (.tmp 19) (.tmp 27) 73 122 rfl (.agg #[.bool false, .bool false]) 2 2 Try.underlying73 info_Signal rfl (by omega) (by omega) rfl (row1.alloc _) ⟨w1.heap.size, 0, none⟩ 1 1 (flat sigF [jn y x]) rfl rfl (sig_new w1 _) flat_mem (by omega) (by simp; omega) ?_
      intro A' C' w5 row5 ht5
      have hS5 : Below w.heap.size V w5 := (hS1.mono (by omega)).trans (ht5.below (Nat.le_refl _) (by simp; omega))
      have ow5 : OwnF sigF 122 w5 w.heap.size w5.heap.size (.slice A' (k + 1 + 1) C') (ms ++ [jn y x]) := ownF_row (n := k + 1 + 1) (by rw [flat_append]; exact row5) (by have := HN.out; simp; omega) (by have := HN.out; simp; omega)
      obtain ⟨g5, rfl, _⟩ := ow5.head (by simp)
      refine hK _ _ (.inl rfl) ?_
      try simp only [Act.put, List.setIfInBounds_toArray]
      clear hK K
      refine wpAnyM_one (i := 10) (by kernel_rfl) rfl (by rfl) (fun K hK => ?_)
      go_simp
      refine hK _ _ (.inl rfl) ?_
      clear hK K
      refine wpAnyM_done (by kernel_rfl) ?_ _
      have hb5 : Below w.heap.size w w5 := hbW.trans hS5
      go_wp2
      go_roundw
      case rel => exact ⟨k + 1, g5, C', by omega, by go_num, by go_num, by rw [HS.out]; exact ow5, hb5⟩
      case measure => (simp [intOf]) <;> omega
    · obtain rfl : k = xs.length := by omega
      go_wp2
      go_ret
      exact ⟨g, C, rfl, hown, hb1⟩

theorem joinedBelow_any (a : Option Addr) (c : Nat) (xs : List (Bool × Bool)) (w : World) (ha : RdF sigF w a xs) (hl : xs.length ≤ 1000000) :
    Calls Try.prog 136 #[.slice a xs.length c] w fun e w' => ∃ g C, e = .returned (.slice (some ⟨g, 0, none⟩) (xs.length + 1) C) ∧
      OwnF sigF 122 w' w.heap.size w'.heap.size (.slice (some ⟨g, 0, none⟩) (xs.length + 1) C) (scL xs (xs.length + 1)) ∧ Below w.heap.size w w' := by
  have hb0 : Below w.heap.size w (w.alloc (.cells #[.bool false, .bool true] 122)) := (by repeat (first | exact Below.refl _ _ | refine Below.setCell ?_ (by first | omega | (simp <;> omega)) _ | refine Below.alloc ?_ (by first | omega | (simp <;> omega)) _ | refine Below.drew ?_))
  go_enter Try.func136, Try.ntmps136
  go_wp2_with fail
  refine (scan_any a c xs _ (ha.below hb0) hl).mono ?_
  rintro e w1 ⟨g, C, rfl, ow, hb⟩
  go_wp2
  go_ret
  exact ⟨g, C, rfl, ow.wide hb0.size (Nat.le_refl _), hb0.trans (hb.mono hb0.size)⟩

theorem OwnF.capS {α : Type} {F : Flat α} {t : TypeId} {w : World} {lo hi g n C : Nat} {xs : List α} (h : OwnF F t w lo hi (.slice (some ⟨g, 0, none⟩) n C) xs) : n ≤ C := by
  have hn := h.num
  rcases h.row.row.2 with ⟨hv, _⟩ | ⟨g', cap, cur, hv, _, _, hc, _⟩
  · cases hv
  · injection hv with _ _ h3
    omega
/-- What both return: a list of their own, a code. -/
def SgO (R : List (Bool × Bool) × Int) (w : World) (e : Ending) (w' : World) : Prop := ∃ A C, e = .returned (.tuple #[.slice A R.1.length C, .int .i64 R.2]) ∧ OffS 122 w' w.heap.size w'.heap.size (.slice A R.1.length C) R.1 ∧ Below w.heap.size w w'
theorem sgO_err {R : List (Bool × Bool) × Int} {c : Int} {w w' : World} {e : Ending} (h : R = ([], c)) (he : e = .returned (.tuple #[.slice none 0 0, .int .i64 c])) (hb : Below w.heap.size w w') : SgO R w e w' := by
  subst h he; exact ⟨none, 0, rfl, offS_nil _ _ _ _, hb⟩
theorem sgO_ok {R : List (Bool × Bool) × Int} {zs : List (Bool × Bool)} {m : Nat} {w w' : World} {e : Ending} {A : Option Addr} {C lo hi : Nat} (h : R = (zs, 0)) (hm : zs.length = m) (he : e = .returned (.tuple #[.slice A m C, .int .i64 0]))
    (ho : OffS 122 w' lo hi (.slice A m C) zs) (h1 : w.heap.size ≤ lo) (h2 : hi ≤ w'.heap.size) (hb : Below w.heap.size w w') : SgO R w e w' := by
  subst h hm he; exact ⟨A, C, rfl, ho.wide h1 h2, hb⟩
theorem pfR_ok {xs : List (Bool × Bool)} (h : inB (xs.length : Int) 1 16 = true) : pfR xs = (pfx xs xs.length, 0) := by simp [pfR, h]
theorem pfR_bad {xs : List (Bool × Bool)} (h : inB (xs.length : Int) 1 16 = false) : pfR xs = ([], 2) := by simp [pfR, h]

end Go.Proofs.Ytmdngcoccekdgaa
