/-
  SignalText: the program's and the model's.
-/
import Derived.Test.YtcfpfhlgcfmioaaBld
import Derived.Test.YtcfpfhlgcfmioaaSigM
import Derived.Deep.Cut
namespace Go.Proofs.Ytcfpfhlgcfmioaa
open Go.RowKit

theorem sign_any (x : Bool × Bool) (w : World) : Calls Try.prog 116 #[.agg #[.bool x.1, .bool x.2]] w fun e w' => e = .returned (.int .u8 ((sgn x).toNat : Int)) ∧ Below w.heap.size w w' := by
  obtain ⟨x0, x1⟩ := x
  cases x0 <;> cases x1
  all_goals
    go_enter Try.func116, Try.ntmps116
    go_wp2
    go_ret
    exact ⟨rfl, (by repeat (first | exact Below.refl _ _ | refine Below.setCell ?_ (by first | omega | (simp <;> omega)) _ | refine Below.alloc ?_ (by first | omega | (simp <;> omega)) _ | refine Below.drew ?_))⟩

theorem GrowF.belowF {α : Type} {F : Flat α} {t : TypeId} {L : Nat} {w w' : World} {A : Option Addr} {C : Nat} {ms : List α} (h : GrowF F t L w A C ms) (hb : Below w.heap.size w w') : GrowF F t L w' A C ms :=
  h.same fun k _ _ h1 _ => hb.block k (Array.getElem?_eq_some_iff.1 h1).1
/-- The signs of the first k signals. -/
def sgB (xs : List (Bool × Bool)) (k : Nat) : List UInt8 := (xs.take k).map sgn
theorem sgB_len {xs : List (Bool × Bool)} {k : Nat} (h : k ≤ xs.length) : (sgB xs k).length = k := by simp [sgB]; omega
theorem sgB_succ {xs : List (Bool × Bool)} {k : Nat} (h : k < xs.length) : sgB xs (k + 1) = sgB xs k ++ [sgn (elt sigF xs k)] := by
  unfold sgB; rw [takeE_succ (F := sigF) h, List.map_append]; rfl
theorem sgB_all (xs : List (Bool × Bool)) : sgT xs = ⟨(sgB xs xs.length).toArray⟩ := by simp [sgT, sgB]

set_option maxRecDepth 100000 in
set_option maxHeartbeats 4000000 in
theorem implSignalText (a : Option Addr) (c : Nat) (xs : List (Bool × Bool)) (w : World) (ha : RdF sigF w a xs) :
    Calls Try.prog 65 #[.slice a xs.length c] w fun e w' => e = .returned (.string (sgT xs)) ∧ Below w.heap.size w w' := by
  have hx := ha.len
  have HR := Lib.hid (sgB_all xs)
  go_enter Try.func65, Try.ntmps65
  go_wp2_with fail
  obtain ⟨b, hb⟩ : ∃ b, b = w.heap.size := ⟨_, rfl⟩
  obtain ⟨V, hV⟩ : ∃ V, V = w.alloc (.cells #[.pointer none, .slice none 0 0] 153) := ⟨_, rfl⟩
  have bl0 : Bld (b + 1) V b [] := bld_new (by rw [hV, hb]; exact Bx.new _ _ _)
  have hbel0 : Below w.heap.size w V := by rw [hV]; exact (by repeat (first | exact Below.refl _ _ | refine Below.setCell ?_ (by first | omega | (simp <;> omega)) _ | refine Below.alloc ?_ (by first | omega | (simp <;> omega)) _ | refine Below.drew ?_))
  have hs0 : b + 1 ≤ V.heap.size := by rw [hV, hb]; simp
  rw [← hb, ← hV]
  have HB := Lib.hid hb
  clear hV hb
  go_loopw [8] (fun i wr => ∃ k : Nat, k ≤ xs.length ∧ i = .int .i64 k ∧ Bld (b + 1) wr b (sgB xs k) ∧ b + 1 ≤ wr.heap.size ∧ Below w.heap.size w wr) (fun i _ => xs.length - (intOf i).toNat)
  case atStart => exact ⟨0, Nat.zero_le _, rfl, bl0, hs0, hbel0⟩
  case round =>
    obtain ⟨k, hk, rfl, bl, hs, hbel⟩ := hrel
    clear bl0 hs0 hbel0
    by_cases hlt : k < xs.length
    · obtain ⟨q, off, rfl, hc0, hc1⟩ := (ha.below hbel).atS hlt
      have hkl := sgB_len (xs := xs) hk
      go_wp2_with fail
      refine (sign_any (elt sigF xs k) _).mono ?_
      rintro e w2 ⟨rfl, hb2⟩
      have hb3 : Below wr.heap.size wr w2 := ((Below.refl _ _).alloc (Nat.le_refl _) _).trans (hb2.mono (by simp))
      have bl2 := bl.below hb3
      have hs2 := hb3.size
      replace hbel := hbel.trans (hb3.mono hbel.size)
      clear hb2 hb3 hc0 hc1 bl
      go_wp2_with fail
      refine (writeByte_any (sgn (elt sigF xs k)) _ rfl w2 bl2 (Nat.lt_succ_self _) (by omega) (by omega)).mono ?_
      rintro e w3 ⟨rfl, bl3, ht⟩
      have hs3 := ht.size
      have hb3 : Below w.heap.size w2 w3 := ht.below (by have := HB.out; omega) (by have := HB.out; omega) (by have := HB.out; omega)
      go_wp2
      go_roundw
      case rel => exact ⟨k + 1, by omega, by go_num, by rw [sgB_succ hlt]; exact bl3, by omega, hbel.trans hb3⟩
      case measure => (simp [intOf]) <;> omega
    · obtain rfl : k = xs.length := by omega
      go_wp2_with fail
      refine (string_any wr bl (Nat.lt_succ_self _) hs).mono ?_
      rintro e w2 ⟨rfl, hb2, _⟩
      go_wp2
      go_ret
      exact ⟨by rw [HR.out]; rfl, hbel.trans (hb2.mono (by have := HB.out; omega))⟩

set_option maxRecDepth 100000 in
set_option maxHeartbeats 4000000 in
theorem specSignalText (a : Option Addr) (c : Nat) (xs : List (Bool × Bool)) (w : World) (ha : RdF sigF w a xs) :
    Calls Try.prog 64 #[.slice a xs.length c] w fun e w' => e = .returned (.string (sgT xs)) ∧ Below w.heap.size w w' := by
  have hx := ha.len
  have HR := Lib.hid (sgB_all xs)
  go_enter Try.func64, Try.ntmps64
  go_wp2_with fail
  obtain ⟨V, hV⟩ : ∃ V, V = w.alloc (.cells #[] 5) := ⟨_, rfl⟩
  have ow0 : OwnF byteF 5 V w.heap.size (w.heap.size + 1) (.slice (some ⟨w.heap.size, 0, none⟩) 0 0) [] := by rw [hV]; exact ownF_row (n := 0) (row_new 5 1 w #[] 0 (by simp) (by omega)) rfl (by simp)
  have gr0 : GrowF byteF 5 w.heap.size V (some ⟨w.heap.size, 0, none⟩) 0 (sgB xs 0) := .inr ⟨_, rfl, Nat.le_refl _, ow0⟩
  have hbel0 : Below w.heap.size w V := by rw [hV]; exact (by repeat (first | exact Below.refl _ _ | refine Below.setCell ?_ (by first | omega | (simp <;> omega)) _ | refine Below.alloc ?_ (by first | omega | (simp <;> omega)) _ | refine Below.drew ?_))
  rw [← hV]
  clear hV ow0
  go_loopw [3, 4] (fun o i wr => ∃ (k : Nat) (g C : Nat), k ≤ xs.length ∧ i = .int .i64 k ∧ o = .slice (some ⟨g, 0, none⟩) (sgB xs k).length C ∧ GrowF byteF 5 w.heap.size wr (some ⟨g, 0, none⟩) C (sgB xs k) ∧ Below w.heap.size w wr) (fun _ i _ => xs.length - (intOf i).toNat)
  case atStart => exact ⟨0, _, _, Nat.zero_le _, rfl, rfl, gr0, hbel0⟩
  case round =>
    obtain ⟨k, g, C, hk, hi, ho, gr, hbel⟩ := hrel
    clear gr0 hbel0
    subst hi ho
    have hsz := hbel.size
    by_cases hlt : k < xs.length
    · obtain ⟨q, off, rfl, hc0, hc1⟩ := (ha.below hbel).atS hlt
      have HS := Lib.hid (sgB_succ hlt)
      have hkl := sgB_len (xs := xs) hk
      obtain ⟨⟨x0, x1⟩, hxx⟩ : ∃ x, elt sigF xs k = x := ⟨_, rfl⟩
      rw [hxx] at hc0 hc1 HS
      clear hxx
      obtain ⟨ms, hms⟩ : ∃ ms, ms = sgB xs k := ⟨_, rfl⟩
      rw [← hms] at gr hkl HS ⊢
      clear hms
      dsimp only at hc0 hc1
      have hal : Below wr.heap.size wr (wr.alloc (.cells #[.int .u8 109] 5)) := (Below.refl _ _).alloc (Nat.le_refl _) _
      cases x0 with
      | true =>
        go_wp2_with (at_builtin; go_must (refine wpList_appGrow byteF rfl (.tmp 21) (.tmp 22) 22 5 rfl (.int .u8 0) 1 Try.underlying22 info_byte rfl (by omega) rfl (gr.belowF ((Below.refl _ _).alloc (Nat.le_refl _) _)) (by simp; omega) rfl (own_one wr 109) (by omega) ?_); intro A' C' w2 gr2 hg2)
        have hb2 : Below w.heap.size wr w2 := (grows_alloc hsz hg2).1
        rcases gr2 with ⟨h0, _⟩ | ⟨g2, rfl, hg3, ow2⟩
        · simp at h0
        replace gr2 : GrowF byteF 5 w.heap.size w2 (some ⟨g2, 0, none⟩) C' (sgB xs (k + 1)) := by rw [HS.out]; exact .inr ⟨g2, rfl, hg3, ow2⟩
        have HL := Lib.hid (show (sgB xs (k + 1)).length = ms.length + 1 by rw [HS.out]; simp)
        go_roundw
        case rel => exact ⟨k + 1, g2, C', by omega, by go_num, by rw [HL.out, hkl], gr2, hbel.trans hb2⟩
        case measure => (simp [intOf]) <;> omega
      | false =>
        cases x1 with
        | true =>
          go_wp2_with (at_builtin; go_must (refine wpList_appGrow byteF rfl (.tmp 30) (.tmp 31) 22 5 rfl (.int .u8 0) 1 Try.underlying22 info_byte rfl (by omega) rfl (gr.belowF ((Below.refl _ _).alloc (Nat.le_refl _) _)) (by simp; omega) rfl (own_one wr 112) (by omega) ?_); intro A' C' w2 gr2 hg2)
          have hb2 : Below w.heap.size wr w2 := (grows_alloc hsz hg2).1
          rcases gr2 with ⟨h0, _⟩ | ⟨g2, rfl, hg3, ow2⟩
          · simp at h0
          replace gr2 : GrowF byteF 5 w.heap.size w2 (some ⟨g2, 0, none⟩) C' (sgB xs (k + 1)) := by rw [HS.out]; exact .inr ⟨g2, rfl, hg3, ow2⟩
          have HL := Lib.hid (show (sgB xs (k + 1)).length = ms.length + 1 by rw [HS.out]; simp)
          go_roundw
          case rel => exact ⟨k + 1, g2, C', by omega, by go_num, by rw [HL.out, hkl], gr2, hbel.trans hb2⟩
          case measure => (simp [intOf]) <;> omega
        | false =>
          go_wp2_with (at_builtin; go_must (refine wpList_appGrow byteF rfl (.tmp 12) (.tmp 13) 22 5 rfl (.int .u8 0) 1 Try.underlying22 info_byte rfl (by omega) rfl (gr.belowF ((Below.refl _ _).alloc (Nat.le_refl _) _)) (by simp; omega) rfl (own_one wr 45) (by omega) ?_); intro A' C' w2 gr2 hg2)
          have hb2 : Below w.heap.size wr w2 := (grows_alloc hsz hg2).1
          rcases gr2 with ⟨h0, _⟩ | ⟨g2, rfl, hg3, ow2⟩
          · simp at h0
          replace gr2 : GrowF byteF 5 w.heap.size w2 (some ⟨g2, 0, none⟩) C' (sgB xs (k + 1)) := by rw [HS.out]; exact .inr ⟨g2, rfl, hg3, ow2⟩
          have HL := Lib.hid (show (sgB xs (k + 1)).length = ms.length + 1 by rw [HS.out]; simp)
          go_roundw
          case rel => exact ⟨k + 1, g2, C', by omega, by go_num, by rw [HL.out, hkl], gr2, hbel.trans hb2⟩
          case measure => (simp [intOf]) <;> omega
    · obtain rfl : k = xs.length := by omega
      obtain ⟨ms, hms⟩ : ∃ ms, ms = sgB xs xs.length := ⟨_, rfl⟩
      rw [← hms] at gr HR ⊢
      clear hms
      have ow := gr.own hsz
      have hcv := run_convert_bytes_back wr 22 9 5 ⟨g, 0, none⟩ C ms Try.underlying22 Try.underlying5 Try.underlying9 (fun j hj => by
        have := ow.getB (k := j) hj
        rw [elt_get hj] at this
        rw [show (⟨g, 0, none⟩ : Addr).add j = ⟨g, j, none⟩ by simp [Addr.add]; exact fun e => e.symm]
        exact this)
      go_wp2
      go_ret
      exact ⟨by rw [HR.out]; rfl, hbel⟩
end Go.Proofs.Ytcfpfhlgcfmioaa
