/-
  One of some numbers out of a source.
-/
import Derived.Test.YtcfpfhlgcfmioaaDoorDrawO
import Derived.Test.YtcfpfhlgcfmioaaDoorRow
import Derived.Test.YtcfpfhlgcfmioaaDoorToI
import Derived.Deep.Cut
import Derived.Deep.CutBlock
namespace Go.Proofs.YtcfpfhlgcfmioaaDoor
open Go.RowKit

theorem rd_at0 {w : World} {b : Nat} {zs : List Int} {k : Nat} (h : Rd w (some ⟨b, 0, none⟩) zs) (hk : k < zs.length) : w.cell? ⟨b, k, none⟩ = some (.int .i64 (nth zs k)) := by
  obtain ⟨b', o', e, hc⟩ := h.at_ hk
  injection e with e
  injection e with e1 e2
  subst e1 e2
  simpa using hc
theorem among_any (s K g c : Nat) (zs : List Int) (w : World) (h : Src w s K) (hK : K ≤ 800000) (hz : Rd w (some ⟨g, 0, none⟩) zs) (hg : s < g) (h1 : 1 ≤ zs.length) (h2 : zs.length ≤ 1000) :
    Calls Tryd.prog 48 #[.pointer (some ⟨s, 0, none⟩), .slice (some ⟨g, 0, none⟩) zs.length c] w fun e w' => ∃ z, e = .returned (.int .i64 z) ∧ z ∈ zs ∧ Src w' s (K + 2) ∧ Touch s (s + 1) w w' := by
  go_enter Tryd.func48, Tryd.ntmps48
  go_wp2_with fail
  refine (pick_any s K (zs.length : Int) w h (by omega) (by omega)).mono ?_
  rintro e w1 ⟨z, rfl, z0, z1, hs1, ht1⟩
  obtain ⟨k, rfl⟩ := Int.eq_ofNat_of_zero_le z0
  have hk : k < zs.length := by omega
  have hc := keptT ht1 (rd_at0 hz hk) (by omega)
  have HM := Lib.hid (show nth zs k ∈ zs by rw [nth_get hk]; exact List.getElem_mem hk)
  clear z0 z1 hz
  go_wp2_with fail
  go_ret
  exact ⟨nth zs k, rfl, HM.out, hs1, ht1⟩
theorem rd_new (w : World) (zs : List Int) (h : zs.length ≤ 1000) : Rd (w.alloc (.cells (zs.map (Value.int .i64)).toArray 2)) (some ⟨w.heap.size, 0, none⟩) zs := by
  refine ⟨by omega, fun _ => ⟨w.heap.size, 0, rfl, fun i hi => ?_⟩⟩
  rw [Nat.zero_add, (Bx.new w (zs.map (Value.int .i64)).toArray 2).cell i, nth_get hi]
  simp [hi]

theorem mid64 {z : Int} (h0 : -1000000 ≤ z) (h1 : z ≤ 1000000) : I64 z := by
  unfold I64
  simp [Lit.wf, IntKind.min, IntKind.max, IntKind.signed, IntKind.bits]
  omega
end Go.Proofs.YtcfpfhlgcfmioaaDoor
