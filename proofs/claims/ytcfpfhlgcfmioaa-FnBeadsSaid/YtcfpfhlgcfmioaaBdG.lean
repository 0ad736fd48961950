/-
  Appending to a list of moves that is empty, or the call's own.
-/
import Derived.Test.YtcfpfhlgcfmioaaAppR
import Derived.Deep.RegionLawGrows
namespace Go.Proofs.Ytcfpfhlgcfmioaa
open Go.RowKit

/-- A list of moves: empty without room, or the call's own. -/
def LM (w : World) (lo hi : Nat) (A : Option Addr) (C : Nat) (ms : List (Int × Int × Int)) : Prop := (ms = [] ∧ C = 0) ∨ OwnF tripF 37 w lo hi (.slice A ms.length C) ms

theorem LM.below {w w' : World} {lo hi : Nat} {A : Option Addr} {C : Nat} {ms : List (Int × Int × Int)} (h : LM w lo hi A C ms) (hb : Below w.heap.size w w') : LM w' lo hi A C ms := h.imp id (fun o => o.below hb)
theorem LM.drew {w : World} {lo hi : Nat} {A : Option Addr} {C : Nat} {ms : List (Int × Int × Int)} (h : LM w lo hi A C ms) : LM w.drew lo hi A C ms := h.imp id (fun o => o.drew)
theorem LM.alloc {w : World} {lo hi : Nat} {A : Option Addr} {C : Nat} {ms : List (Int × Int × Int)} (h : LM w lo hi A C ms) (o : Obj) : LM (w.alloc o) lo hi A C ms := h.imp id (fun o' => o'.alloc o)
theorem LM.wide {w : World} {lo hi lo' hi' : Nat} {A : Option Addr} {C : Nat} {ms : List (Int × Int × Int)} (h : LM w lo hi A C ms) (hl : lo' ≤ lo) (hh : hi ≤ hi') : LM w lo' hi' A C ms := h.imp id (fun o => o.wide hl hh)

section
variable {P : Program} {ops : Array Oper} {o : Oper} {a : Act} {Q : Exit → Act → World → Prop} {w : World}
theorem wp_appLM {K : Act → World → Prop} (hgd : o.guard = none) (x y : Operand) (t e : TypeId) (ho : o.op = .call { callee := .builtin .append, args := #[x, y], argTypes := #[t, t] })
    (ht : P.underlying t = some (.slice e)) (hinfo : (P.info? e).map (fun i => (i.zero, i.size, i.bytes)) = some (some (.agg #[.int .i64 0, .int .i64 0, .int .i64 0]), 3, 24)) (he : e = 37) {lo hi : Nat} {A : Option Addr} {C : Nat} {ms : List (Int × Int × Int)}
    (hx : a.eval x = .slice A ms.length C) (hl : LM w lo hi A C ms) (ad : Addr) (m : Int × Int × Int) (hy : a.eval y = .slice (some ad) 1 1) (hc : ∀ j u, (flat tripF [m])[j]? = some u → w.cell? (ad.add j) = some u) (hn : ms.length + 1 ≤ 1000000000) (hlo : lo ≤ w.heap.size)
    (h : ∀ A' C' w', OwnF tripF 37 w' lo w'.heap.size (.slice A' (ms.length + 1) C') (ms ++ [m]) → Touch lo hi w w' → K (a.put o.dst (.slice A' (ms.length + 1) C')) w') :
    o.wp P a w K Q := by
  subst he
  have fin : ∀ A' C' w', Row 37 3 w' lo w'.heap.size (.slice A' (ms.length + 1) C') (ms.length + 1) (flat tripF ms ++ flat tripF [m]) → Touch lo hi w w' → K (a.put o.dst (.slice A' (ms.length + 1) C')) w' :=
    fun A' C' w' hr ht' => h A' C' w' ⟨by rw [flat_append, List.length_append]; exact hr, by simp; omega⟩ ht'
  rcases hl with ⟨rfl, rfl⟩ | ow
  · obtain ⟨i, hi1, hi2, hi3, hi4⟩ := info_parts hinfo
    have := step_append_grows (P := P) (ops := #[]) (o := o) (a := a) (w := w) (K := K) (Q := Q) (E := False) hgd x y t ho 37 i (.agg #[.int .i64 0, .int .i64 0, .int .i64 0]) 3 24 ht hi1 hi2 hi3 hi4 rfl (by omega)
      A 0 0 [] hx (fun _ => ⟨rfl, rfl⟩) rfl (fun _ _ j u hj => by simp at hj) ad 1 1 (flat tripF [m]) hy rfl hc flat_mem (by omega) (by unfold maxLen; omega) (by omega)
      (fun v' w' hown hg => by
        have hT : Touch lo hi w w' := ⟨hg.os, hg.tape, hg.output, hg.size, fun k hk _ => hg.block k hk (by simp)⟩
        have hform : ∃ A' C', v' = .slice A' 1 C' := by
          rcases hown.2 with ⟨h0, h0'⟩ | ⟨g, cap, cur, hv, _⟩
          · simp at h0'
          · exact ⟨_, _, hv⟩
        obtain ⟨A', C', rfl⟩ := hform
        have hr : Row 37 3 w' w.heap.size w'.heap.size (.slice A' 1 C') 1 ([] ++ flat tripF [m]) := ⟨hown, fun k hk => (hown.lt k hk).2⟩
        exact fin A' C' w' (hr.wide hlo (Nat.le_refl _)) hT)
    rwa [if_pos (by simp [Region.wanted, hgd])] at this
  · exact wp_appR x y t 37 ho _ 3 24 ht hinfo rfl (by omega) (by omega) hx ow.row ad 1 1 (flat tripF [m]) hy rfl hc flat_mem hn hlo fin
end
end Go.Proofs.Ytcfpfhlgcfmioaa
