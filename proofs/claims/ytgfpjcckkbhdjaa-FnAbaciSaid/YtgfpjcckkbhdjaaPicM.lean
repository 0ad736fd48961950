/-
  The picture of an abacus: plain mathematics.
-/
import Derived.Test.YtgfpjcckkbhdjaaAba
import Derived.Test.YtgfpjcckkbhdjaaByteF
import Derived.Lib.Repeat
namespace Go.Proofs.Ytgfpjcckkbhdjaa
open Go.RowKit

/-- The character of a place: a bead, or none. -/
def sgB (b : Bool) : UInt8 := if b = true then 111 else 124
/-- The character of a rod r in line y. -/
def sgY (U y : Int) (r : Int × Int) : UInt8 := if y ≤ U then sgB (y != U - r.1) else if y = U + 1 then 61 else sgB (y - U - 2 != r.2)
/-- Line y, the highest rod first. -/
def lnY (U : Int) (rs : List (Int × Int)) (y : Int) : List UInt8 := (rs.map (sgY U y)).reverse
def picL (U L : Int) (rs : List (Int × Int)) : List ByteArray := (List.range (U + L + 3).toNat).map fun y : Nat => ⟨(lnY U rs (y : Int)).toArray⟩
/-- AbacusPicture: lines, code. -/
def picR (U L W : Int) (rs : List (Int × Int)) : List ByteArray × Int := if abaB U L W rs = true then (picL U L rs, 0) else ([], 1)
theorem picR_bad {U L W : Int} {rs : List (Int × Int)} (h : abaB U L W rs = false) : picR U L W rs = ([], 1) := by rw [picR, if_neg (by rw [h]; decide)]
theorem picR_ok {U L W : Int} {rs : List (Int × Int)} (h : abaB U L W rs = true) : picR U L W rs = (picL U L rs, 0) := by rw [picR, if_pos h]

/-- A line of one side of the bar; the line's places stand in rising order here. -/
def blC (fs : List Int) (p : Nat) : List UInt8 := fs.map fun f => if f = (p : Int) then 124 else 111
def blL (fs : List Int) (n : Nat) : List ByteArray := (List.range n).map fun p => ⟨(blC fs p).reverse.toArray⟩
theorem blL_len (fs : List Int) (n : Nat) : (blL fs n).length = n := by simp [blL]
theorem blC_len (fs : List Int) (p : Nat) : (blC fs p).length = fs.length := by simp [blC]
theorem elt_blC {fs : List Int} {p k : Nat} (h : k < fs.length) : elt byteF (blC fs p) k = if nth fs k = (p : Int) then 124 else 111 := by
  rw [elt_get (by rw [blC_len]; exact h), nth_get h]
  simp [blC]
theorem elt_blL {fs : List Int} {n p : Nat} (h : p < n) : elt textF (blL fs n) p = ⟨(blC fs p).reverse.toArray⟩ := elt_range h
theorem picL_parts {U L : Int} (u0 : 0 ≤ U) (l0 : 0 ≤ L) (rs : List (Int × Int)) :
    picL U L rs = (blL (rs.map fun r => U - r.1) (U + 1).toNat ++ [⟨(Lib.repeatL [61] rs.length).toArray⟩]) ++ blL (rs.map fun r => r.2) (L + 1).toNat := by
  have hn : (U + L + 3).toNat = ((U + 1).toNat + 1) + (L + 1).toNat := by omega
  unfold picL
  rw [hn, List.range_add, List.map_append, List.range_succ, List.map_append]
  have h1 : (List.range (U + 1).toNat).map (fun y : Nat => (⟨(lnY U rs (y : Int)).toArray⟩ : ByteArray)) = blL (rs.map fun r => U - r.1) (U + 1).toNat := by
    unfold blL
    refine List.map_congr_left fun y hy => ?_
    have hy : y < (U + 1).toNat := List.mem_range.1 hy
    congr 2
    unfold lnY blC
    rw [List.map_map]
    congr 1
    refine List.map_congr_left fun r _ => ?_
    rw [sgY, if_pos (by omega)]
    simp only [Function.comp, sgB, bne_iff_ne, ne_eq]
    by_cases h : U - r.1 = (y : Int)
    · rw [if_pos h, if_neg (by omega)]
    · rw [if_neg h, if_pos (by omega)]
  have h2 : lnY U rs (((U + 1).toNat : Nat) : Int) = Lib.repeatL [61] rs.length := by
    have hc : (((U + 1).toNat : Nat) : Int) = U + 1 := by omega
    rw [hc]
    unfold lnY
    have : ∀ n : Nat, Lib.repeatL [61] n = List.replicate n (61 : UInt8) := by
      intro n
      induction n with
      | zero => rfl
      | succ n ih => rw [Lib.repeatL, ih]; rfl
    rw [this]
    have he : rs.map (sgY U (U + 1)) = rs.map (fun _ => (61 : UInt8)) := List.map_congr_left fun r _ => by rw [sgY, if_neg (by omega), if_pos rfl]
    rw [he, List.map_const', List.reverse_replicate]
  have h3 : (List.range (L + 1).toNat).map ((fun y : Nat => (⟨(lnY U rs (y : Int)).toArray⟩ : ByteArray)) ∘ (fun x => ((U + 1).toNat + 1) + x)) = blL (rs.map fun r => r.2) (L + 1).toNat := by
    unfold blL
    refine List.map_congr_left fun p _ => ?_
    simp only [Function.comp]
    congr 2
    unfold lnY blC
    rw [List.map_map]
    congr 1
    refine List.map_congr_left fun r _ => ?_
    rw [sgY, if_neg (by omega), if_neg (by omega)]
    simp only [Function.comp, sgB, bne_iff_ne, ne_eq]
    by_cases h : r.2 = (p : Int)
    · rw [if_pos h, if_neg (by omega)]
    · rw [if_neg h, if_pos (by omega)]
  rw [h1, List.map_map, h3, List.map_singleton, h2]
end Go.Proofs.Ytgfpjcckkbhdjaa
