/-
  spec.l08Ok, ValidFaults.
-/
import Derived.Test.YtgfopieojpjddaaDoorLevM
import Derived.Test.YtgfopieojpjddaaDoorWid3
import Derived.Test.YtgfopieojpjddaaDoorInB
namespace Go.Proofs.YtgfopieojpjddaaDoor
open Go.RowKit

theorem faultsB_out {n : Int} {fs : List (Int × Int)} (h : inB n 1 16 = false) : faultsB n fs = false := by simp [faultsB, h]
theorem faultsB_bad {n : Int} {fs : List (Int × Int)} {i : Nat} (hi : i < fs.length) (h : faultAt n fs i = false) : faultsB n fs = false := by simp [faultsB, faultsTo_bad hi h]
theorem faultsB_all {n : Int} {fs : List (Int × Int)} (h : inB n 1 16 = true) (h2 : faultsTo n fs fs.length = true) : faultsB n fs = true := by simp [faultsB, h, h2]
theorem ask_kind {n : Int} {fs : List (Int × Int)} {j : Nat} (h : faultsTo n fs j = true) (h1 : inB (elt pairF fs j).1 1 3 = false) : faultAt n fs j = false := by rw [← faultAsk_is h, faultAsk, h1]; rfl
theorem ask_lever {n : Int} {fs : List (Int × Int)} {j : Nat} (h : faultsTo n fs j = true) (h1 : inB (elt pairF fs j).2 0 (n - 1) = false) : faultAt n fs j = false := by rw [← faultAsk_is h, faultAsk, h1, Bool.and_false]; rfl
theorem ask_prev {n : Int} {fs : List (Int × Int)} {j : Nat} (h : faultsTo n fs j = true) (h0 : 0 < j) (h1 : (elt pairF fs j).2 ≤ (elt pairF fs (j - 1)).2) : faultAt n fs j = false := by rw [← faultAsk_is h, faultAsk]; simp [h0, h1]
theorem ask_first {n : Int} {fs : List (Int × Int)} {j : Nat} (h : faultsTo n fs j = true) (h0 : j = 0) (h1 : inB (elt pairF fs j).1 1 3 = true) (h2 : inB (elt pairF fs j).2 0 (n - 1) = true) : faultAt n fs j = true := by rw [← faultAsk_is h, faultAsk, h1, h2]; simp [h0]
theorem ask_later {n : Int} {fs : List (Int × Int)} {j : Nat} (h : faultsTo n fs j = true) (h3 : ¬ (elt pairF fs j).2 ≤ (elt pairF fs (j - 1)).2) (h1 : inB (elt pairF fs j).1 1 3 = true) (h2 : inB (elt pairF fs j).2 0 (n - 1) = true) : faultAt n fs j = true := by rw [← faultAsk_is h, faultAsk, h1, h2]; simp [h3]

end Go.Proofs.YtgfopieojpjddaaDoor
