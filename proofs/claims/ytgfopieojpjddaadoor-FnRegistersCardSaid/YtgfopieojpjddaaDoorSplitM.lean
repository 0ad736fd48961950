/-
  Parts of texts: plain mathematics.
-/
import Derived.WalkKit
namespace Go.Proofs.YtgfopieojpjddaaDoor
open Go

/-- The i-th byte. -/
def byteAt (s : ByteArray) (i : Nat) : UInt8 := if h : i < s.size then s[i]'h else 0
theorem byteAt_get {s : ByteArray} {i : Nat} (h : i < s.size) : s[i]'h = byteAt s i := by rw [byteAt, dif_pos h]
/-- The parts between bytes c, from a part's beginning f on, at place i. -/
def splitGo (s : ByteArray) (c : UInt8) : Nat → Nat → Nat → List ByteArray
  | 0, _, f => [s.extract f s.size]
  | n + 1, i, f => if byteAt s i = c then s.extract f i :: splitGo s c n (i + 1) (i + 1) else splitGo s c n (i + 1) f
def splitL (s : ByteArray) (c : UInt8) : List ByteArray := splitGo s c s.size 0 0
theorem splitGo_hit {s : ByteArray} {c : UInt8} {n i f : Nat} (h : byteAt s i = c) : splitGo s c (n + 1) i f = s.extract f i :: splitGo s c n (i + 1) (i + 1) := by rw [splitGo, if_pos h]
theorem splitGo_miss {s : ByteArray} {c : UInt8} {n i f : Nat} (h : ¬ byteAt s i = c) : splitGo s c (n + 1) i f = splitGo s c n (i + 1) f := by rw [splitGo, if_neg h]
theorem splitGo_len {s : ByteArray} {c : UInt8} : ∀ (n i f : Nat), (splitGo s c n i f).length ≤ n + 1
  | 0, _, _ => by simp [splitGo]
  | n + 1, i, f => by
    rw [splitGo]
    split
    · have := splitGo_len (s := s) (c := c) n (i + 1) (i + 1)
      simp; omega
    · have := splitGo_len (s := s) (c := c) n (i + 1) f
      omega
theorem splitL_len (s : ByteArray) (c : UInt8) : (splitL s c).length ≤ s.size + 1 := splitGo_len _ _ _
/-- The parts that are not empty. -/
def someB (x : ByteArray) : Bool := decide (x.data.toList ≠ [])
def wordsL (s : ByteArray) : List ByteArray := (splitL s 32).filter someB
end Go.Proofs.YtgfopieojpjddaaDoor
