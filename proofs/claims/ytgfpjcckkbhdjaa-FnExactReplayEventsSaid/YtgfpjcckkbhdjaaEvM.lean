/-
  The maths of the events of an addition: no program.
-/
import Derived.Test.YtgfpjcckkbhdjaaAr
import Derived.Test.YtgfpjcckkbhdjaaDec
import Derived.Test.YtgfpjcckkbhdjaaFlat
namespace Go.Proofs.Ytgfpjcckkbhdjaa

def tTurn : ByteArray := ⟨#[116, 117, 114, 110, 32]⟩
def tCock : ByteArray := ⟨#[99, 111, 99, 107, 32]⟩
def tPush : ByteArray := ⟨#[112, 117, 115, 104, 32]⟩
def tBy : ByteArray := ⟨#[32, 98, 121, 32]⟩
def decB (n : Int) : ByteArray := ⟨(Lib.itoa n).toArray⟩
def evTx (k w s : Int) : ByteArray :=
  if k = 1 then tTurn ++ decB w ++ tBy ++ decB s else if k = 2 then tCock ++ decB w else if k = 3 then tPush ++ decB w else ⟨#[]⟩
theorem decB_size {n : Int} (h0 : -9223372036854775808 ≤ n) (h1 : n ≤ 9223372036854775807) : (decB n).size ≤ 21 := by
  show (Lib.itoa n).toArray.size ≤ 21
  rw [List.size_toArray]
  rcases Int.lt_trichotomy n 0 with h | rfl | h
  · rw [itoa_neg h]
    have := dg_len 19 n.natAbs (by omega)
    simp; omega
  · rw [itoa_zero]; simp
  · rw [itoa_pos h]
    have := dg_len 19 n.natAbs (by omega)
    omega

abbrev Ev := Int × Int × Int
/-- Can an event happen to a register? -/
def evOk (B : Int) (n : Nat) (e : Ev) : Bool := decide (1 ≤ e.1 ∧ e.1 ≤ 3) && decide (0 ≤ e.2.1 ∧ e.2.1 ≤ (n : Int) - 1) && decide (0 ≤ e.2.2 ∧ e.2.2 ≤ B - 1)
theorem evOk_true {B : Int} {n : Nat} {e : Ev} (h : evOk B n e = true) : (1 ≤ e.1 ∧ e.1 ≤ 3) ∧ (0 ≤ e.2.1 ∧ e.2.1 ≤ (n : Int) - 1) ∧ (0 ≤ e.2.2 ∧ e.2.2 ≤ B - 1) := by
  simpa [evOk, and_assoc] using h
/-- A wheel is turned. -/
def addAt (B : Int) (zs : List Int) (k : Nat) (s : Int) : List Int := if k < zs.length then zs.set k ((nth zs k + s) % B) else zs
theorem addAt_len {B : Int} {zs : List Int} {k : Nat} {s : Int} : (addAt B zs k s).length = zs.length := by unfold addAt; split <;> simp
def evStep (B : Int) (zs : List Int) (e : Ev) : List Int :=
  if e.1 = 1 then addAt B zs e.2.1.toNat e.2.2 else if e.1 = 3 then addAt B zs (e.2.1.toNat + 1) 1 else zs
theorem evStep_len {B : Int} {zs : List Int} {e : Ev} : (evStep B zs e).length = zs.length := by
  unfold evStep
  split
  · exact addAt_len
  · split
    · exact addAt_len
    · rfl
def Dgs (B : Int) (zs : List Int) : Prop := ∀ d ∈ zs, 0 ≤ d ∧ d < B
theorem addAt_dgs {B : Int} {zs : List Int} {k : Nat} {s : Int} (hB : 0 < B) (h : Dgs B zs) : Dgs B (addAt B zs k s) := by
  unfold addAt
  split
  · intro d hd
    rcases List.mem_or_eq_of_mem_set hd with h1 | rfl
    · exact h d h1
    · exact ⟨Int.emod_nonneg _ (by omega), Int.emod_lt_of_pos _ hB⟩
  · exact h
theorem evStep_dgs {B : Int} {zs : List Int} {e : Ev} (hB : 0 < B) (h : Dgs B zs) : Dgs B (evStep B zs e) := by
  unfold evStep
  split
  · exact addAt_dgs hB h
  · split
    · exact addAt_dgs hB h
    · exact h
theorem addAt_zero {B : Int} {zs : List Int} {k : Nat} (h : Dgs B zs) : addAt B zs k 0 = zs := by
  unfold addAt
  split
  · rename_i hk
    have := h (nth zs k) (by rw [nth_get hk]; exact List.getElem_mem _)
    rw [Int.add_zero, Int.emod_eq_of_lt this.1 this.2]
    refine List.ext_getElem (by simp) fun i h1 h2 => ?_
    rw [List.getElem_set]
    split
    · rename_i e; subst e; exact nth_get hk
    · rfl
  · rfl
/-- What the wheels show behind n events. -/
def evRun (B : Int) (zs : List Int) (es : List Ev) : List Int := es.foldl (evStep B) zs
theorem evRun_len {B : Int} : ∀ {es : List Ev} {zs : List Int}, (evRun B zs es).length = zs.length
  | [], _ => rfl
  | e :: es, zs => by show (evRun B (evStep B zs e) es).length = _; rw [evRun_len, evStep_len]
theorem evRun_dgs {B : Int} (hB : 0 < B) : ∀ {es : List Ev} {zs : List Int}, Dgs B zs → Dgs B (evRun B zs es)
  | [], _, h => h
  | e :: es, zs, h => by show Dgs B (evRun B (evStep B zs e) es); exact evRun_dgs hB (evStep_dgs hB h)
theorem evRun_snoc (B : Int) (zs : List Int) (es : List Ev) (e : Ev) : evRun B zs (es ++ [e]) = evStep B (evRun B zs es) e := by simp [evRun]
/-- ReplayEvents. -/
def evAll (B : Int) (n : Nat) (es : List Ev) : Bool := es.all (evOk B n)
def rpeR (B : Int) (zs : List Int) (es : List Ev) : Int × List Int × Int :=
  if okB B zs = true then (if evAll B zs.length es = true then finR B (evRun B zs es) else (0, [], 2)) else (0, [], 1)
theorem rpe_bad {B : Int} {zs : List Int} {es : List Ev} (h : okB B zs = false) : rpeR B zs es = (0, [], 1) := by rw [rpeR, h]; rfl
theorem rpe_range {B : Int} {zs : List Int} {es : List Ev} (h : okB B zs = true) (h2 : evAll B zs.length es = false) : rpeR B zs es = (0, [], 2) := by rw [rpeR, if_pos h, h2]; rfl
theorem rpe_ok {B : Int} {zs : List Int} {es : List Ev} (h : okB B zs = true) (h2 : evAll B zs.length es = true) : rpeR B zs es = finR B (evRun B zs es) := by rw [rpeR, if_pos h, if_pos h2]
theorem evAll_at {B : Int} {n : Nat} {es : List Ev} (h : evAll B n es = true) {k : Nat} (hk : k < es.length) : evOk B n (elt tripF es k) = true :=
  List.all_eq_true.1 h _ (elt_mem hk)
theorem evAll_not {B : Int} {n : Nat} {es : List Ev} {k : Nat} (hk : k < es.length) (h : evOk B n (elt tripF es k) = false) : evAll B n es = false := by
  cases e : evAll B n es with
  | false => rfl
  | true => rw [evAll_at e hk] at h; cases h
theorem evAll_to {B : Int} {n : Nat} {es : List Ev} (h : ∀ k, k < es.length → evOk B n (elt tripF es k) = true) : evAll B n es = true := by
  refine List.all_eq_true.2 fun x hx => ?_
  obtain ⟨k, hk, rfl⟩ := List.getElem_of_mem hx
  rw [← elt_get (F := tripF) hk]
  exact h k hk
/-- The worst ripple: the first register's digits, the code. -/
def wrR (B n : Int) : Int × List Int × Int × List Int × Int :=
  if 2 ≤ B ∧ B ≤ 16 ∧ 1 ≤ n ∧ n ≤ 16 then (if okB B (List.replicate n.toNat (B - 1)) = true then (B, List.replicate n.toNat (B - 1), B, 1 :: List.replicate (n.toNat - 1) 0, 0) else (0, [], 0, [], 5)) else (0, [], 0, [], 2)
end Go.Proofs.Ytgfpjcckkbhdjaa
