/-
  A region that draws its order, in the body of a range over a function: by the law for regions elsewhere.
-/
import Derived.Test.YtmdngcoccekdgaaOrd
import Derived.OrdersIn
import Derived.TacticsIn
import Derived.RangeFuncCalls
import Derived.OwnWalkIn
namespace Go.Proofs.Ytmdngcoccekdgaa
open Go

section
variable {P : Program} {ops : Array Oper} {Q : Exit → Act → World → Prop} {l n : Nat}
theorem opIn_of_wp {o : Oper} {a : Act} {w : World} {K : Act → World → Prop} (hd : ∀ c, o.op ≠ .defer c) (h : o.wp P a w K Q) : o.wpIn (Fence.wide.inRound l) n P a w K Q := by
  refine ⟨fun f _ => trivial, ?_⟩
  rw [Oper.semAt_plain _ _ _ hd]
  unfold Oper.wp at h
  generalize (execOp a.eval o).run P w = r at h ⊢
  cases r with
  | ok nx w' =>
    cases nx with
    | value v => exact h
    | skip => exact h
    | «defer» d => exact h
    | enter f args => exact ⟨(fun h0 => by cases h0), CallsIn.inRound l (callsIn_wide.2 h)⟩
    | row row args =>
      refine ⟨(fun h0 => by cases h0), fun c cs _ => ?_⟩
      obtain ⟨v, w2, r, s⟩ := h c cs
      exact ⟨v, w2, r, stepsIn_wide.2 s⟩
    | _ => exact h.elim
  | halt x w' =>
    cases x with
    | panic v => exact h
    | _ => exact h.elim
/-- No operation defers. -/
def noDefer (ops : Array Oper) : Bool := ops.all fun o => match o.op with | .defer _ => false | _ => true
theorem noDefer_spec (h : noDefer ops = true) {i : Nat} {o : Oper} (ho : ops[i]? = some o) : ∀ c, o.op ≠ .defer c := by
  intro c hc
  unfold noDefer at h
  rw [Array.all_eq_true] at h
  obtain ⟨hi, rfl⟩ := Array.getElem?_eq_some_iff.1 ho
  have := h i hi
  rw [hc] at this
  cases this
theorem wpAnyIn_of (hnd : noDefer ops = true) (hlo : ∀ a w, ¬ Q .outgrown a w) {md : Region.Mode} : ∀ (fuel : Nat) (listed : Array Bool) (a : Act) (w : World), wpAny P md ops Q fuel listed a w → wpAnyIn (Fence.wide.inRound l) n P md ops Q fuel listed a w
  | 0, _, _, _, h => h
  | fuel + 1, listed, a, w, h => ⟨h.1, fun i hi => by
      have h2 := h.2 i hi
      unfold wpOp at h2
      unfold wpOpIn
      cases ho : ops[i]? with
      | none => rw [ho] at h2; exact wpAnyIn_of hnd hlo fuel _ _ _ h2
      | some o =>
        rw [ho] at h2
        dsimp only at h2 ⊢
        split
        · rename_i hw
          rw [if_pos hw] at h2
          exact Oper.wpIn_mono (fun a w h => wpAnyIn_of hnd hlo fuel _ a w h) (opIn_of_wp (noDefer_spec hnd ho) (h2.resolve_right fun h3 => h3.2.elim fun a h4 => h4.elim fun w h5 => hlo a w h5))
        · rename_i hw
          rw [if_neg hw] at h2
          exact ⟨fun f _ => trivial, wpAnyIn_of hnd hlo fuel _ _ _ h2⟩⟩

/-- The beginning. -/
theorem wpIn_region_marked {id : Nat} {a : Act} {w : World} {l' : List Oper} (S : World → Prop) (m : Nat) (hm : P.follows .mixedOrders = true) (hnd : noDefer l'.toArray = true) (hlo : ∀ a w, ¬ Q .outgrown a w)
    (h : wpAnyM P .any l'.toArray Q S m l'.length (Array.replicate l'.length false) a w.drew) : (Code.region id l'.toArray true).wpIn (Fence.wide.inRound l) n P Q a w :=
  wpIn_region_any hm (wpAnyIn_of hnd hlo _ _ _ _ (wpAny_of_marked _ _ _ _ (by simpa using h)))
theorem opInW_of_wp {o : Oper} {a : Act} {w : World} {K : Act → World → Prop} (hd : ∀ c, o.op ≠ .defer c) (h : o.wp P a w K Q) : o.wpIn Fence.wide n P a w K Q := by
  refine ⟨fun f _ => trivial, ?_⟩
  rw [Oper.semAt_plain _ _ _ hd]
  unfold Oper.wp at h
  generalize (execOp a.eval o).run P w = r at h ⊢
  cases r with
  | ok nx w' =>
    cases nx with
    | value v => exact h
    | skip => exact h
    | «defer» d => exact h
    | enter f args => exact ⟨(fun h0 => by cases h0), callsIn_wide.2 h⟩
    | row row args =>
      refine ⟨(fun h0 => by cases h0), fun c cs _ => ?_⟩
      obtain ⟨v, w2, r, s⟩ := h c cs
      exact ⟨v, w2, r, stepsIn_wide.2 s⟩
    | _ => exact h.elim
  | halt x w' =>
    cases x with
    | panic v => exact h
    | _ => exact h.elim
theorem wpAnyInW_of (hnd : noDefer ops = true) (hlo : ∀ a w, ¬ Q .outgrown a w) {md : Region.Mode} : ∀ (fuel : Nat) (listed : Array Bool) (a : Act) (w : World), wpAny P md ops Q fuel listed a w → wpAnyIn Fence.wide n P md ops Q fuel listed a w
  | 0, _, _, _, h => h
  | fuel + 1, listed, a, w, h => ⟨h.1, fun i hi => by
      have h2 := h.2 i hi
      unfold wpOp at h2
      unfold wpOpIn
      cases ho : ops[i]? with
      | none => rw [ho] at h2; exact wpAnyInW_of hnd hlo fuel _ _ _ h2
      | some o =>
        rw [ho] at h2
        dsimp only at h2 ⊢
        split
        · rename_i hw
          rw [if_pos hw] at h2
          exact Oper.wpIn_mono (fun a w h => wpAnyInW_of hnd hlo fuel _ a w h) (opInW_of_wp (noDefer_spec hnd ho) (h2.resolve_right fun h3 => h3.2.elim fun a h4 => h4.elim fun w h5 => hlo a w h5))
        · rename_i hw
          rw [if_neg hw] at h2
          exact ⟨fun f _ => trivial, wpAnyInW_of hnd hlo fuel _ _ _ h2⟩⟩

/-- The same where no round is about. -/
theorem wpInW_region_marked {id : Nat} {a : Act} {w : World} {l' : List Oper} (S : World → Prop) (m : Nat) (hm : P.follows .mixedOrders = true) (hnd : noDefer l'.toArray = true) (hlo : ∀ a w, ¬ Q .outgrown a w)
    (h : wpAnyM P .any l'.toArray Q S m l'.length (Array.replicate l'.length false) a w.drew) : (Code.region id l'.toArray true).wpIn Fence.wide n P Q a w :=
  wpIn_region_any hm (wpAnyInW_of hnd hlo _ _ _ _ (wpAny_of_marked _ _ _ _ (by simpa using h)))
end
end Go.Proofs.Ytmdngcoccekdgaa
