/-
  What the frames of the tied cards want.
-/
import Derived.Test.YtgfopieojpjddaaDoorBase
import Derived.Test.YtgfopieojpjddaaDoorKnob
import Derived.Test.YtgfopieojpjddaaDoorRows
import Derived.Test.YtgfopieojpjddaaDoorTie
import Derived.Test.YtgfopieojpjddaaDoorCards
import Derived.SevenTiedAt
import Derived.ProofKit
import Derived.LaidMore
import Derived.OpenShut
import Derived.ShutString
import Derived.ChangeOld
import Derived.Stop.Joined
import Derived.Stop.LaidErr
import Derived.Lib.LaidTab
import Derived.Lib.ItoaNum
import Derived.Lib.SmallJoins
namespace Go.Proofs.YtgfopieojpjddaaDoor
open Go.ChangeShapes Go.WideShapes Go.ChangeAt Go.WideElems Go.RowKit Go.Joins
open Go.ChangeMaps (open_string shut_string)


set_option maxRecDepth 100000 in
/-- An array of strings, opened. -/
theorem strs_of {H : Type} {enc : TypeId × Value → H} {W : World} {spare : Nat → Bool} {held : Bool} {fuel n : Nat} {t e : TypeId} {cs : List Value} {ds : List (DataW H)} {p : List MemPlace}
    (ht : Tryd.prog.underlying t = some (.array n e)) (he : Tryd.prog.underlying e = some .string) (hc : Tryd.prog.cellsOf e = 1)
    (h : DataW.trod enc Tryd.prog W 0 spare held fuel t cs = some (.agg ds, p)) {i : Nat} (hi : i < n) {b : List UInt8} (hb : ds[i]? = some (.lit (.string b))) : cs[i]? = some (.string ⟨b.toArray⟩) := by
  obtain ⟨xs, m, rfl, hx, _, hxn, hel⟩ := DataW.trod_array ht h
  simp only [Prod.mk.injEq, DataW.agg.injEq] at hx
  obtain ⟨rfl, -⟩ := hx
  have h1 := hel i hi
  rw [hc, Nat.mul_one, List.getElem?_eq_getElem (by omega)] at h1
  obtain ⟨s, e1, e2, _⟩ := DataW.trod_string he h1
  have e3 : cs[i]? = some (.string s) := by
    have : (cs.drop i)[0]? = some (.string s) := by
      have h2 : ((cs.drop i).take 1)[0]? = some (.string s) := by rw [e1]; rfl
      rwa [List.getElem?_take_of_lt (by omega)] at h2
    simpa using this
  rw [List.getElem?_map, List.getElem?_eq_getElem (by omega), Option.map_some, e2] at hb
  have e4 : s.data.toList = b := by
    simp only [Option.some.injEq, DataW.lit.injEq, Lit.string.injEq] at hb
    exact hb
  rw [e3, ← e4]

/-- A variable that the call leaves as it was reads behind it as before. -/
theorem var_stays {H : Type} {enc : TypeId × Value → H} {W W' : World} {n : String} {g t : Nat} {gs : List (DataW H)} {q : List MemPlace}
    (hg : Tryd.prog.globalNamed n = some g) (ht : (Tryd.prog.globals[g]?).map (·.type) = some t) (hr : Tryd.prog.readableRec t = true) (hrow : t < Tryd.prog.types.size)
    (h : DataW.TrodVars enc Tryd.prog W (fun _ => true) [n] gs q) (hb : Below W.heap.size W W') :
    ∃ q', DataW.TrodVars enc Tryd.prog W' (fun b => decide (b < W.heap.size)) [n] gs q' := by
  have hlt := DataW.TrodVars.lt h
  obtain ⟨g', t', cs, fuel, d, p, rfl, h1, h2, h3, h4, rfl⟩ := trodVars_one h
  obtain rfl := Option.some.inj (hg.symm.trans h1)
  obtain rfl := Option.some.inj (ht.symm.trans h2)
  have hgl : g < W.heap.size := by
    unfold World.var? at h3
    rw [hg] at h3
    simp only [Option.bind_some] at h3
    rcases Nat.lt_or_ge g W.heap.size with h | h
    · exact h
    · rw [Array.getElem?_eq_none h] at h3; cases h3
  refine ⟨_, g, t, cs, fuel, p, [], h1, h2, ?_, ?_, rfl, rfl⟩
  · unfold World.var? at h3 ⊢
    rw [hg] at h3 ⊢
    simp only [Option.bind_some] at h3 ⊢
    rw [hb.block g hgl]; exact h3
  · exact DataW.trod_stays (kids_book laid_out hr) (book_sized hr) (fun h => by cases h) ⟨hrow, book_self t⟩ h4 (fun x hx => hb.same (hlt x (by simp; exact .inr hx))) (fun x hx => by simpa using hlt x (by simp; exact .inr hx))

end Go.Proofs.YtgfopieojpjddaaDoor
