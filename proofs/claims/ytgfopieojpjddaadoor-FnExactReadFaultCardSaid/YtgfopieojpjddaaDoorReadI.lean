/-
  ReadDecimal, in the program.
-/
import Derived.Test.YtgfopieojpjddaaDoorDecI
import Derived.Test.YtgfopieojpjddaaDoorNum
import Derived.Test.YtgfopieojpjddaaDoorShNum
import Derived.Lib.SmallJoins
import Derived.Lib.Strings
namespace Go.Proofs.YtgfopieojpjddaaDoor
open Go.RowKit

/-- The library's variables that reading a number meets: the table of powers of ten; two errors. -/
structure RdDoor (w : World) : Prop where
  tab : PowTab w
  syn : ∃ ev, w.cell? ⟨3, 0, none⟩ = some ev ∧ ∃ te pe, ev = .iface te pe
  rng : ∃ ev, w.cell? ⟨4, 0, none⟩ = some ev ∧ ∃ te pe, ev = .iface te pe
theorem rdDoor_below {w w' : World} (h : RdDoor w) (hb : Below w.heap.size w w') : RdDoor w' := by
  obtain ⟨h1, ⟨e2, h2, h3⟩, ⟨e4, h4, h5⟩⟩ := h
  exact ⟨powTab_below h1 hb, ⟨e2, kept hb h2, h3⟩, ⟨e4, kept hb h4, h5⟩⟩

theorem dec_ne {s : ByteArray} {n : Int} (h : ¬ ∃ v, isDec s v) (h1 : -1000000000000000000 < n) (h2 : n < 1000000000000000000) : ¬ (⟨(Lib.itoa n).toArray⟩ : ByteArray) = s :=
  fun e => h ⟨n, by omega, e.symm⟩
/-- Two texts that part, as the walk asks. -/
theorem str_ne {a b : ByteArray} (h : ¬ a = b) : (a.toList == b.toList) = false := by
  rw [beq_eq_false_iff_ne]
  intro e
  rw [Lib.toList_data, Lib.toList_data] at e
  exact h (WideShapes.bytes_inj e)
theorem i64_at {n : Int} (h1 : -9223372036854775808 ≤ n) (h2 : n ≤ 9223372036854775807) : I64 n := by
  unfold I64
  simp [Lit.wf, IntKind.min, IntKind.max, IntKind.signed, IntKind.bits]
  exact ⟨h1, h2⟩

set_option maxRecDepth 100000 in
set_option maxHeartbeats 2000000 in
theorem implReadDecimal (s : ByteArray) (w : World) (hs : s.size ≤ 1048576) (hD : RdDoor w) :
    Calls Tryd.prog 31 #[.string s] w fun e w' => e = .returned (.tuple #[.int .i64 (rdR s).1, .bool (rdR s).2]) ∧ Below w.heap.size w w' := by
  by_cases hx : ∃ v, isDec s v
  · obtain ⟨v, hv⟩ := hx
    have hr := rdR_yes hv
    obtain ⟨hv, hsv⟩ := hv
    have c1 := (Tryd.strconv_ParseInt_10_at64_ok s (by omega) v (by rw [hsv]; simpa using parse_itoa hv) w).mono (R' := fun e w' => e = .returned (.tuple #[.int .i64 v, .nilIface]) ∧ Below w.heap.size w w')
      fun e w' ⟨he, hb⟩ => ⟨he, by rcases hb with rfl | ⟨t, rfl⟩; exact Below.refl _ _; exact Joins.below_bytesWorld _ _ _ _ (Nat.le_refl _)⟩
    have c2 := fun w1 (hb : Below w.heap.size w w1) => implDecimal v w1 (i64_at (by omega) (by omega)) (powTab_below hD.tab hb)
    have h1 : -1000000000000000000 < v := by omega
    have h2 : v < 1000000000000000000 := by omega
    rw [← hsv] at c2
    have HR := Lib.hid hr
    clear hD hv hsv hr hs
    go_enter Tryd.func31, Tryd.ntmps31
    go_wp2_with (first | (go_at_call 72; refine c1.mono ?_; rintro e w1 ⟨rfl, hb⟩) | (go_at_call 73; refine (c2 _ hb).mono ?_; rintro e w2 ⟨rfl, hb2⟩))
    go_ret2
    exact ⟨by rw [HR.out]; rfl, hb.trans (hb2.mono hb.size)⟩
  · have HR := Lib.hid (rdR_no hx)
    cases hp : Lib.parseIntB 64 s.data.toList with
    | ok n =>
      have c1 := (Tryd.strconv_ParseInt_10_at64_ok s (by omega) n hp w).mono (R' := fun e w' => e = .returned (.tuple #[.int .i64 n, .nilIface]) ∧ Below w.heap.size w w')
        fun e w' ⟨he, hb⟩ => ⟨he, by rcases hb with rfl | ⟨t, rfl⟩; exact Below.refl _ _; exact Joins.below_bytesWorld _ _ _ _ (Nat.le_refl _)⟩
      have hT := hD.tab
      clear hD hp hs
      by_cases h1 : n ≤ -1000000000000000000
      · clear hx hT
        go_enter Tryd.func31, Tryd.ntmps31
        go_wp2_with (go_at_call 72; refine c1.mono ?_; rintro e w1 ⟨rfl, hb⟩)
        go_ret2
        exact ⟨by rw [HR.out]; rfl, hb⟩
      by_cases h2 : 1000000000000000000 ≤ n
      · clear hx hT
        go_enter Tryd.func31, Tryd.ntmps31
        go_wp2_with (go_at_call 72; refine c1.mono ?_; rintro e w1 ⟨rfl, hb⟩)
        go_ret2
        exact ⟨by rw [HR.out]; rfl, hb⟩
      have c2 := fun w1 (hb : Below w.heap.size w w1) => implDecimal n w1 (i64_at (by omega) (by omega)) (powTab_below hT hb)
      have hne := dec_ne hx (by omega) (by omega : n < 1000000000000000000)
      clear hx hT
      obtain ⟨S, hS⟩ : ∃ S : ByteArray, S = ⟨(Lib.itoa n).toArray⟩ := ⟨_, rfl⟩
      rw [← hS] at c2 hne
      have hneb := str_ne hne
      clear hS
      go_enter Tryd.func31, Tryd.ntmps31
      go_wp2_with (first | (go_at_call 72; refine c1.mono ?_; rintro e w1 ⟨rfl, hb⟩) | (go_at_call 73; refine (c2 _ hb).mono ?_; rintro e w2 ⟨rfl, hb2⟩))
      go_ret2
      exact ⟨by rw [HR.out]; rfl, hb.trans (hb2.mono hb.size)⟩
    | range =>
      obtain ⟨ev, h1, h2⟩ := hD.rng
      have c1 := Tryd.strconv_ParseInt_10_at64_range s (by omega) hp ev w h1 (.inr h2)
      clear hD h1 h2 hp hx
      go_enter Tryd.func31, Tryd.ntmps31
      go_wp2_with (go_at_call 72; refine c1.mono ?_; rintro e w1 ⟨N, rfl, _, _, hb⟩; clear c1)
      go_ret2
      exact ⟨by rw [HR.out]; rfl, hb⟩
    | _ =>
      obtain ⟨ev, h1, h2⟩ := hD.syn
      have c1 := Tryd.strconv_ParseInt_10_at64_syntax s (by omega) (hp.trans rfl) ev w h1 (.inr h2)
      clear hD h1 h2 hp hx
      go_enter Tryd.func31, Tryd.ntmps31
      go_wp2_with (go_at_call 72; refine c1.mono ?_; rintro e w1 ⟨N, rfl, _, _, hb⟩; clear c1)
      go_ret2
      exact ⟨by rw [HR.out]; rfl, hb⟩
end Go.Proofs.YtgfopieojpjddaaDoor
