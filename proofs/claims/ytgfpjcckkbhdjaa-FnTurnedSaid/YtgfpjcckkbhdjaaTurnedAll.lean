/-
  Several texts in one: BusyM, TurnedM, PairS, DrumS, DrumT, TurnS, Assert, BrkI, BrkS, SlMax, BusyI, BusyS, Dec, MarkT, Left, StrS, F6, DrawI, DrawK, TurnedW.
-/
import Derived.Test.YtgfpjcckkbhdjaaDrumM
import Derived.Test.YtgfpjcckkbhdjaaAr
import Derived.Test.YtgfpjcckkbhdjaaTurnM
import Derived.Test.YtgfpjcckkbhdjaaMinus
import Derived.Test.YtgfpjcckkbhdjaaAddS
import Derived.Test.YtgfpjcckkbhdjaaSubS
import Derived.Test.YtgfpjcckkbhdjaaDrumI
import Derived.Test.YtgfpjcckkbhdjaaApp
import Derived.Test.YtgfpjcckkbhdjaaToI
import Derived.Test.YtgfpjcckkbhdjaaRow
import Derived.Test.YtgfpjcckkbhdjaaDrumK
import Derived.Test.YtgfpjcckkbhdjaaOkI
import Derived.Test.YtgfpjcckkbhdjaaOkS
import Derived.Test.YtgfpjcckkbhdjaaProg
import Derived.Test.YtgfpjcckkbhdjaaBase
import Derived.Test.YtgfpjcckkbhdjaaFlat
import Derived.Test.YtgfpjcckkbhdjaaDrawG
import Derived.Test.YtgfpjcckkbhdjaaTurnI
import Derived.Test.YtgfpjcckkbhdjaaSameReg
import Derived.Test.YtgfpjcckkbhdjaaBytes
import Derived.Test.YtgfpjcckkbhdjaaDrawN
import Derived.Test.YtgfpjcckkbhdjaaDrawP
import Derived.Laws.Entries
import Derived.Lib.MinMax
import Derived.Lib.ItoaNum
import Derived.Laws.IdiomStrings
import Derived.Lib.SmallJoins
import Derived.Lib.Strings

/- BusyM -/
namespace Go.Proofs.Ytgfpjcckkbhdjaa

/-- BusiestTime. -/
def busyR (K B T F b : Int) (ds : List Int) : Int × Int × Int :=
  if drumB K B T F = true ∧ okB b ds = true then (if b = B then ((bestTo (cntR K B T F ds) T.toNat : Nat), nth (cntR K B T F ds) (bestTo (cntR K B T F ds) T.toNat), 0) else (0, 0, 6)) else (0, 0, 1)
theorem allT_len {K B T F : Int} : ∀ {ds : List Int}, (∀ d ∈ ds, d < 16) → (allT K B T F ds).length ≤ 16 * ds.length
  | [], _ => by simp [allT]
  | d :: ds, h => by
    have h1 := h d (List.mem_cons_self ..)
    have h2 := allT_len (K := K) (B := B) (T := T) (F := F) (ds := ds) (fun x hx => h x (List.mem_cons_of_mem _ hx))
    have e : allT K B T F (d :: ds) = tms K B T F d ++ allT K B T F ds := by simp [allT]
    rw [e, List.length_append, tms_len, List.length_cons]
    omega
theorem allT_mem {K B T F t : Int} {ds : List Int} (h : Drm K B T F) (hd : ∀ d ∈ ds, d < B) (ht : t ∈ allT K B T F ds) : 1 ≤ t ∧ t ≤ T := by
  unfold allT at ht
  obtain ⟨d, h1, h2⟩ := List.mem_flatMap.1 ht
  exact tms_mem h (hd d h1) h2
theorem rep_nth (n j : Nat) : nth (List.replicate n 0) j = 0 := by
  unfold nth
  rw [List.getElem?_replicate]
  split <;> rfl
theorem cnt_bd {K B T F : Int} {ts : List Int} (h : ∀ t ∈ ts, 1 ≤ t ∧ t ≤ T) (j : Nat) : 0 ≤ nth (cntT K B T F ts) j ∧ nth (cntT K B T F ts) j ≤ ts.length := by
  unfold cntT
  rw [bumps_nth (T := T) ts _ (fun t ht => by have := h t ht; omega) (by rw [List.length_replicate]; omega), rep_nth]
  have := List.length_filter_le (fun t : Int => decide (t.toNat = j)) ts
  omega
theorem take_snocI {xs : List Int} {k : Nat} (h : k < xs.length) : xs.take (k + 1) = xs.take k ++ [nth xs k] := by
  rw [List.take_succ_eq_append_getElem h, nth_get h]
theorem bestTo_cast {cs : List Int} {n : Nat} : bestTo cs n ≤ n := bestTo_le cs n
theorem bestTo_step (cs : List Int) (n : Nat) : nth cs (bestTo cs (n + 1)) = max (nth cs (bestTo cs n)) (nth cs (n + 1)) := by
  rw [bestTo]
  split <;> omega
/-- A filter of a strictly growing list keeps at most one of equal numbers. -/
theorem eq_le_one {j : Nat} : ∀ (l : List Int), (∀ x ∈ l, 0 ≤ x) → l.Pairwise (· < ·) → (l.filter fun t : Int => decide (t.toNat = j)).length ≤ 1
  | [], _, _ => by simp
  | x :: l, h0, hp => by
    rw [List.pairwise_cons] at hp
    have ih := eq_le_one (j := j) l (fun y hy => h0 y (List.mem_cons_of_mem _ hy)) hp.2
    rw [List.filter_cons]
    split
    · rename_i hx
      have hx' : x.toNat = j := by simpa using hx
      have : (l.filter fun t : Int => decide (t.toNat = j)) = [] := by
        rw [List.filter_eq_nil_iff]
        intro y hy
        have := hp.1 y hy
        have := h0 x (List.mem_cons_self ..)
        simp
        omega
      rw [this]; simp
    · exact ih
theorem tms_up {K B T F d : Int} (h : Drm K B T F) (h2 : d < B) : (tms K B T F d).Pairwise (· < ·) := by
  have key : ∀ n : Nat, n ≤ d.toNat → (tmsN K B T F d n).Pairwise (· < ·) ∧ ∀ x ∈ tmsN K B T F d n, ∀ m : Nat, n ≤ m → m < d.toNat → x < tm K B T F d m := by
    intro n
    induction n with
    | zero => intro _; simp [tmsN]
    | succ n ih =>
      intro hn
      obtain ⟨i1, i2⟩ := ih (by omega)
      rw [tmsN_succ]
      have step : ∀ k : Nat, n + k + 1 < d.toNat → tm K B T F d (n : Int) < tm K B T F d ((n + k + 1 : Nat) : Int) := by
        intro k
        induction k with
        | zero => intro hk; have := tm_mono h (k := (n : Int)) (by omega) (by omega) h2; exact_mod_cast this
        | succ k ihk =>
          intro hk
          have a := ihk (by omega)
          have b := tm_mono h (k := ((n + k + 1 : Nat) : Int)) (by omega) (by omega) h2
          have : ((n + k + 1 : Nat) : Int) + 1 = ((n + (k + 1) + 1 : Nat) : Int) := by omega
          rw [this] at b
          omega
      refine ⟨List.pairwise_append.2 ⟨i1, by simp, ?_⟩, ?_⟩
      · intro x hx y hy
        have : y = tm K B T F d (n : Int) := by simpa using hy
        rw [this]; exact i2 x hx n (Nat.le_refl _) (by omega)
      · intro x hx m h1 h3
        rcases List.mem_append.1 hx with hx | hx
        · exact i2 x hx m (by omega) h3
        · have : x = tm K B T F d (n : Int) := by simpa using hx
          rw [this]
          have := step (m - (n + 1)) (by omega)
          rwa [show n + (m - (n + 1)) + 1 = m by omega] at this
  exact (key _ (Nat.le_refl _)).1
/-- No time has more steps than there are wheels. -/
theorem cnt_wheels {K B T F : Int} {ds : List Int} (h : Drm K B T F) (hd : ∀ d ∈ ds, d < B) (j : Nat) : nth (cntR K B T F ds) j ≤ ds.length := by
  unfold cntR cntT
  rw [bumps_nth (T := T) _ _ (fun t ht => by have := allT_mem h hd ht; omega) (by rw [List.length_replicate]; omega), rep_nth]
  have key : ∀ es : List Int, (∀ d ∈ es, d < B) → ((allT K B T F es).filter fun t : Int => decide (t.toNat = j)).length ≤ es.length := by
    intro es
    induction es with
    | nil => intro _; simp [allT]
    | cons e es ih =>
      intro he
      have e1 : allT K B T F (e :: es) = tms K B T F e ++ allT K B T F es := by simp [allT]
      have e2 := ih (fun x hx => he x (List.mem_cons_of_mem _ hx))
      have e3 := eq_le_one (j := j) (tms K B T F e) (fun x hx => by have := tms_mem h (he e (List.mem_cons_self ..)) hx; omega) (tms_up h (he e (List.mem_cons_self ..)))
      rw [e1, List.filter_append, List.length_append, List.length_cons]
      omega
  have := key ds hd
  omega
end Go.Proofs.Ytgfpjcckkbhdjaa

/- TurnedM -/
namespace Go.Proofs.Ytgfpjcckkbhdjaa

section
variable {K B T F b d t x : Int} {xs ys ds : List Int}
/-- A turn that comes out: a whole one moves each wheel by its digit, or doesn't fit. -/
theorem whole_turn (h : (turnR K B T F b xs d ys t).2.2 = 0) : xs.length = ys.length ∧ drumB K B T F = true ∧ 2 ≤ B ∧ B ≤ 16 ∧
    ((turnR K B T F b xs d ys T).2.2 = 5 ∨ turnR K B T F b xs d ys T = (B, tab (fun k => (nth xs k + nth ys k) % B) xs.length, 0)) := by
  cases hd : drumB K B T F with
  | false => rw [turn_bad hd] at h; simp at h
  | true =>
    have hD := drm_of hd
    have a1 := hD.b1; have a2 := hD.b2; have a3 := hD.t1; have a4 := hD.t2
    by_cases h2 : twoE b xs d ys = 0
    · obtain ⟨o1, o2, e1, e2⟩ := twoE_zero h2
      by_cases h3 : b = B
      · refine ⟨e2, rfl, a1, a2, ?_⟩
        rw [turn_fin hd h2 h3 (inB_yes (by omega) (by omega))]
        have et : tab (turnD K B T F xs ys T) xs.length = tab (fun k => (nth xs k + nth ys k) % B) xs.length := by
          refine tab_ext fun k hk => ?_
          have hy := digit_of_ok o2 k (by omega)
          unfold turnD
          rw [by_turn hD (by omega)]
        rw [et]
        unfold finR
        split
        · exact .inr rfl
        · exact .inl rfl
      · rw [turn_state hd h2 h3] at h; simp at h
    · rw [turn_two hd h2] at h; exact absurd h h2
theorem whole_digits (h : (turnR K B T F b xs d ys t).2.2 = 0) : (∀ k, k < xs.length → 0 ≤ nth xs k ∧ nth xs k < 16) ∧ (∀ k, k < ys.length → 0 ≤ nth ys k ∧ nth ys k < 16) := by
  cases hd : drumB K B T F with
  | false => rw [turn_bad hd] at h; simp at h
  | true =>
    by_cases h2 : twoE b xs d ys = 0
    · obtain ⟨o1, o2, _, _⟩ := twoE_zero h2
      have p1 := (okB_spec o1).2.1
      have p2 := (okB_spec o2).2.1
      exact ⟨fun k hk => by have := digit_of_ok o1 k hk; omega, fun k hk => by have := digit_of_ok o2 k hk; omega⟩
    · rw [turn_two hd h2] at h; exact absurd h h2
/-- Broken teeth make steps missing only. -/
theorem broken_only (h : (brR K B T F d x).2 = 0) : 0 ≤ (brR K B T F d x).1 ∧ (brR K B T F d x).1 ≤ d := by
  unfold brR at h ⊢
  by_cases h1 : codeR K B T F d = 0
  · rw [if_pos h1] at h ⊢
    have hd : 0 ≤ d := by
      unfold codeR at h1
      split at h1
      · split at h1
        · omega
        · cases h1
      · cases h1
    split
    · split
      · rename_i h2 h3; rw [if_pos h2, if_pos h3] at h; simp at h
      · have := brN_le K B d x d.toNat
        exact ⟨by simp, by show ((brN K B d x d.toNat : Nat) : Int) ≤ d; omega⟩
    · rename_i h2; rw [if_neg h2] at h; simp at h
  · rw [if_neg h1] at h; exact absurd h h1
/-- No time has more steps than wheels. -/
theorem busy_only (h : (busyR K B T F b ds).2.2 = 0) : (busyR K B T F b ds).2.1 ≤ ds.length := by
  unfold busyR at h ⊢
  split
  · rename_i h1
    rw [if_pos h1] at h
    split
    · rename_i h2
      refine cnt_wheels (drm_of h1.1) (fun e he => ?_) _
      have := (okB_spec h1.2).2.2.2.2.1 e he
      omega
    · rename_i h2; rw [if_neg h2] at h; simp at h
  · rename_i h1; rw [if_neg h1] at h; simp at h
end
end Go.Proofs.Ytgfpjcckkbhdjaa

/- PairS -/
namespace Go.Proofs.Ytgfpjcckkbhdjaa
open Go.RowKit

set_option maxRecDepth 100000 in
set_option maxHeartbeats 1000000 in
theorem specValueOf (xB : Int) (xA : Option Addr) (xC : Nat) (xZ : List Int) (w : World) (ha : Rd w xA xZ) (_ : All64 xZ) (_ : I64 xB) :
    Calls Try.prog 32 #[.agg #[.int .i64 xB, .slice xA xZ.length xC]] w fun e w' => e = .returned (.tuple #[.int .i64 (vofR xB xZ).1, .int .i64 (vofR xB xZ).2]) ∧ Below w.heap.size w w' := by
  have hbel : Below w.heap.size w (w.alloc (.cells #[.int .i64 xB, .slice xA xZ.length xC] 26)) := (Below.refl _ _).alloc (Nat.le_refl _) _
  cases h : okB xB xZ with
  | false =>
    have HV := Lib.hid (show vofR xB xZ = (0, 1) by simp [vofR, h])
    have H := Lib.hid h
    clear h
    go_enter Try.func32, Try.ntmps32
    go_wp2_with fail
    refine (l02Ok_at0 w.heap.size xB xA xC xZ _ H.out (ha.below hbel) (by go_simp) (by go_simp)).mono ?_
    rintro e w1 ⟨rfl, n, rfl⟩
    go_wp2
    refine bodyPost_ret (v := .tuple #[.int .i64 0, .int .i64 1]) (by simp [results, Try.results32, go_sem]) rfl ?_
    exact ⟨by rw [HV.out], bel_drewN hbel _⟩
  | true =>
    have HV := Lib.hid (show vofR xB xZ = (valR xB xZ, 0) by simp [vofR, h])
    have H := Lib.hid h
    have HO := Lib.hid (okB_spec h)
    clear h
    go_enter Try.func32, Try.ntmps32
    go_wp2_with fail
    refine (l02Ok_at0 w.heap.size xB xA xC xZ _ H.out (ha.below hbel) (by go_simp) (by go_simp)).mono ?_
    rintro e w1 ⟨rfl, n, rfl⟩
    go_wp2_with (go_at_call 124; refine (l02Value_any xB xA xC xZ _ ((ha.below hbel).drewN n) HO.out.1 HO.out.2.1 HO.out.2.2.2.2.1).mono ?_; rintro e w1 ⟨rfl, rfl⟩)
    refine bodyPost_ret (v := .tuple #[.int .i64 (capV xB xZ), .int .i64 0]) (by simp [results, Try.results32, go_sem]) rfl ?_
    exact ⟨by rw [HV.out, capV_ok HO.out.1 HO.out.2.2.2.2.1 HO.out.2.2.2.2.2], bel_drewN hbel _⟩

set_option maxRecDepth 100000 in
set_option maxHeartbeats 1000000 in
theorem specCarriesOf (xB : Int) (xA : Option Addr) (xC : Nat) (xZ : List Int) (yB : Int) (yA : Option Addr) (yC : Nat) (yZ : List Int) (w : World) (ha : Rd w xA xZ) (_ : All64 xZ) (_ : I64 xB) (hb : Rd w yA yZ) (_ : All64 yZ) (_ : I64 yB) :
    Calls Try.prog 21 #[.agg #[.int .i64 xB, .slice xA xZ.length xC], .agg #[.int .i64 yB, .slice yA yZ.length yC]] w fun e w' => ∃ A C,
      e = .returned (.tuple #[.slice A (carR xB xZ yB yZ).1.length C, .int .i64 (carR xB xZ yB yZ).2]) ∧ Own 2 w' w.heap.size w'.heap.size (.slice A (carR xB xZ yB yZ).1.length C) (carR xB xZ yB yZ).1 ∧ Below w.heap.size w w' := by
  have hx16 := fun h : twoE xB xZ yB yZ = 0 => okB_spec (twoE_zero h).1
  go_enter Try.func21, Try.ntmps21
  go_wp2_with fail
  obtain ⟨u, hu⟩ : ∃ u, u = (w.alloc (.cells #[.int .i64 xB, .slice xA xZ.length xC] 26)).alloc (.cells #[.int .i64 yB, .slice yA yZ.length yC] 26) := ⟨_, rfl⟩
  rw [← hu]
  have hbel : Below w.heap.size w u := by rw [hu]; exact (by repeat (first | exact Below.refl _ _ | refine Below.setCell ?_ (by first | omega | (simp <;> omega)) _ | refine Below.alloc ?_ (by first | omega | (simp <;> omega)) _ | refine Below.drew ?_))
  have c0 : u.cell? ⟨w.heap.size, 0, none⟩ = some (.int .i64 xB) := by rw [hu]; go_simp
  have c1 : u.cell? ⟨w.heap.size, 1, none⟩ = some (.slice xA xZ.length xC) := by rw [hu]; go_simp
  have d0 : u.cell? ⟨w.heap.size + 1, 0, none⟩ = some (.int .i64 yB) := by rw [hu]; go_simp
  have d1 : u.cell? ⟨w.heap.size + 1, 1, none⟩ = some (.slice yA yZ.length yC) := by rw [hu]; go_simp
  replace ha := ha.below hbel
  replace hb := hb.below hbel
  clear hu
  refine (l02Two_any w.heap.size (w.heap.size + 1) xB yB xA yA xC yC xZ yZ u ha hb c0 c1 d0 d1).mono ?_
  rintro e w1 ⟨rfl, n, rfl⟩
  by_cases h : twoE xB xZ yB yZ = 0
  · have HR := Lib.hid (show carR xB xZ yB yZ = (tab (cK xB xZ yZ) (xZ.length + 1), 0) by simp [carR, h])
    have HX := Lib.hid (hx16 h)
    have HW := Lib.hid (twoE_zero h)
    have ht : (twoE xB xZ yB yZ != 0) = false := by simp [h]
    clear h hx16
    go_wp2_with (go_at_call 111; refine (l02Carries_any w.heap.size (w.heap.size + 1) xB yB xA yA xC yC xZ yZ _ (ha.drewN n) (hb.drewN n) HX.out.1 HX.out.2.1 HX.out.2.2.2.1 HW.out.2.2.2 (digit_of_ok HW.out.1) (by have h1 := HW.out.2.2; intro k hk; have h2 := digit_of_ok HW.out.2.1 k (by omega); omega) c0 c1 d0 d1).mono ?_; rintro e w1 ⟨A, C, rfl, hown, hb1⟩)
    refine bodyPost_ret (v := .tuple #[.slice A (xZ.length + 1) C, .int .i64 0]) (by simp [results, Try.results21, go_sem]) rfl ?_
    refine ⟨A, C, ?_, ?_, (bel_drewN hbel _).trans (hb1.mono (by have := hbel.size; simpa using this))⟩
    · rw [HR.out]; simp [tab_len]
    · rw [HR.out]; simpa [tab_len] using hown.wide (by have := hbel.size; simpa using this) (Nat.le_refl _)
  · have HR := Lib.hid (show carR xB xZ yB yZ = ([], twoE xB xZ yB yZ) by simp [carR, h])
    have ht : (twoE xB xZ yB yZ != 0) = true := by simp [h]
    clear h hx16
    go_wp2
    refine bodyPost_ret (v := .tuple #[.slice none 0 0, .int .i64 (twoE xB xZ yB yZ)]) (by simp [results, Try.results21, go_sem]) rfl ?_
    refine ⟨none, 0, ?_, ?_, bel_drewN hbel _⟩
    · rw [HR.out]; rfl
    · rw [HR.out]; exact own_nil _ _ _ _
end Go.Proofs.Ytgfpjcckkbhdjaa

/- DrumS -/
namespace Go.Proofs.Ytgfpjcckkbhdjaa
open Go.RowKit

theorem own_lit0 (e : TypeId) (w : World) : Own e (w.alloc (.cells #[] e)) w.heap.size (w.heap.size + 1) (.slice (some ⟨w.heap.size, 0, none⟩) 0 0) [] :=
  own_of_row (zs := []) (by simpa using row_new e 1 w #[] 0 (by simp) (by omega)) rfl (by simp)

set_option maxHeartbeats 1000000 in
theorem l05Code_any (p : Nat) (K B T F d : Int) (w : World) (h : DrumAt w p K B T F) : Calls Try.prog 175 #[.pointer (some ⟨p, 0, none⟩), .int .i64 d] w fun e w' => e = .returned (.int .i64 (codeR K B T F d)) ∧ ∃ k, w' = w.drewN k := by
  have HV := Lib.hid (l05Ok_any p K B T F w h)
  obtain ⟨c0, c1, c2, c3⟩ := h
  cases hb : drumB K B T F with
  | false =>
    have HR := Lib.hid (codeR_bad (d := d) hb)
    rw [hb] at HV
    clear hb
    go_enter Try.func175, Try.ntmps175
    go_wp2_with fail
    refine HV.out.mono ?_
    rintro e w1 ⟨rfl, k, rfl⟩
    go_wp2
    go_ret
    exact ⟨ret_int HR.out.symm, _, rfl⟩
  | true =>
    have hB1 := (drm_of hb).b1
    have hB2 := (drm_of hb).b2
    rw [hb] at HV
    cases hd : inB d 0 (B - 1) with
    | false =>
      have HR := Lib.hid (codeR_range (d := d) hb (by have := inB_false hd; omega))
      clear hb
      go_enter Try.func175, Try.ntmps175
      go_wp2_with fail
      refine HV.out.mono ?_
      rintro e w1 ⟨rfl, k, rfl⟩
      go_wp2_with (go_at_call 132; refine (l00In_any _ _ _ _).mono ?_; rintro e w2 ⟨rfl, hq⟩; subst w2)
      go_ret
      exact ⟨ret_int HR.out.symm, _, rfl⟩
    | true =>
      have HR := Lib.hid (codeR_ok (d := d) hb (inB_true hd))
      clear hb
      go_enter Try.func175, Try.ntmps175
      go_wp2_with fail
      refine HV.out.mono ?_
      rintro e w1 ⟨rfl, k, rfl⟩
      go_wp2_with (go_at_call 132; refine (l00In_any _ _ _ _).mono ?_; rintro e w2 ⟨rfl, hq⟩; subst w2)
      go_ret
      exact ⟨ret_int HR.out.symm, _, rfl⟩

set_option maxHeartbeats 2000000 in
theorem l05Time_any (p : Nat) (K B T F d k : Int) (w : World) (h : DrumAt w p K B T F) (hD : Drm K B T F) (h1 : 0 ≤ d) (h2 : d < B) (k1 : 0 ≤ k) (k2 : k < d) :
    Calls Try.prog 176 #[.pointer (some ⟨p, 0, none⟩), .int .i64 d, .int .i64 k] w fun e w' => e = .returned (.int .i64 (tm K B T F d k)) ∧ ∃ n, w' = w.drewN n := by
  obtain ⟨c0, c1, c2, c3⟩ := h
  have a1 := hD.k1; have a2 := hD.k2; have b1 := hD.b1; have b2 := hD.b2; have t1 := hD.t1; have t2 := hD.t2
  obtain ⟨f1, f2⟩ := hD.fb
  clear hD
  obtain rfl | rfl | rfl : K = 1 ∨ K = 2 ∨ K = 3 := by omega
  · have v1 : IntKind.i64.wrap (F + B) = F + B := IntWalk.i64_in _ (by omega)
    have v2 : IntKind.i64.wrap (F + B - 1) = F + B - 1 := IntWalk.i64_in _ (by omega)
    have v3 : IntKind.i64.wrap (F + B - 1 - d) = F + B - 1 - d := IntWalk.i64_in _ (by omega)
    have v4 : IntKind.i64.wrap (F + B - 1 - d + k) = F + B - 1 - d + k := IntWalk.i64_in _ (by omega)
    have HR := Lib.hid (show tm 1 B T F d k = F + B - 1 - d + k by rw [tm1]; omega)
    go_enter Try.func176, Try.ntmps176
    go_wp2
    go_quiet (fail)
    go_wp2
    go_ret
    exact ⟨ret_int HR.out.symm, _, rfl⟩
  · have HR := Lib.hid (tm2 B T F d k)
    go_enter Try.func176, Try.ntmps176
    go_wp2
    go_ret
    exact ⟨ret_int HR.out.symm, 0, rfl⟩
  · obtain ⟨m0, m1, m2, m3⟩ := rack_bd (T := T) (d := d) (k := k) (by omega) t2 k1 k2 (by omega)
    obtain ⟨q, hq⟩ : ∃ q, q = (k + 1) * T := ⟨_, rfl⟩
    have hw1 : IntKind.i64.wrap ((k + 1) * T) = q := by rw [← hq]; exact IntWalk.i64_in _ (by omega)
    have hw1' : wrap64 ((k + 1) * T) = q := by rw [← hq]; unfold wrap64; omega
    have hd0 : ¬ (d = 0) := by omega
    have q0 : 0 ≤ q + d - 1 := by omega
    have q1 : q + d - 1 ≤ 1000 := by omega
    have q2 : 0 ≤ q ∧ q ≤ 960 := by omega
    have qd : (q + d - 1).tdiv d = (q + d - 1) / d := Int.tdiv_eq_ediv_of_nonneg (by omega)
    have e2 : tm 3 B T F d k = (q + d - 1) / d := by rw [hq]; rfl
    have hz : wrap64 ((q + d - 1) / d) = (q + d - 1) / d := by
      have z0 := Int.ediv_nonneg q0 h1
      have z1 := Int.ediv_le_self d q0
      unfold wrap64; omega
    have HE := Lib.hid (show wrap64 ((q + d - 1) / d) = tm 3 B T F d k by rw [hz, e2])
    clear hz hq m0 m1 m2 m3 e2
    go_enter Try.func176, Try.ntmps176
    go_wp2
    go_ret
    exact ⟨ret_int HE.out, 0, rfl⟩

set_option maxHeartbeats 2000000 in
theorem l05Times_any (p : Nat) (K B T F d : Int) (w : World) (h : DrumAt w p K B T F) (hD : Drm K B T F) (h1 : 0 ≤ d) (h2 : d < B) :
    Calls Try.prog 180 #[.pointer (some ⟨p, 0, none⟩), .int .i64 d] w fun e w' => ∃ A C, e = .returned (.slice A d.toNat C) ∧ Own 2 w' w.heap.size w'.heap.size (.slice A d.toNat C) (tms K B T F d) ∧ Below w.heap.size w w' := by
  obtain ⟨n, rfl⟩ := Int.eq_ofNat_of_zero_le h1
  have hn16 : n < 16 := by have := hD.b2; omega
  have HM := Lib.hid (fun (k : Nat) (v : World) (hv : DrumAt v p K B T F) (hk : k < n) => l05Time_any p K B T F n k v hv hD h1 h2 (by omega) (by omega))
  clear hD
  go_enter Try.func180, Try.ntmps180
  go_wp2
  go_loopw [5, 6] (fun l i wr => ∃ (k : Nat) (A : Option Addr) (C : Nat), k ≤ n ∧ i = .int .i64 k ∧ l = .slice A k C ∧ Own 2 wr w.heap.size wr.heap.size (.slice A k C) (tmsN K B T F n k) ∧ Below w.heap.size w wr) (fun _ i _ => n - (intOf i).toNat)
  case atStart => exact ⟨0, _, _, Nat.zero_le _, rfl, rfl, by simpa [tmsN] using own_lit0 2 w, (Below.refl _ _).alloc (Nat.le_refl _) _⟩
  case round =>
    obtain ⟨k, A, C, hk, rfl, rfl, own, hbel⟩ := hrel
    by_cases hlt : k < n
    · go_wp2_with fail
      refine (HM.out k _ (h.below hbel) hlt).mono ?_
      rintro e w1 ⟨rfl, m, rfl⟩
      go_wp2_with (at_builtin; go_must (refine wpList_appI rfl (.tmp 13) (.tmp 18) 24 2 rfl Try.underlying24 info_int64 rfl ((own.drewN m).alloc _) (tmsN_len _ _ _ _ _ _) ⟨wr.heap.size, 0, none⟩ 1 (tm K B T F n k) rfl (cell_new1 (wr.drewN m) _ _) (by omega) (by simp; exact Nat.le_succ_of_le hbel.size) ?_); intro A' C' w5 own5 ht5)
      rw [← tmsN_succ] at own5
      go_roundw
      case rel => exact ⟨k + 1, A', C', by omega, by go_num, rfl, own5, ((bel_drewN hbel m).alloc (by simpa using hbel.size) _).trans (ht5.below (Nat.le_refl _) (by simp; have := hbel.size; omega))⟩
      case measure => (simp [intOf]) <;> omega
    · obtain rfl : k = n := by omega
      go_wp2
      go_ret
      exact ⟨A, C, rfl, own, hbel⟩

set_option maxHeartbeats 2000000 in
theorem l05By_any (p : Nat) (K B T F d t : Int) (w : World) (h : DrumAt w p K B T F) (hD : Drm K B T F) (h1 : 0 ≤ d) (h2 : d < B) (t1 : 0 ≤ t) (t2 : t ≤ 100000) :
    Calls Try.prog 169 #[.pointer (some ⟨p, 0, none⟩), .int .i64 d, .int .i64 t] w fun e w' => e = .returned (.int .i64 (byR K B T F d t)) ∧ ∃ n, w' = w.drewN n := by
  obtain ⟨n, rfl⟩ := Int.eq_ofNat_of_zero_le h1
  have hT1 : 2 ≤ T := by have := hD.b1; have := hD.t1; omega
  have hT2 := hD.t2
  have hn16 : n < 16 := by have := hD.b2; omega
  obtain ⟨q0, q1, q2, q3, q4, q5⟩ := by_quo hD h1 h2 t1 t2
  obtain ⟨x, hx⟩ : ∃ x, x = t / T * (n : Int) := ⟨_, rfl⟩
  have HB := Lib.hid (show byR K B T F n t = x + leC (t % T) (tms K B T F n) by rw [byR, hx])
  rw [← hx] at q2 q3
  have hw1 : IntKind.i64.wrap (t / T * (n : Int)) = x := by rw [← hx]; exact IntWalk.i64_in _ (by omega)
  have hw2 : wrap64 (t / T * (n : Int)) = x := by rw [← hx]; unfold wrap64; omega
  have hT0 : ¬ T = 0 := by omega
  have hmod : t.tmod T = t % T := Int.tmod_eq_emod_of_nonneg t1
  have HM := Lib.hid (fun (k : Nat) (v : World) (hv : DrumAt v p K B T F) (hk : k < n) => l05Time_any p K B T F n k v hv hD h1 h2 (by omega) (by omega))
  have H0 := Lib.hid h
  obtain ⟨c0, c1, c2, c3⟩ := h
  clear hx hD c0 c1 c3
  go_enter Try.func169, Try.ntmps169
  go_wp2
  clear hw1 hw2
  go_loopw [7, 8] (fun c i wr => ∃ k m : Nat, k ≤ n ∧ i = .int .i64 k ∧ c = .int .i64 (x + leC (t % T) (tmsN K B T F n k)) ∧ Hid (wr = w.drewN m)) (fun _ i _ => n - (intOf i).toNat)
  case atStart => exact ⟨0, 0, Nat.zero_le _, rfl, by show _ = Value.int .i64 (x + 0); rw [Int.add_zero], Lib.hid rfl⟩
  case round =>
    obtain ⟨k, m, hk, rfl, rfl, HW⟩ := hrel
    have hc := leC_bd (t % T) (tmsN K B T F n k)
    rw [tmsN_len] at hc
    replace c2 : wr.cell? ⟨p, 2, none⟩ = some (.int .i64 T) := by rw [HW.out]; exact c2
    by_cases hlt : k < n
    · have HC := Lib.hid (fun q => HM.out k (wr.drewN q) (by rw [HW.out]; exact (H0.out.drewN m).drewN q) hlt)
      by_cases hle : tm K B T F n k ≤ t % T
      · have HS := Lib.hid (leC_yes (tmsN K B T F n k) hle)
        go_wp2
        go_quiet ((go_at_call 176; exact Calls.quiet_of (HC.out _)))
        go_wp2
        go_roundw
        case rel => exact ⟨k + 1, _, by omega, by go_num, by rw [tmsN_succ, HS.out]; first | go_num | (congr 1; omega), Lib.hid (by rw [HW.out, drewN_drewN])⟩
        case measure => (simp [intOf]) <;> omega
      · have HS := Lib.hid (leC_not (tmsN K B T F n k) hle)
        go_wp2
        go_quiet ((go_at_call 176; exact Calls.quiet_of (HC.out _)))
        go_wp2
        go_roundw
        case rel => exact ⟨k + 1, _, by omega, by go_num, by rw [tmsN_succ, HS.out], Lib.hid (by rw [HW.out, drewN_drewN])⟩
        case measure => (simp [intOf]) <;> omega
    · obtain rfl : k = n := by omega
      go_wp2
      go_ret
      exact ⟨ret_int (by rw [HB.out]; rfl), m, HW.out⟩
end Go.Proofs.Ytgfpjcckkbhdjaa

/- DrumT -/
namespace Go.Proofs.Ytgfpjcckkbhdjaa
open Go.RowKit

end Go.Proofs.Ytgfpjcckkbhdjaa

/- TurnS -/
namespace Go.Proofs.Ytgfpjcckkbhdjaa
open Go.RowKit

set_option maxRecDepth 100000 in
set_option maxHeartbeats 8000000 in
theorem specTurnDrums (K B T F b : Int) (a : Option Addr) (c : Nat) (xs : List Int) (d : Int) (a' : Option Addr) (c' : Nat) (ys : List Int) (t : Int) (w : World) (_ : I64 K ∧ I64 B ∧ I64 T ∧ I64 F) (ha : Rd w a xs) (_ : All64 xs) (_ : I64 b) (hb : Rd w a' ys) (_ : All64 ys) (_ : I64 d) (_ : I64 t) :
    Calls Try.prog 69 #[.agg #[.int .i64 K, .int .i64 B, .int .i64 T, .int .i64 F], .agg #[.int .i64 b, .slice a xs.length c], .agg #[.int .i64 d, .slice a' ys.length c'], .int .i64 t] w (RegC (turnR K B T F b xs d ys t) w) := by
  have hx := ha.len
  obtain ⟨u, hu⟩ : ∃ u, u = ((((w.alloc (.cells #[.int .i64 K, .int .i64 B, .int .i64 T, .int .i64 F] 86)).alloc (.cells #[.int .i64 b, .slice a xs.length c] 26)).alloc (.cells #[.int .i64 d, .slice a' ys.length c'] 26)).alloc (.cells #[.int .i64 0, .slice none 0 0] 26)) := ⟨_, rfl⟩
  have bx : Bx u w.heap.size 86 #[.int .i64 K, .int .i64 B, .int .i64 T, .int .i64 F] := by rw [hu]; exact (((Bx.new _ _ _).alloc _).alloc _).alloc _
  have b1 : Bx u (w.heap.size + 1) 26 #[.int .i64 b, .slice a xs.length c] := by rw [hu]; exact ((by simpa using Bx.new (w.alloc (.cells #[.int .i64 K, .int .i64 B, .int .i64 T, .int .i64 F] 86)) #[.int .i64 b, .slice a xs.length c] 26 : Bx ((w.alloc (.cells #[.int .i64 K, .int .i64 B, .int .i64 T, .int .i64 F] 86)).alloc (.cells #[.int .i64 b, .slice a xs.length c] 26)) (w.heap.size + 1) _ _).alloc _).alloc _
  have b2 : Bx u (w.heap.size + 1 + 1) 26 #[.int .i64 d, .slice a' ys.length c'] := by rw [hu]; exact (by simpa using Bx.new ((w.alloc (.cells #[.int .i64 K, .int .i64 B, .int .i64 T, .int .i64 F] 86)).alloc (.cells #[.int .i64 b, .slice a xs.length c] 26)) #[.int .i64 d, .slice a' ys.length c'] 26 : Bx (((w.alloc (.cells #[.int .i64 K, .int .i64 B, .int .i64 T, .int .i64 F] 86)).alloc (.cells #[.int .i64 b, .slice a xs.length c] 26)).alloc (.cells #[.int .i64 d, .slice a' ys.length c'] 26)) (w.heap.size + 1 + 1) _ _).alloc _
  have b3 : Bx u (w.heap.size + 1 + 1 + 1) 26 #[.int .i64 0, .slice none 0 0] := by rw [hu]; simpa using Bx.new (((w.alloc (.cells #[.int .i64 K, .int .i64 B, .int .i64 T, .int .i64 F] 86)).alloc (.cells #[.int .i64 b, .slice a xs.length c] 26)).alloc (.cells #[.int .i64 d, .slice a' ys.length c'] 26)) #[.int .i64 0, .slice none 0 0] 26
  have hbel : Below w.heap.size w u := by rw [hu]; exact (by repeat (first | exact Below.refl _ _ | refine Below.setCell ?_ (by first | omega | (simp <;> omega)) _ | refine Below.alloc ?_ (by first | omega | (simp <;> omega)) _ | refine Below.drew ?_))
  have HU := Lib.hid hu
  clear hu
  replace ha := ha.below hbel
  replace hb := hb.below hbel
  have HV := Lib.hid (fun v (hv : DrumAt v w.heap.size K B T F) => l05Ok_any w.heap.size K B T F v hv)
  have HP := Lib.hid (fun v (h1 : Rd v a xs) (h2 : Rd v a' ys) => l02Two_any (w.heap.size + 1) (w.heap.size + 1 + 1) b d a a' c c' xs ys v h1 h2)
  cases hd : drumB K B T F with
  | false =>
    have HR := Lib.hid (turn_bad (b := b) (xs := xs) (d := d) (ys := ys) (t := t) hd)
    rw [hd] at HV
    clear hd
    have c0 := bx.at_ 0 rfl
    have c1 := bx.at_ 1 rfl
    have c2 := bx.at_ 2 rfl
    have c3 := bx.at_ 3 rfl
    have x0 := b1.at_ 0 rfl
    have x1 := b1.at_ 1 rfl
    have y0 := b2.at_ 0 rfl
    have y1 := b2.at_ 1 rfl
    have r0 := b3.at_ 0 rfl
    have r1 := b3.at_ 1 rfl
    have f0 := b3.thaw 0
    have f1 := b3.thaw 1
    go_enter Try.func69, Try.ntmps69
    go_wp2_with fail
    rw [← HU.out]
    refine (HV.out _ (DrumAt.of_box bx)).mono ?_
    rintro e w1 ⟨rfl, k1, hw⟩
    have hbk1 : Below u.heap.size u w1 := by rw [hw]; exact bel_drewN (Below.refl _ _) k1
    clear hw
    clear c0 c1 c2 c3 x0 x1 y0 y1 r0 r1 f0 f1
    replace bx := bx.below hbk1
    replace b1 := b1.below hbk1
    replace b2 := b2.below hbk1
    replace b3 := b3.below hbk1
    replace ha := ha.below hbk1
    replace hb := hb.below hbk1
    replace hbel := hbel.trans (hbk1.mono hbel.size)
    clear hbk1
    have c0 := bx.at_ 0 rfl
    have c1 := bx.at_ 1 rfl
    have c2 := bx.at_ 2 rfl
    have c3 := bx.at_ 3 rfl
    have x0 := b1.at_ 0 rfl
    have x1 := b1.at_ 1 rfl
    have y0 := b2.at_ 0 rfl
    have y1 := b2.at_ 1 rfl
    have r0 := b3.at_ 0 rfl
    have r1 := b3.at_ 1 rfl
    have f0 := b3.thaw 0
    have f1 := b3.thaw 1
    have hsz := hbel.size
    go_wp2
    exact bodyPost_ret (v := .tuple #[.agg #[.int .i64 0, .slice none 0 0], .int .i64 1]) (by simp [results, Try.results69, go_sem, r0, r1]) rfl
      (regC_err HR.out rfl (by repeat (first | with_reducible exact hbel | with_reducible refine Below.setCell ?_ (by first | omega | (simp <;> omega)) _ | with_reducible refine Below.alloc ?_ (by first | omega | (simp <;> omega)) _ | with_reducible refine Below.drew ?_)))
  | true =>
    rw [hd] at HV
    by_cases h2 : twoE b xs d ys = 0
    · rw [h2] at HP
      by_cases h3 : b = B
      · have hq : (B != b) = false := by simp [h3]
        cases hi : inB t 0 100000 with
        | false =>
          have HI := Lib.hid hi
          have HR := Lib.hid (turn_time hd h2 h3 hi)
          clear hd h2 h3 hi
          have c0 := bx.at_ 0 rfl
          have c1 := bx.at_ 1 rfl
          have c2 := bx.at_ 2 rfl
          have c3 := bx.at_ 3 rfl
          have x0 := b1.at_ 0 rfl
          have x1 := b1.at_ 1 rfl
          have y0 := b2.at_ 0 rfl
          have y1 := b2.at_ 1 rfl
          have r0 := b3.at_ 0 rfl
          have r1 := b3.at_ 1 rfl
          have f0 := b3.thaw 0
          have f1 := b3.thaw 1
          go_enter Try.func69, Try.ntmps69
          go_wp2_with fail
          rw [← HU.out]
          refine (HV.out _ (DrumAt.of_box bx)).mono ?_
          rintro e w1 ⟨rfl, k1, hw⟩
          have hbk1 : Below u.heap.size u w1 := by rw [hw]; exact bel_drewN (Below.refl _ _) k1
          clear hw
          clear c0 c1 c2 c3 x0 x1 y0 y1 r0 r1 f0 f1
          replace bx := bx.below hbk1
          replace b1 := b1.below hbk1
          replace b2 := b2.below hbk1
          replace b3 := b3.below hbk1
          replace ha := ha.below hbk1
          replace hb := hb.below hbk1
          replace hbel := hbel.trans (hbk1.mono hbel.size)
          clear hbk1
          have c0 := bx.at_ 0 rfl
          have c1 := bx.at_ 1 rfl
          have c2 := bx.at_ 2 rfl
          have c3 := bx.at_ 3 rfl
          have x0 := b1.at_ 0 rfl
          have x1 := b1.at_ 1 rfl
          have y0 := b2.at_ 0 rfl
          have y1 := b2.at_ 1 rfl
          have r0 := b3.at_ 0 rfl
          have r1 := b3.at_ 1 rfl
          have f0 := b3.thaw 0
          have f1 := b3.thaw 1
          go_wp2_with fail
          refine (HP.out _ ha hb x0 x1 y0 y1).mono ?_
          rintro e w2 ⟨rfl, k2, hw⟩
          have hbk2 : Below w1.heap.size w1 w2 := by rw [hw]; exact bel_drewN (Below.refl _ _) k2
          clear hw
          clear c0 c1 c2 c3 x0 x1 y0 y1 r0 r1 f0 f1
          replace bx := bx.below hbk2
          replace b1 := b1.below hbk2
          replace b2 := b2.below hbk2
          replace b3 := b3.below hbk2
          replace ha := ha.below hbk2
          replace hb := hb.below hbk2
          replace hbel := hbel.trans (hbk2.mono hbel.size)
          clear hbk2
          have c0 := bx.at_ 0 rfl
          have c1 := bx.at_ 1 rfl
          have c2 := bx.at_ 2 rfl
          have c3 := bx.at_ 3 rfl
          have x0 := b1.at_ 0 rfl
          have x1 := b1.at_ 1 rfl
          have y0 := b2.at_ 0 rfl
          have y1 := b2.at_ 1 rfl
          have r0 := b3.at_ 0 rfl
          have r1 := b3.at_ 1 rfl
          have f0 := b3.thaw 0
          have f1 := b3.thaw 1
          go_wp2_with (go_at_call 132; refine (l00In_any _ _ _ _).mono ?_; rintro e w3 ⟨rfl, hq⟩; subst w3; rw [HI.out])
          have hsz := hbel.size
          skip
          exact bodyPost_ret (v := .tuple #[.agg #[.int .i64 0, .slice none 0 0], .int .i64 2]) (by simp [results, Try.results69, go_sem, r0, r1]) rfl
            (regC_err HR.out rfl (by repeat (first | with_reducible exact hbel | with_reducible refine Below.setCell ?_ (by first | omega | (simp <;> omega)) _ | with_reducible refine Below.alloc ?_ (by first | omega | (simp <;> omega)) _ | with_reducible refine Below.drew ?_)))
        | true =>
          have HI := Lib.hid hi
          have HR := Lib.hid (turn_fin hd h2 h3 hi)
          have HD := Lib.hid (drm_of hd)
          have HS := Lib.hid (okB_spec (twoE_zero h2).1)
          have HX := Lib.hid (digit_of_ok (twoE_zero h2).1)
          have HY := Lib.hid (digit_of_ok (twoE_zero h2).2.1)
          have HL := Lib.hid (twoE_zero h2).2.2.2
          have HE := Lib.hid h3
          have HE2 := Lib.hid (twoE_zero h2).2.2.1
          obtain ⟨t0, t1⟩ := inB_true hi
          have hB1 := HD.out.b1
          have hB2 := HD.out.b2
          have hl16 := HS.out.2.2.2.1
          clear hd h2 h3 hi
          have c0 := bx.at_ 0 rfl
          have c1 := bx.at_ 1 rfl
          have c2 := bx.at_ 2 rfl
          have c3 := bx.at_ 3 rfl
          have x0 := b1.at_ 0 rfl
          have x1 := b1.at_ 1 rfl
          have y0 := b2.at_ 0 rfl
          have y1 := b2.at_ 1 rfl
          have r0 := b3.at_ 0 rfl
          have r1 := b3.at_ 1 rfl
          have f0 := b3.thaw 0
          have f1 := b3.thaw 1
          go_enter Try.func69, Try.ntmps69
          go_wp2_with fail
          rw [← HU.out]
          refine (HV.out _ (DrumAt.of_box bx)).mono ?_
          rintro e w1 ⟨rfl, k1, hw⟩
          have hbk1 : Below u.heap.size u w1 := by rw [hw]; exact bel_drewN (Below.refl _ _) k1
          clear hw
          clear c0 c1 c2 c3 x0 x1 y0 y1 r0 r1 f0 f1
          replace bx := bx.below hbk1
          replace b1 := b1.below hbk1
          replace b2 := b2.below hbk1
          replace b3 := b3.below hbk1
          replace ha := ha.below hbk1
          replace hb := hb.below hbk1
          replace hbel := hbel.trans (hbk1.mono hbel.size)
          clear hbk1
          have c0 := bx.at_ 0 rfl
          have c1 := bx.at_ 1 rfl
          have c2 := bx.at_ 2 rfl
          have c3 := bx.at_ 3 rfl
          have x0 := b1.at_ 0 rfl
          have x1 := b1.at_ 1 rfl
          have y0 := b2.at_ 0 rfl
          have y1 := b2.at_ 1 rfl
          have r0 := b3.at_ 0 rfl
          have r1 := b3.at_ 1 rfl
          have f0 := b3.thaw 0
          have f1 := b3.thaw 1
          go_wp2_with fail
          refine (HP.out _ ha hb x0 x1 y0 y1).mono ?_
          rintro e w2 ⟨rfl, k2, hw⟩
          have hbk2 : Below w1.heap.size w1 w2 := by rw [hw]; exact bel_drewN (Below.refl _ _) k2
          clear hw
          clear c0 c1 c2 c3 x0 x1 y0 y1 r0 r1 f0 f1
          replace bx := bx.below hbk2
          replace b1 := b1.below hbk2
          replace b2 := b2.below hbk2
          replace b3 := b3.below hbk2
          replace ha := ha.below hbk2
          replace hb := hb.below hbk2
          replace hbel := hbel.trans (hbk2.mono hbel.size)
          clear hbk2
          have c0 := bx.at_ 0 rfl
          have c1 := bx.at_ 1 rfl
          have c2 := bx.at_ 2 rfl
          have c3 := bx.at_ 3 rfl
          have x0 := b1.at_ 0 rfl
          have x1 := b1.at_ 1 rfl
          have y0 := b2.at_ 0 rfl
          have y1 := b2.at_ 1 rfl
          have r0 := b3.at_ 0 rfl
          have r1 := b3.at_ 1 rfl
          have f0 := b3.thaw 0
          have f1 := b3.thaw 1

          go_wp2_with (go_at_call 132; refine (l00In_any _ _ _ _).mono ?_; rintro e w3 ⟨rfl, hq⟩; subst w3; rw [HI.out])
          obtain ⟨V, hV⟩ : ∃ V, V = w2.heap.size := ⟨_, rfl⟩
          have hVw : w.heap.size + 1 + 1 + 1 < V := by rw [hV]; exact b3.lt
          have HVV := Lib.hid hV
          rw [← hV]
          have hst : Bx (w2.alloc (.cells #[.int .i64 b, .slice none 0 0] 26)) V 26 #[.int .i64 B, .slice none 0 0] ∧ Below V w2 (w2.alloc (.cells #[.int .i64 b, .slice none 0 0] 26)) := by
            rw [hV]
            exact ⟨by simpa [HE.out] using Bx.new w2 #[.int .i64 b, .slice none 0 0] 26, (Below.refl _ _).alloc (Nat.le_refl _) _⟩
          clear hq hV
          go_loopw [12, 13] (fun i _ wr => ∃ (k : Nat) (A : Option Addr) (C : Nat), k ≤ xs.length ∧ i = .int .i64 k ∧ Bx wr V 26 #[.int .i64 B, .slice A k C] ∧
            Own 2 wr (V + 1) wr.heap.size (.slice A k C) (tab (turnD K B T F xs ys t) k) ∧ Below V w2 wr) (fun i _ _ => xs.length - (intOf i).toNat)
          case atStart => exact ⟨0, none, 0, Nat.zero_le _, rfl, hst.1, own_nil _ _ _ _, hst.2⟩
          case round =>
            clear c0 c1 c2 c3 x0 x1 y0 y1 r0 r1 f0 f1 hst
            obtain ⟨k, A, C, hk, rfl, dx, hown, hbn⟩ := hrel
            have hbn' : Below w2.heap.size w2 wr := by rw [← HVV.out]; exact hbn
            have hsz := dx.lt
            have x1 := (b1.below hbn').at_ 1 rfl
            have y1 := (b2.below hbn').at_ 1 rfl
            by_cases hlt : k < xs.length
            · have hky : k < ys.length := by have := HL.out; omega
              obtain ⟨p1, o1, rfl, hc1⟩ := (ha.below hbn').at_ hlt
              obtain ⟨p2, o2, rfl, hc2⟩ := (hb.below hbn').at_ hky
              have hX := HX.out k hlt
              have hY := HY.out k hky
              rw [HE.out] at hX
              rw [← HE2.out, HE.out] at hY
              have hby := by_bd HD.out hY.1 hY.2 t0 t1
              have hB0 : ¬ B = 0 := by omega
              obtain ⟨y, hy⟩ : ∃ y, y = byR K B T F (nth ys k) t := ⟨_, rfl⟩
              have HC := Lib.hid (fun v (hv : DrumAt v w.heap.size K B T F) => l05By_any w.heap.size K B T F (nth ys k) t v hv HD.out hY.1 hY.2 t0 t1)
              rw [← hy] at hby HC
              have hw1 : IntKind.i64.wrap (nth xs k + y) = nth xs k + y := IntWalk.i64_in _ (by omega)
              have hrem : (nth xs k + y).tmod B = (nth xs k + y) % B := Int.tmod_eq_emod_of_nonneg (by omega)
              have HT := Lib.hid (show turnD K B T F xs ys t k = (nth xs k + y) % B by rw [turnD, hy])
              clear hy
              go_wp2_with fail
              refine (HC.out _ (DrumAt.of_box (bx.below hbn'))).mono ?_
              rintro e w5 ⟨rfl, q, hw5⟩
              have hb5 : Below wr.heap.size wr w5 := by rw [hw5]; exact bel_drewN (Below.refl _ _) q
              have hs5 : w5.heap.size = wr.heap.size := by rw [hw5]; rfl
              clear hw5
              have hc1' := kept hb5 hc1
              have x1' := kept hb5 x1
              replace dx := dx.below hb5
              replace hown := (hown.below hb5).wide (lo' := V + 1) (hi' := w5.heap.size) (Nat.le_refl _) (by omega)
              have c1 := (bx.below (hbn'.trans (hb5.mono hbn'.size))).at_ 1 rfl
              have hb6 : Below V w2 w5 := hbn.trans (hb5.mono (by omega))
              have p1lt : p1 < V + 1 := by
                obtain ⟨p, off, e, hcc⟩ := ha.at_ hlt
                injection e with e
                injection e with e1 e2 _
                subst e1 e2
                have := World.block_lt_of_cell? _ _ hcc
                simp at this
                have := HVV.out
                omega
              have g1 := kept_lo (L := V + 1) c1 (by omega)
              have g2 := kept_lo (L := V + 1) x1' (by omega)
              have g3 := kept_lo (L := V + 1) hc1' p1lt
              have g4 := kept_lo (L := V + 1) (dx.at_ 1 rfl) (by omega)
              have hsz5 : V < w5.heap.size := by omega
              clear hc1 x1 y1 hb5 hbn hbn' hsz hc2 x1' hc1' c1 hs5
              go_wp2
              refine wp_region_marked (fun w' => Below (V + 1) w5 w') 15 (by kernel_rfl) ?_
              have hS : Below (V + 1) w5 w5.drew := (Below.refl _ _).drew
              refine wpAnyM_take (i := 0) (v := ?_) rfl (by kernel_rfl) (by kernel_rfl) (by kernel_rfl) (by kernel_rfl) (by kernel_rfl) (fun _ _ _ h => h) hS (.inl ⟨by rfl, ?_⟩) ?_
              rotate_left 1
              · intro w' hS'; go_simp; try with_reducible rfl
              simp only [Act.put, List.setIfInBounds_toArray]
              refine wpAnyM_take (i := 1) (v := ?_) rfl (by kernel_rfl) (by kernel_rfl) (by kernel_rfl) (by kernel_rfl) (by kernel_rfl) (fun _ _ _ h => h) hS (.inl ⟨by rfl, ?_⟩) ?_
              rotate_left 1
              · intro w' hS'; go_simp; try with_reducible rfl
              simp only [Act.put]
              refine wpAnyM_take (i := 2) (v := ?_) rfl (by kernel_rfl) (by kernel_rfl) (by kernel_rfl) (by kernel_rfl) (by kernel_rfl) (fun _ _ _ h => h) hS (.inl ⟨by rfl, ?_⟩) ?_
              rotate_left 1
              · intro w' hS'; go_simp; try with_reducible rfl
              simp only [Act.put]
              refine wpAnyM_take (i := 3) (v := ?_) rfl (by kernel_rfl) (by kernel_rfl) (by kernel_rfl) (by kernel_rfl) (by kernel_rfl) (fun _ _ _ h => h) hS (.inl ⟨by rfl, ?_⟩) ?_
              rotate_left 1
              · intro w' hS'; go_simp; try with_reducible rfl
              simp only [Act.put]
              refine wpAnyM_take (i := 4) (v := ?_) rfl (by kernel_rfl) (by kernel_rfl) (by kernel_rfl) (by kernel_rfl) (by kernel_rfl) (fun _ _ _ h => h) hS (.inl ⟨by rfl, ?_⟩) ?_
              rotate_left 1
              · intro w' hS'; go_simp; try with_reducible rfl
              simp only [Act.put]
              refine wpAnyM_take (i := 5) (v := ?_) rfl (by kernel_rfl) (by kernel_rfl) (by kernel_rfl) (by kernel_rfl) (by kernel_rfl) (fun _ _ _ h => h) hS (.inl ⟨by rfl, ?_⟩) ?_
              rotate_left 1
              · intro w' hS'; go_simp; try with_reducible rfl
              simp only [Act.put]
              refine wpAnyM_take (i := 6) (v := ?_) rfl (by kernel_rfl) (by kernel_rfl) (by kernel_rfl) (by kernel_rfl) (by kernel_rfl) (fun _ _ _ h => h) hS (.inl ⟨by rfl, ?_⟩) ?_
              rotate_left 1
              · intro w' hS'; go_simp; try with_reducible rfl
              simp only [Act.put]
              refine wpAnyM_take (i := 7) (v := ?_) rfl (by kernel_rfl) (by kernel_rfl) (by kernel_rfl) (by kernel_rfl) (by kernel_rfl) (fun _ _ _ h => h) hS (.inl ⟨by rfl, ?_⟩) ?_
              rotate_left 1
              · intro w' hS'; go_simp; try with_reducible rfl
              simp only [Act.put]
              refine wpAnyM_take (i := 8) (v := ?_) rfl (by kernel_rfl) (by kernel_rfl) (by kernel_rfl) (by kernel_rfl) (by kernel_rfl) (fun _ _ _ h => h) hS (.inl ⟨by rfl, ?_⟩) ?_
              rotate_left 1
              · intro w' hS'; go_simp; try with_reducible rfl
              simp only [Act.put]
              refine wpAnyM_take (i := 9) (v := ?_) rfl (by kernel_rfl) (by kernel_rfl) (by kernel_rfl) (by kernel_rfl) (by kernel_rfl) (fun _ _ _ h => h) hS (.inl ⟨by rfl, ?_⟩) ?_
              rotate_left 1
              · intro w' hS'; go_simp; try with_reducible rfl
              simp only [Act.put]
              refine wpAnyM_take (i := 10) (v := ?_) rfl (by kernel_rfl) (by kernel_rfl) (by kernel_rfl) (by kernel_rfl) (by kernel_rfl) (fun _ _ _ h => h) hS (.inl ⟨by rfl, ?_⟩) ?_
              rotate_left 1
              · intro w' hS'; go_simp; try with_reducible rfl
              simp only [Act.put]
              refine wpAnyM_take (i := 11) (v := ?_) rfl (by kernel_rfl) (by kernel_rfl) (by kernel_rfl) (by kernel_rfl) (by kernel_rfl) (fun _ _ _ h => h) hS (.inl ⟨by rfl, ?_⟩) ?_
              rotate_left 1
              · intro w' hS'; go_simp; try with_reducible rfl
              simp only [Act.put]
              refine wpAnyM_one (i := 12) (by kernel_rfl) rfl (by rfl) (fun K hK => ?_)
              go_simp
              replace hS := hS.alloc (by simp <;> omega) (.cells #[.int .i64 ((nth xs k + y) % B)] 2)
              refine hK _ _ (.inr hS) ?_
              clear hK K
              try simp only [Act.put, List.setIfInBounds_toArray]
              refine wpAnyM_one (i := 13) (by kernel_rfl) rfl (by rfl) (fun K hK => ?_)
              refine wp_appI (.tmp 50) (.tmp 61) 24 2 rfl Try.underlying24 info_int64 rfl ((hown.drew).alloc _) (tab_len _ _) ⟨w5.heap.size, 0, none⟩ 1 ((nth xs k + y) % B) rfl (by go_simp) (by omega) (by simp <;> omega) ?_
              intro A' C' w1 hown1 ht1
              replace hS : Below (V + 1) w5 w1 := hS.trans (ht1.below (Nat.le_refl _) (by simp <;> omega))
              have dx1 := dx.lo hS (by omega)
              have dc1 := dx1.at_ 1 rfl
              have df1 := dx1.thaw 1
              refine hK _ _ (.inr hS) ?_
              try simp only [Act.put, List.setIfInBounds_toArray]
              clear hK K
              refine wpAnyM_take (i := 14) (v := ?_) rfl (by kernel_rfl) (by kernel_rfl) (by kernel_rfl) (by kernel_rfl) (by kernel_rfl) (fun _ _ _ h => h) hS (.inl ⟨by rfl, ?_⟩) ?_
              rotate_left 1
              · intro w' hS'; go_simp; try with_reducible rfl
              simp only [Act.put]
              refine wpAnyM_one (i := 15) (by kernel_rfl) rfl (by rfl) (fun K hK => ?_)
              go_simp
              refine hK _ _ (.inl rfl) ?_
              clear hK K
              refine wpAnyM_done (by kernel_rfl) ?_ _
              rw [← HT.out, ← tab_succ] at hown1
              go_wp2
              go_roundw
              case rel => exact ⟨k + 1, A', C', by omega, by go_num, by simpa using dx1.set_ 1 (.slice A' (k + 1) C'), (hown1.setCell (p := ⟨V, 1, none⟩) (.inl (by simp)) _).wide (Nat.le_refl _) (by simp), (hb6.trans (hS.mono (Nat.le_succ _))).setCell (p := ⟨V, 1, none⟩) (by simp) _⟩
              case measure => (simp [intOf]) <;> omega
            · obtain rfl : k = xs.length := by omega
              replace b3 := b3.below hbn'
              have r0 := b3.at_ 0 rfl
              have r1 := b3.at_ 1 rfl
              have f0 := b3.thaw 0
              have f1 := b3.thaw 1
              have o0 := dx.at_ 0 rfl
              have o1 := dx.at_ 1 rfl
              replace hbel := hbel.trans (hbn'.mono hbel.size)
              have hwz := hbel.size
              replace hown : Own 2 wr (V + 1) wr.heap.size (.slice A (tab (turnD K B T F xs ys t) xs.length).length C) (tab (turnD K B T F xs ys t) xs.length) := by rw [tab_len]; exact hown
              rw [show (#[Value.int .i64 B, .slice A xs.length C] : Array Value)[1] = .slice A (tab (turnD K B T F xs ys t) xs.length).length C by rw [tab_len]; rfl] at o1
              cases hk : okB B (tab (turnD K B T F xs ys t) xs.length) with
              | true =>
                have HF := Lib.hid (HR.out.trans (show finR B (tab (turnD K B T F xs ys t) xs.length) = (B, tab (turnD K B T F xs ys t) xs.length, 0) by simp [finR, hk]))
                go_wp2_with fail
                refine (l02Ok_at0 V B A C (tab (turnD K B T F xs ys t) xs.length) wr hk hown.rd o0 o1).mono ?_
                rintro e w6 ⟨rfl, n', rfl⟩
                clear hk
                go_wp2
                exact bodyPost_ret (v := .tuple #[.agg #[.int .i64 B, .slice A (tab (turnD K B T F xs ys t) xs.length).length C], .int .i64 0]) (by simp [results, Try.results69, go_sem, r0, r1]) rfl
                  (regC_ok HF.out rfl (lo := V + 1) (hi := wr.heap.size) (((hown.drewN n').setCell (p := ⟨w.heap.size + 1 + 1 + 1, 0, none⟩) (.inl (by simp; omega)) _).setCell (p := ⟨w.heap.size + 1 + 1 + 1, 1, none⟩) (.inl (by simp; omega)) _) (by omega) (by simp) (by repeat (first | with_reducible exact bel_drewN hbel n' | with_reducible refine Below.setCell ?_ (by first | omega | (simp <;> omega)) _ | with_reducible refine Below.alloc ?_ (by first | omega | (simp <;> omega)) _ | with_reducible refine Below.drew ?_)))
              | false =>
                have HF := Lib.hid (HR.out.trans (show finR B (tab (turnD K B T F xs ys t) xs.length) = (0, [], 5) by simp [finR, hk]))
                go_wp2_with fail
                refine (l02Ok_at0 V B A C (tab (turnD K B T F xs ys t) xs.length) wr hk hown.rd o0 o1).mono ?_
                rintro e w6 ⟨rfl, n', rfl⟩
                clear hk
                go_wp2
                exact bodyPost_ret (v := .tuple #[.agg #[.int .i64 0, .slice none 0 0], .int .i64 5]) (by simp [results, Try.results69, go_sem, r0, r1]) rfl
                  (regC_err HF.out rfl (by repeat (first | with_reducible exact bel_drewN hbel n' | with_reducible refine Below.setCell ?_ (by first | omega | (simp <;> omega)) _ | with_reducible refine Below.alloc ?_ (by first | omega | (simp <;> omega)) _ | with_reducible refine Below.drew ?_)))
      · have hq : (B != b) = true := by simp; omega
        have HR := Lib.hid (turn_state (t := t) hd h2 h3)
        clear hd h2 h3
        have c0 := bx.at_ 0 rfl
        have c1 := bx.at_ 1 rfl
        have c2 := bx.at_ 2 rfl
        have c3 := bx.at_ 3 rfl
        have x0 := b1.at_ 0 rfl
        have x1 := b1.at_ 1 rfl
        have y0 := b2.at_ 0 rfl
        have y1 := b2.at_ 1 rfl
        have r0 := b3.at_ 0 rfl
        have r1 := b3.at_ 1 rfl
        have f0 := b3.thaw 0
        have f1 := b3.thaw 1
        go_enter Try.func69, Try.ntmps69
        go_wp2_with fail
        rw [← HU.out]
        refine (HV.out _ (DrumAt.of_box bx)).mono ?_
        rintro e w1 ⟨rfl, k1, hw⟩
        have hbk1 : Below u.heap.size u w1 := by rw [hw]; exact bel_drewN (Below.refl _ _) k1
        clear hw
        clear c0 c1 c2 c3 x0 x1 y0 y1 r0 r1 f0 f1
        replace bx := bx.below hbk1
        replace b1 := b1.below hbk1
        replace b2 := b2.below hbk1
        replace b3 := b3.below hbk1
        replace ha := ha.below hbk1
        replace hb := hb.below hbk1
        replace hbel := hbel.trans (hbk1.mono hbel.size)
        clear hbk1
        have c0 := bx.at_ 0 rfl
        have c1 := bx.at_ 1 rfl
        have c2 := bx.at_ 2 rfl
        have c3 := bx.at_ 3 rfl
        have x0 := b1.at_ 0 rfl
        have x1 := b1.at_ 1 rfl
        have y0 := b2.at_ 0 rfl
        have y1 := b2.at_ 1 rfl
        have r0 := b3.at_ 0 rfl
        have r1 := b3.at_ 1 rfl
        have f0 := b3.thaw 0
        have f1 := b3.thaw 1
        go_wp2_with fail
        refine (HP.out _ ha hb x0 x1 y0 y1).mono ?_
        rintro e w2 ⟨rfl, k2, hw⟩
        have hbk2 : Below w1.heap.size w1 w2 := by rw [hw]; exact bel_drewN (Below.refl _ _) k2
        clear hw
        clear c0 c1 c2 c3 x0 x1 y0 y1 r0 r1 f0 f1
        replace bx := bx.below hbk2
        replace b1 := b1.below hbk2
        replace b2 := b2.below hbk2
        replace b3 := b3.below hbk2
        replace ha := ha.below hbk2
        replace hb := hb.below hbk2
        replace hbel := hbel.trans (hbk2.mono hbel.size)
        clear hbk2
        have c0 := bx.at_ 0 rfl
        have c1 := bx.at_ 1 rfl
        have c2 := bx.at_ 2 rfl
        have c3 := bx.at_ 3 rfl
        have x0 := b1.at_ 0 rfl
        have x1 := b1.at_ 1 rfl
        have y0 := b2.at_ 0 rfl
        have y1 := b2.at_ 1 rfl
        have r0 := b3.at_ 0 rfl
        have r1 := b3.at_ 1 rfl
        have f0 := b3.thaw 0
        have f1 := b3.thaw 1
        have hsz := hbel.size
        go_wp2
        exact bodyPost_ret (v := .tuple #[.agg #[.int .i64 0, .slice none 0 0], .int .i64 6]) (by simp [results, Try.results69, go_sem, r0, r1]) rfl
          (regC_err HR.out rfl (by repeat (first | with_reducible exact hbel | with_reducible refine Below.setCell ?_ (by first | omega | (simp <;> omega)) _ | with_reducible refine Below.alloc ?_ (by first | omega | (simp <;> omega)) _ | with_reducible refine Below.drew ?_)))
    · have ht : (twoE b xs d ys != 0) = true := by simp [h2]
      have HR := Lib.hid (turn_two (t := t) hd h2)
      clear hd h2
      have c0 := bx.at_ 0 rfl
      have c1 := bx.at_ 1 rfl
      have c2 := bx.at_ 2 rfl
      have c3 := bx.at_ 3 rfl
      have x0 := b1.at_ 0 rfl
      have x1 := b1.at_ 1 rfl
      have y0 := b2.at_ 0 rfl
      have y1 := b2.at_ 1 rfl
      have r0 := b3.at_ 0 rfl
      have r1 := b3.at_ 1 rfl
      have f0 := b3.thaw 0
      have f1 := b3.thaw 1
      go_enter Try.func69, Try.ntmps69
      go_wp2_with fail
      rw [← HU.out]
      refine (HV.out _ (DrumAt.of_box bx)).mono ?_
      rintro e w1 ⟨rfl, k1, hw⟩
      have hbk1 : Below u.heap.size u w1 := by rw [hw]; exact bel_drewN (Below.refl _ _) k1
      clear hw
      clear c0 c1 c2 c3 x0 x1 y0 y1 r0 r1 f0 f1
      replace bx := bx.below hbk1
      replace b1 := b1.below hbk1
      replace b2 := b2.below hbk1
      replace b3 := b3.below hbk1
      replace ha := ha.below hbk1
      replace hb := hb.below hbk1
      replace hbel := hbel.trans (hbk1.mono hbel.size)
      clear hbk1
      have c0 := bx.at_ 0 rfl
      have c1 := bx.at_ 1 rfl
      have c2 := bx.at_ 2 rfl
      have c3 := bx.at_ 3 rfl
      have x0 := b1.at_ 0 rfl
      have x1 := b1.at_ 1 rfl
      have y0 := b2.at_ 0 rfl
      have y1 := b2.at_ 1 rfl
      have r0 := b3.at_ 0 rfl
      have r1 := b3.at_ 1 rfl
      have f0 := b3.thaw 0
      have f1 := b3.thaw 1
      go_wp2_with fail
      refine (HP.out _ ha hb x0 x1 y0 y1).mono ?_
      rintro e w2 ⟨rfl, k2, hw⟩
      have hbk2 : Below w1.heap.size w1 w2 := by rw [hw]; exact bel_drewN (Below.refl _ _) k2
      clear hw
      clear c0 c1 c2 c3 x0 x1 y0 y1 r0 r1 f0 f1
      replace bx := bx.below hbk2
      replace b1 := b1.below hbk2
      replace b2 := b2.below hbk2
      replace b3 := b3.below hbk2
      replace ha := ha.below hbk2
      replace hb := hb.below hbk2
      replace hbel := hbel.trans (hbk2.mono hbel.size)
      clear hbk2
      have c0 := bx.at_ 0 rfl
      have c1 := bx.at_ 1 rfl
      have c2 := bx.at_ 2 rfl
      have c3 := bx.at_ 3 rfl
      have x0 := b1.at_ 0 rfl
      have x1 := b1.at_ 1 rfl
      have y0 := b2.at_ 0 rfl
      have y1 := b2.at_ 1 rfl
      have r0 := b3.at_ 0 rfl
      have r1 := b3.at_ 1 rfl
      have f0 := b3.thaw 0
      have f1 := b3.thaw 1
      have hsz := hbel.size
      go_wp2
      exact bodyPost_ret (v := .tuple #[.agg #[.int .i64 0, .slice none 0 0], .int .i64 (twoE b xs d ys)]) (by simp [results, Try.results69, go_sem, r0, r1]) rfl
        (regC_err HR.out rfl (by repeat (first | with_reducible exact hbel | with_reducible refine Below.setCell ?_ (by first | omega | (simp <;> omega)) _ | with_reducible refine Below.alloc ?_ (by first | omega | (simp <;> omega)) _ | with_reducible refine Below.drew ?_)))
end Go.Proofs.Ytgfpjcckkbhdjaa

/- Assert -/
namespace Go.Proofs.Ytgfpjcckkbhdjaa
open Go.RowKit

theorem missing_some {want : Array (String × TypeId)} {got : Array Method} {x : String × TypeId} (h : (want.toList.filter fun (name, sig) => !got.any fun m => m.name == name && m.sig == sig) = [x]) : ∃ m, Instr.missingMethod want got = some m := by
  unfold Instr.missingMethod
  simp only [h, List.map_cons, List.map_nil]
  cases hc : x.1.contains '.' with
  | true => exact ⟨_, by simp [List.partition, List.partition.loop, hc, Instr.least]; rfl⟩
  | false => exact ⟨_, by simp [List.partition, List.partition.loop, hc, Instr.least]; rfl⟩
theorem name_missing {nm a : String} {sig : TypeId} {got : Array Method} (h : got.map (·.name) = #[a]) (hne : (a == nm) = false) : ∃ m, Instr.missingMethod #[(nm, sig)] got = some m := by
  refine missing_some (x := (nm, sig)) ?_
  obtain ⟨x, rfl, hx⟩ : ∃ x, got = #[x] ∧ x.name = a := by simpa using h
  simp [hx, beq_eq_false_iff_ne.1 hne]
theorem run_typeInfoD {P : Program} {t : TypeId} {i : TypeInfo} (h : P.info? t = some i) (w : World) : (typeInfo t).run P w = .ok i w := by
  simp [typeInfo, go_sem, h]
theorem assert_fails {P : Program} {w : World} {t tA ty : TypeId} {v z : Value} {want : Array (String × TypeId)} {i : TypeInfo} (hu : P.underlying tA = some (.interface want)) (hi : P.info? t = some i) (hz : ∀ w, (zeroValue tA).run P w = .ok z w)
    (hm : ∃ m, Instr.missingMethod want i.methods = some m) : (Instr.typeAssert (.iface t v) ty tA true).run P w = .ok (.tuple #[z, .bool false]) w := by
  obtain ⟨m, hm⟩ := hm
  simp [Instr.typeAssert, go_sem, run_underlying hu, run_typeInfoD hi, hm, hz]
theorem asserts3 (B T F : Int) (w : World) : (Instr.typeAssert (.iface 269 (.agg #[.int .i64 3, .int .i64 B, .int .i64 T, .int .i64 F])) 208 205 true).run Try.prog w = .ok (.tuple #[.nilIface, .bool false]) w := by
  have hn : (Try.prog.info? 269).map (fun i => i.methods.map (·.name)) = some #["loop.example/g00930/impl.stepTime"] := by kernel_rfl
  cases hi : Try.prog.info? 269 with
  | none => rw [hi] at hn; cases hn
  | some i =>
    rw [hi] at hn
    have hn' : i.methods.map (·.name) = #["loop.example/g00930/impl.stepTime"] := by simpa using hn
    exact assert_fails Try.underlying205 hi (fun _ => by kernel_rfl) (name_missing hn' (by decide))
end Go.Proofs.Ytgfpjcckkbhdjaa

/- BrkI -/
namespace Go.Proofs.Ytgfpjcckkbhdjaa
open Go.RowKit

theorem toothM1 (B T F : Int) (n : Nat) (w : World) : (method (n + 1) 267 (.agg #[.int .i64 1, .int .i64 B, .int .i64 T, .int .i64 F]) "loop.example/g00930/impl.toothOf").run Try.prog w = .ok (278, .agg #[.int .i64 1, .int .i64 B, .int .i64 T, .int .i64 F]) w := by kernel_rfl
theorem asserts1 (B T F : Int) (w : World) : (Instr.typeAssert (.iface 267 (.agg #[.int .i64 1, .int .i64 B, .int .i64 T, .int .i64 F])) 208 205 true).run Try.prog w = .ok (.tuple #[.iface 267 (.agg #[.int .i64 1, .int .i64 B, .int .i64 T, .int .i64 F]), .bool true]) w := by kernel_rfl
set_option maxRecDepth 100000 in
set_option maxHeartbeats 2000000 in
theorem wholeSteps1 (B T F d x : Int) (w : World) (hB : 2 ≤ B ∧ B ≤ 16) (hd : 0 ≤ d ∧ d < B) :
    Calls Try.prog 174 #[.iface 267 (.agg #[.int .i64 1, .int .i64 B, .int .i64 T, .int .i64 F]), .int .i64 d, .int .i64 x] w fun e w' => e = .returned (.int .i64 (brN 1 B d x d.toNat : Int)) ∧ Below w.heap.size w w' := by
  have hC := Lib.hid (show ∀ (k : Int) (v : World), 0 ≤ k → k < d → Calls Try.prog 278 #[.agg #[.int .i64 1, .int .i64 B, .int .i64 T, .int .i64 F], .int .i64 d, .int .i64 k] v fun e w' => e = .returned (.int .i64 (tooth 1 B d k)) ∧ Below v.heap.size v w' from fun k v k1 k2 => by
    have e : tooth 1 B d k = B - 1 - d + k := rfl
    rw [e]; exact tooth1_any 1 B T F d k v hB hd ⟨k1, k2⟩)
  obtain ⟨n, rfl⟩ := Int.eq_ofNat_of_zero_le hd.1
  rw [show ((n : Int)).toNat = n by omega]
  have hm := toothM1 B T F
  go_enter Try.func174, Try.ntmps174
  go_wp2
  go_loopw [7, 8, 10] (fun c _ i wr => ∃ k : Nat, k ≤ n ∧ i = .int .i64 k ∧ c = .int .i64 (brN 1 B n x k : Nat) ∧ Below w.heap.size w wr) (fun _ _ i _ => n - (intOf i).toNat)
  case atStart => exact ⟨0, Nat.zero_le _, rfl, rfl, Below.refl _ _⟩
  case round =>
    obtain ⟨k, hk, rfl, rfl, hbel⟩ := hrel
    have hle := brN_le 1 B n x k
    by_cases hlt : k < n
    · have hb := tooth_bd (K := 1) (B := B) (d := n) (k := k) (by omega) (by omega) hd.2
      cases hbit : bitNo x (tooth 1 B n k).toNat with
      | true =>
        have HS := Lib.hid (brN_yes hbit)
        have hbit' : (bits .and .i64 (x / 2 ^ (tooth 1 B n k).toNat) 1 == 0) = true := hbit
        clear hbit
        go_wp2_with fail
        refine (hC.out k _ (by omega) (by omega)).mono ?_
        rintro e w3 ⟨rfl, hb3⟩
        replace hbel := hbel.trans (hb3.mono hbel.size)
        clear hb3
        go_wp2
        go_roundw
        case rel => exact ⟨k + 1, by omega, by go_num, by rw [HS.out]; go_num, hbel⟩
        case measure => (simp [intOf]) <;> omega
      | false =>
        have HS := Lib.hid (brN_not hbit)
        have hbit' : (bits .and .i64 (x / 2 ^ (tooth 1 B n k).toNat) 1 == 0) = false := hbit
        clear hbit
        go_wp2_with fail
        refine (hC.out k _ (by omega) (by omega)).mono ?_
        rintro e w3 ⟨rfl, hb3⟩
        replace hbel := hbel.trans (hb3.mono hbel.size)
        clear hb3
        go_wp2
        go_roundw
        case rel => exact ⟨k + 1, by omega, by go_num, by rw [HS.out], hbel⟩
        case measure => (simp [intOf]) <;> omega
    · obtain rfl : k = n := by omega
      go_wp2
      go_ret
      exact ⟨rfl, hbel⟩

theorem toothM2 (B T F : Int) (n : Nat) (w : World) : (method (n + 1) 268 (.agg #[.int .i64 2, .int .i64 B, .int .i64 T, .int .i64 F]) "loop.example/g00930/impl.toothOf").run Try.prog w = .ok (280, .agg #[.int .i64 2, .int .i64 B, .int .i64 T, .int .i64 F]) w := by kernel_rfl
theorem asserts2 (B T F : Int) (w : World) : (Instr.typeAssert (.iface 268 (.agg #[.int .i64 2, .int .i64 B, .int .i64 T, .int .i64 F])) 208 205 true).run Try.prog w = .ok (.tuple #[.iface 268 (.agg #[.int .i64 2, .int .i64 B, .int .i64 T, .int .i64 F]), .bool true]) w := by kernel_rfl
set_option maxRecDepth 100000 in
set_option maxHeartbeats 2000000 in
theorem wholeSteps2 (B T F d x : Int) (w : World) (hB : 2 ≤ B ∧ B ≤ 16) (hd : 0 ≤ d ∧ d < B) :
    Calls Try.prog 174 #[.iface 268 (.agg #[.int .i64 2, .int .i64 B, .int .i64 T, .int .i64 F]), .int .i64 d, .int .i64 x] w fun e w' => e = .returned (.int .i64 (brN 2 B d x d.toNat : Int)) ∧ Below w.heap.size w w' := by
  have hC := Lib.hid (show ∀ (k : Int) (v : World), 0 ≤ k → k < d → Calls Try.prog 280 #[.agg #[.int .i64 2, .int .i64 B, .int .i64 T, .int .i64 F], .int .i64 d, .int .i64 k] v fun e w' => e = .returned (.int .i64 (tooth 2 B d k)) ∧ Below v.heap.size v w' from fun k v k1 k2 => by
    have e : tooth 2 B d k = k := rfl
    rw [e]; exact tooth2_any 2 B T F d k v)
  obtain ⟨n, rfl⟩ := Int.eq_ofNat_of_zero_le hd.1
  rw [show ((n : Int)).toNat = n by omega]
  have hm := toothM2 B T F
  go_enter Try.func174, Try.ntmps174
  go_wp2
  go_loopw [7, 8, 10] (fun c _ i wr => ∃ k : Nat, k ≤ n ∧ i = .int .i64 k ∧ c = .int .i64 (brN 2 B n x k : Nat) ∧ Below w.heap.size w wr) (fun _ _ i _ => n - (intOf i).toNat)
  case atStart => exact ⟨0, Nat.zero_le _, rfl, rfl, Below.refl _ _⟩
  case round =>
    obtain ⟨k, hk, rfl, rfl, hbel⟩ := hrel
    have hle := brN_le 2 B n x k
    by_cases hlt : k < n
    · have hb := tooth_bd (K := 2) (B := B) (d := n) (k := k) (by omega) (by omega) hd.2
      cases hbit : bitNo x (tooth 2 B n k).toNat with
      | true =>
        have HS := Lib.hid (brN_yes hbit)
        have hbit' : (bits .and .i64 (x / 2 ^ (tooth 2 B n k).toNat) 1 == 0) = true := hbit
        clear hbit
        go_wp2_with fail
        refine (hC.out k _ (by omega) (by omega)).mono ?_
        rintro e w3 ⟨rfl, hb3⟩
        replace hbel := hbel.trans (hb3.mono hbel.size)
        clear hb3
        go_wp2
        go_roundw
        case rel => exact ⟨k + 1, by omega, by go_num, by rw [HS.out]; go_num, hbel⟩
        case measure => (simp [intOf]) <;> omega
      | false =>
        have HS := Lib.hid (brN_not hbit)
        have hbit' : (bits .and .i64 (x / 2 ^ (tooth 2 B n k).toNat) 1 == 0) = false := hbit
        clear hbit
        go_wp2_with fail
        refine (hC.out k _ (by omega) (by omega)).mono ?_
        rintro e w3 ⟨rfl, hb3⟩
        replace hbel := hbel.trans (hb3.mono hbel.size)
        clear hb3
        go_wp2
        go_roundw
        case rel => exact ⟨k + 1, by omega, by go_num, by rw [HS.out], hbel⟩
        case measure => (simp [intOf]) <;> omega
    · obtain rfl : k = n := by omega
      go_wp2
      go_ret
      exact ⟨rfl, hbel⟩

set_option maxRecDepth 100000 in
set_option maxHeartbeats 4000000 in
theorem implBrokenSteps (K B T F d x : Int) (w : World) (z : I64 K ∧ I64 B ∧ I64 T ∧ I64 F) (_ : I64 d) (_ : I64 x) :
    Calls Try.prog 71 #[.agg #[.int .i64 K, .int .i64 B, .int .i64 T, .int .i64 F], .int .i64 d, .int .i64 x] w fun e w' => e = .returned (.tuple #[.int .i64 (brR K B T F d x).1, .int .i64 (brR K B T F d x).2]) ∧ Below w.heap.size w w' := by
  obtain ⟨u, hu⟩ : ∃ u, u = w.alloc (.cells #[.int .i64 K, .int .i64 B, .int .i64 T, .int .i64 F] 86) := ⟨_, rfl⟩
  have bx : Bx u w.heap.size 86 #[.int .i64 K, .int .i64 B, .int .i64 T, .int .i64 F] := by rw [hu]; exact Bx.new _ _ _
  have hbel : Below w.heap.size w u := by rw [hu]; exact (by repeat (first | exact Below.refl _ _ | refine Below.setCell ?_ (by first | omega | (simp <;> omega)) _ | refine Below.alloc ?_ (by first | omega | (simp <;> omega)) _ | refine Below.drew ?_))
  have HU := Lib.hid hu
  clear hu
  have c0 := bx.at_ 0 rfl
  have c1 := bx.at_ 1 rfl
  have c2 := bx.at_ 2 rfl
  have c3 := bx.at_ 3 rfl
  have HV := Lib.hid (fun v => digitCode_any K B T F d v z)
  clear z
  by_cases h : codeR K B T F d = 0
  · obtain ⟨hD, h1, h2⟩ := codeR_of h
    have hB1 := hD.b1
    have hB2 := hD.b2
    have hbt : (B - 1).toNat = B.toNat - 1 := by omega
    rw [h] at HV
    by_cases hx : x / 2 ^ (B.toNat - 1) = 0
    · have hne : (x / 2 ^ (B.toNat - 1) != 0) = false := by simp [hx]
      have k1 := hD.k1
      have k2 := hD.k2
      have HX := Lib.hid (shr_zero.1 hx)
      have HH := Lib.hid h
      clear hx h hD
      obtain rfl | rfl | rfl : K = 1 ∨ K = 2 ∨ K = 3 := by omega

      · have HR := Lib.hid (show brR 1 B T F d x = ((brN 1 B d x d.toNat : Int), 0) by rw [brR, if_pos HH.out, if_pos (by rw [hbt]; exact HX.out), if_neg (by omega)])
        clear hbt
        have HK := Lib.hid (kind1_any B T F)
        have ha := asserts1 B T F
        have HW := Lib.hid (fun v => wholeSteps1 B T F d x v ⟨hB1, hB2⟩ ⟨h1, h2⟩)
        go_enter Try.func71, Try.ntmps71
        go_wp2_with fail
        rw [← HU.out]
        refine (HV.out _).mono ?_
        rintro e w1 ⟨rfl, hb1⟩
        replace bx := bx.below hb1
        replace hbel := hbel.trans (hb1.mono hbel.size)
        clear c0 c1 c2 c3 hb1
        have c0 := bx.at_ 0 rfl
        have c1 := bx.at_ 1 rfl
        have c2 := bx.at_ 2 rfl
        have c3 := bx.at_ 3 rfl
        go_wp2_with (go_at_call 173; refine (HK.out _).mono ?_; rintro e w2 ⟨rfl, hb2⟩)
        replace hbel := hbel.trans (hb2.mono hbel.size)
        clear c0 c1 c2 c3 hb2
        go_wp2_with fail
        refine (HW.out _).mono ?_
        rintro e w3 ⟨rfl, hb3⟩
        replace hbel := hbel.trans (hb3.mono hbel.size)
        clear hb3
        go_wp2
        go_ret2
        exact ⟨ret_two HR.out, hbel⟩
      · have HR := Lib.hid (show brR 2 B T F d x = ((brN 2 B d x d.toNat : Int), 0) by rw [brR, if_pos HH.out, if_pos (by rw [hbt]; exact HX.out), if_neg (by omega)])
        clear hbt
        have HK := Lib.hid (kind2_any B T F)
        have ha := asserts2 B T F
        have HW := Lib.hid (fun v => wholeSteps2 B T F d x v ⟨hB1, hB2⟩ ⟨h1, h2⟩)
        go_enter Try.func71, Try.ntmps71
        go_wp2_with fail
        rw [← HU.out]
        refine (HV.out _).mono ?_
        rintro e w1 ⟨rfl, hb1⟩
        replace bx := bx.below hb1
        replace hbel := hbel.trans (hb1.mono hbel.size)
        clear c0 c1 c2 c3 hb1
        have c0 := bx.at_ 0 rfl
        have c1 := bx.at_ 1 rfl
        have c2 := bx.at_ 2 rfl
        have c3 := bx.at_ 3 rfl
        go_wp2_with (go_at_call 173; refine (HK.out _).mono ?_; rintro e w2 ⟨rfl, hb2⟩)
        replace hbel := hbel.trans (hb2.mono hbel.size)
        clear c0 c1 c2 c3 hb2
        go_wp2_with fail
        refine (HW.out _).mono ?_
        rintro e w3 ⟨rfl, hb3⟩
        replace hbel := hbel.trans (hb3.mono hbel.size)
        clear hb3
        go_wp2
        go_ret2
        exact ⟨ret_two HR.out, hbel⟩
      · have HR := Lib.hid (show brR 3 B T F d x = (0, 6) by rw [brR, if_pos HH.out, if_pos (by rw [hbt]; exact HX.out), if_pos rfl])
        clear hbt
        have HK := Lib.hid (kind3_any B T F)
        have ha := asserts3 B T F
        go_enter Try.func71, Try.ntmps71
        go_wp2_with fail
        rw [← HU.out]
        refine (HV.out _).mono ?_
        rintro e w1 ⟨rfl, hb1⟩
        replace bx := bx.below hb1
        replace hbel := hbel.trans (hb1.mono hbel.size)
        clear c0 c1 c2 c3 hb1
        have c0 := bx.at_ 0 rfl
        have c1 := bx.at_ 1 rfl
        have c2 := bx.at_ 2 rfl
        have c3 := bx.at_ 3 rfl
        go_wp2_with (go_at_call 173; refine (HK.out _).mono ?_; rintro e w2 ⟨rfl, hb2⟩)
        replace hbel := hbel.trans (hb2.mono hbel.size)
        clear c0 c1 c2 c3 hb2
        go_wp2
        go_ret2
        exact ⟨ret_two HR.out, hbel⟩
    · have hne : (x / 2 ^ (B.toNat - 1) != 0) = true := by simp [hx]
      have HR := Lib.hid (show brR K B T F d x = (0, 2) by rw [brR, if_pos h, if_neg (fun y => hx (shr_zero.2 (by rw [← hbt]; exact y)))])
      clear hx h hD hbt
      go_enter Try.func71, Try.ntmps71
      go_wp2_with fail
      rw [← HU.out]
      refine (HV.out _).mono ?_
      rintro e w1 ⟨rfl, hb1⟩
      replace bx := bx.below hb1
      replace hbel := hbel.trans (hb1.mono hbel.size)
      clear c0 c1 c2 c3 hb1
      have c0 := bx.at_ 0 rfl
      have c1 := bx.at_ 1 rfl
      have c2 := bx.at_ 2 rfl
      have c3 := bx.at_ 3 rfl
      go_wp2
      go_ret2
      exact ⟨ret_two HR.out, hbel⟩
  · have HR := Lib.hid (show brR K B T F d x = (0, codeR K B T F d) from if_neg h)
    have ht : (codeR K B T F d != 0) = true := by simp [h]
    clear h
    go_enter Try.func71, Try.ntmps71
    go_wp2_with fail
    rw [← HU.out]
    refine (HV.out _).mono ?_
    rintro e w1 ⟨rfl, hb1⟩
    replace bx := bx.below hb1
    replace hbel := hbel.trans (hb1.mono hbel.size)
    clear c0 c1 c2 c3 hb1
    have c0 := bx.at_ 0 rfl
    have c1 := bx.at_ 1 rfl
    have c2 := bx.at_ 2 rfl
    have c3 := bx.at_ 3 rfl
    go_wp2
    go_ret2
    exact ⟨ret_two HR.out, hbel⟩
end Go.Proofs.Ytgfpjcckkbhdjaa

/- BrkS -/
namespace Go.Proofs.Ytgfpjcckkbhdjaa
open Go.RowKit

theorem tooth_tm {K B T F d k : Int} (h : K = 1 ∨ K = 2) : tm K B T F d k - F = tooth K B d k := by
  rcases h with rfl | rfl
  · rw [tm1, show tooth 1 B d k = B - 1 - d + k from rfl]; omega
  · rw [tm2, show tooth 2 B d k = k from rfl]; omega
theorem pow_bd {n : Nat} (h : n ≤ 15) : (1 : Int) ≤ 2 ^ n ∧ (2 : Int) ^ n ≤ 32768 := by
  refine ⟨Int.pow_pos (by omega), ?_⟩
  have : (2 : Int) ^ n ≤ 2 ^ 15 := by exact_mod_cast Nat.pow_le_pow_right (by omega : 0 < 2) h
  simpa using this

set_option maxRecDepth 100000 in
set_option maxHeartbeats 4000000 in
theorem specBrokenSteps (K B T F d x : Int) (w : World) (_ : I64 K ∧ I64 B ∧ I64 T ∧ I64 F) (_ : I64 d) (_ : I64 x) :
    Calls Try.prog 72 #[.agg #[.int .i64 K, .int .i64 B, .int .i64 T, .int .i64 F], .int .i64 d, .int .i64 x] w fun e w' => e = .returned (.tuple #[.int .i64 (brR K B T F d x).1, .int .i64 (brR K B T F d x).2]) ∧ Below w.heap.size w w' := by
  obtain ⟨u, hu⟩ : ∃ u, u = w.alloc (.cells #[.int .i64 K, .int .i64 B, .int .i64 T, .int .i64 F] 86) := ⟨_, rfl⟩
  have bx : Bx u w.heap.size 86 #[.int .i64 K, .int .i64 B, .int .i64 T, .int .i64 F] := by rw [hu]; exact Bx.new _ _ _
  have hbel : Below w.heap.size w u := by rw [hu]; exact (by repeat (first | exact Below.refl _ _ | refine Below.setCell ?_ (by first | omega | (simp <;> omega)) _ | refine Below.alloc ?_ (by first | omega | (simp <;> omega)) _ | refine Below.drew ?_))
  have HU := Lib.hid hu
  clear hu
  have c0 := bx.at_ 0 rfl
  have c1 := bx.at_ 1 rfl
  have c2 := bx.at_ 2 rfl
  have c3 := bx.at_ 3 rfl
  have hat := DrumAt.of_box bx
  have HV := Lib.hid (l05Code_any _ K B T F d u hat)
  by_cases h : codeR K B T F d = 0
  · obtain ⟨hD, h1, h2⟩ := codeR_of h
    have hB1 := hD.b1
    have hB2 := hD.b2
    rw [h] at HV
    obtain ⟨p, hp⟩ : ∃ p, p = (2 : Int) ^ (B.toNat - 1) := ⟨_, rfl⟩
    have hpb := pow_bd (n := B.toNat - 1) (by omega)
    rw [← hp] at hpb
    obtain ⟨p0, p1⟩ := hpb
    have hbt : (B - 1).toNat = B.toNat - 1 := by omega
    have hmin : min (B.toNat - 1) 64 = B.toNat - 1 := by omega
    have hp' := hp.symm
    have hw1 : IntKind.i64.wrap p = p := IntWalk.i64_in _ (by omega)
    cases hx : inB x 0 (p - 1) with
    | true =>
      have HI := Lib.hid hx
      have HX := Lib.hid (show 0 ≤ x ∧ x < 2 ^ (B - 1).toNat by rw [hbt, hp']; have := inB_true hx; omega)
      have HH := Lib.hid h
      have HP := Lib.hid hp
      have HD := Lib.hid hD
      clear hx
      by_cases h3 : K = 3
      · subst h3
        have HR := Lib.hid (show brR 3 B T F d x = (0, 6) by rw [brR, if_pos h, if_pos HX.out, if_pos rfl])
        clear h hD hp hbt
        go_enter Try.func72, Try.ntmps72
        go_wp2_with fail
        rw [← HU.out]
        refine HV.out.mono ?_
        rintro e w1 ⟨rfl, k, hw⟩
        replace bx : Bx w1 w.heap.size 86 #[.int .i64 3, .int .i64 B, .int .i64 T, .int .i64 F] := by rw [hw]; exact bx.drewN k
        replace hat := DrumAt.of_box bx
        replace hbel : Below w.heap.size w w1 := by rw [hw]; exact bel_drewN hbel k
        clear c0 c1 c2 c3 hw
        have c0 := bx.at_ 0 rfl
        have c1 := bx.at_ 1 rfl
        have c2 := bx.at_ 2 rfl
        have c3 := bx.at_ 3 rfl
        go_wp2_with (go_at_call 132; refine (l00In_any _ _ _ _).mono ?_; rintro e w2 ⟨rfl, hq⟩; subst w2; rw [HI.out])
        go_ret2
        exact ⟨ret_two HR.out, hbel⟩
      · have h3b : (K == 3) = false := beq_eq_false_iff_ne.2 h3
        have HR := Lib.hid (show brR K B T F d x = ((brN K B d x d.toNat : Int), 0) by rw [brR, if_pos h, if_pos HX.out, if_neg h3])
        have hK : K = 1 ∨ K = 2 := by have := hD.k1; have := hD.k2; omega
        have HT := Lib.hid (fun k => tooth_tm (B := B) (T := T) (F := F) (d := d) (k := k) hK)
        clear h hD hp hbt h3 hK
        obtain ⟨n, rfl⟩ := Int.eq_ofNat_of_zero_le h1
        have hdn : ((n : Int)).toNat = n := by omega
        rw [hdn] at HR
        clear hdn
        have hn16 : n < 16 := by omega
        have HM := Lib.hid (fun (k : Nat) (v : World) (hv : DrumAt v w.heap.size K B T F) (hk : k < n) => l05Time_any w.heap.size K B T F n k v hv HD.out h1 h2 (by omega) (by omega))
        go_enter Try.func72, Try.ntmps72
        go_wp2_with fail
        rw [← HU.out]
        refine HV.out.mono ?_
        rintro e w1 ⟨rfl, k, hw⟩
        replace bx : Bx w1 w.heap.size 86 #[.int .i64 K, .int .i64 B, .int .i64 T, .int .i64 F] := by rw [hw]; exact bx.drewN k
        replace hat := DrumAt.of_box bx
        replace hbel : Below w.heap.size w w1 := by rw [hw]; exact bel_drewN hbel k
        clear c0 c1 c2 c3 hw
        have c0 := bx.at_ 0 rfl
        have c1 := bx.at_ 1 rfl
        have c2 := bx.at_ 2 rfl
        have c3 := bx.at_ 3 rfl
        go_wp2_with (go_at_call 132; refine (l00In_any _ _ _ _).mono ?_; rintro e w2 ⟨rfl, hq⟩; subst w2; rw [HI.out])
        clear hp' hmin hw1 c0 c1 c2
        obtain ⟨f1, f2⟩ := HD.out.fb
        go_loopw [9, 10, 11] (fun c i _ wr => ∃ k : Nat, k ≤ n ∧ i = .int .i64 k ∧ c = .int .i64 (brN K B n x k : Nat) ∧ Below w.heap.size w wr ∧ DrumAt wr w.heap.size K B T F) (fun _ i _ _ => n - (intOf i).toNat)
        case atStart => exact ⟨0, Nat.zero_le _, rfl, rfl, hbel, hat⟩
        case round =>
          clear hbel hat bx c3
          obtain ⟨k, hk, rfl, rfl, hbel, hat⟩ := hrel
          have hle := brN_le K B n x k
          have c3 := hat.c3
          by_cases hlt : k < n
          · have hb := tooth_bd (K := K) (B := B) (d := n) (k := k) (by omega) (by omega) h2
            have htm := HT.out k
            have hwt : IntKind.i64.wrap (tm K B T F n k - F) = tooth K B n k := by rw [htm]; exact IntWalk.i64_in _ (by omega)
            have tmb := tm_bd HD.out (k := k) (d := n) (by omega) (by omega) h2
            have t60 := HD.out.t2
            have HC := Lib.hid (fun q => HM.out k (wr.drewN q) (hat.drewN q) hlt)
            have HTM := Lib.hid htm
            cases hbit : bitNo x (tooth K B n k).toNat with
            | true =>
              have HS := Lib.hid (brN_yes hbit)
              have hbit' : (bits .and .i64 (x / 2 ^ (tooth K B n k).toNat) 1 == 0) = true := hbit
              clear hbit
              go_wp2
              go_quiet ((go_at_call 176; exact Calls.quiet_of (HC.out _)))
              go_wp2
              go_roundw
              case rel => exact ⟨k + 1, by omega, by go_num, by rw [HS.out]; go_num, bel_drewN hbel _, hat.drewN _⟩
              case measure => (simp [intOf]) <;> omega
            | false =>
              have HS := Lib.hid (brN_not hbit)
              have hbit' : (bits .and .i64 (x / 2 ^ (tooth K B n k).toNat) 1 == 0) = false := hbit
              clear hbit
              go_wp2
              go_quiet ((go_at_call 176; exact Calls.quiet_of (HC.out _)))
              go_wp2
              go_roundw
              case rel => exact ⟨k + 1, by omega, by go_num, by rw [HS.out], bel_drewN hbel _, hat.drewN _⟩
              case measure => (simp [intOf]) <;> omega
          · obtain rfl : k = n := by omega
            go_wp2
            go_ret2
            exact ⟨ret_two HR.out, hbel⟩
    | false =>
      have HI := Lib.hid hx
      have HR := Lib.hid (show brR K B T F d x = (0, 2) by rw [brR, if_pos h, if_neg (by rw [hbt, hp']; have := inB_false hx; omega)])
      clear hx h hD hp hbt
      go_enter Try.func72, Try.ntmps72
      go_wp2_with fail
      rw [← HU.out]
      refine HV.out.mono ?_
      rintro e w1 ⟨rfl, k, hw⟩
      replace bx : Bx w1 w.heap.size 86 #[.int .i64 K, .int .i64 B, .int .i64 T, .int .i64 F] := by rw [hw]; exact bx.drewN k
      replace hat := DrumAt.of_box bx
      replace hbel : Below w.heap.size w w1 := by rw [hw]; exact bel_drewN hbel k
      clear c0 c1 c2 c3 hw
      have c0 := bx.at_ 0 rfl
      have c1 := bx.at_ 1 rfl
      have c2 := bx.at_ 2 rfl
      have c3 := bx.at_ 3 rfl
      go_wp2_with (go_at_call 132; refine (l00In_any _ _ _ _).mono ?_; rintro e w2 ⟨rfl, hq⟩; subst w2; rw [HI.out])
      go_ret2
      exact ⟨ret_two HR.out, hbel⟩
  · have HR := Lib.hid (show brR K B T F d x = (0, codeR K B T F d) from if_neg h)
    have ht : (codeR K B T F d != 0) = true := by simp [h]
    have ht2 : (codeR K B T F d == 0) = false := by simp [h]
    clear h
    go_enter Try.func72, Try.ntmps72
    go_wp2_with fail
    rw [← HU.out]
    refine HV.out.mono ?_
    rintro e w1 ⟨rfl, k, hw⟩
    replace bx : Bx w1 w.heap.size 86 #[.int .i64 K, .int .i64 B, .int .i64 T, .int .i64 F] := by rw [hw]; exact bx.drewN k
    replace hat := DrumAt.of_box bx
    replace hbel : Below w.heap.size w w1 := by rw [hw]; exact bel_drewN hbel k
    clear c0 c1 c2 c3 hw
    have c0 := bx.at_ 0 rfl
    have c1 := bx.at_ 1 rfl
    have c2 := bx.at_ 2 rfl
    have c3 := bx.at_ 3 rfl
    go_wp2
    go_ret2
    exact ⟨ret_two HR.out, hbel⟩
end Go.Proofs.Ytgfpjcckkbhdjaa

/- SlMax -/
namespace Go.Proofs.Ytgfpjcckkbhdjaa
open Go.RowKit

set_option maxHeartbeats 1000000 in
theorem slicesMax_any (a : Option Addr) (c n : Nat) (zs : List Int) (w : World) (ha : Rd w a zs) (hn : zs.length = n + 1) :
    Calls Try.prog 178 #[.slice a (n + 1) c] w fun e w' => e = .returned (.int .i64 (nth zs (bestTo zs n))) ∧ w = w' := by
  have hl := ha.len
  obtain ⟨b, off, rfl, hc⟩ := ha.cells (by rintro rfl; simp at hn)
  have hc0 := hc 0 (by omega)
  have H0 := Lib.hid hn
  rw [Nat.add_zero] at hc0
  have hn1 : n ≤ 1000000000 := by omega
  clear hn hl
  go_enter Try.func178, Try.ntmps178
  go_wp2
  go_loop [3, 4] (fun v i => ∃ k : Nat, k ≤ n ∧ i = .int .i64 ((k : Int) + 1) ∧ v = .int .i64 (nth zs (bestTo zs k))) (fun _ i => n + 1 - (intOf i).toNat)
  case atStart => exact ⟨0, Nat.zero_le _, by go_num, rfl⟩
  case round =>
    obtain ⟨k, hk, rfl, rfl⟩ := hrel
    by_cases hlt : k < n
    · have hck := hc (k + 1) (by have := H0.out; omega)
      have e8 : ((k : Int) + 1).toNat = k + 1 := by omega
      have HS := Lib.hid (bestTo_step zs k)
      have hw1 : IntKind.i64.wrap ((k : Int) + 1) = (k : Int) + 1 := IntWalk.i64_in _ (by omega)

      go_wp2
      go_round
      case rel => exact ⟨k + 1, by omega, by go_num, by rw [HS.out]⟩
      case measure => (simp [intOf]) <;> omega
    · obtain rfl : k = n := by omega
      go_wp2
      go_ret
      exact ⟨rfl, rfl⟩

set_option maxHeartbeats 1000000 in
theorem slicesIndex_any (a : Option Addr) (c n : Nat) (zs : List Int) (w : World) (ha : Rd w a zs) (hn : zs.length = n + 1) :
    Calls Try.prog 179 #[.slice a (n + 1) c, .int .i64 (nth zs (bestTo zs n))] w fun e w' => e = .returned (.int .i64 (bestTo zs n : Nat)) ∧ w = w' := by
  have hl := ha.len
  obtain ⟨b, off, rfl, hc⟩ := ha.cells (by rintro rfl; simp at hn)
  have H0 := Lib.hid hn
  have hn1 : n ≤ 1000000000 := by omega
  have hb := bestTo_le zs n
  have HF := Lib.hid (bestTo_first zs n)
  obtain ⟨p, hp⟩ : ∃ p, p = bestTo zs n := ⟨_, rfl⟩
  rw [← hp] at hb HF ⊢
  clear hn hl hp
  go_enter Try.func179, Try.ntmps179
  go_wp2
  go_loop [5, 8] (fun _ i => ∃ k : Nat, k ≤ p ∧ i = .int .i64 k) (fun _ i => n + 1 - (intOf i).toNat)
  case atStart => exact ⟨0, Nat.zero_le _, rfl⟩
  case round =>
    obtain ⟨k, hk, rfl⟩ := hrel
    have hck := hc k (by have := H0.out; omega)
    have hkn : k < n + 1 := by omega
    by_cases hlt : k < p
    · have hne := HF.out k hlt
      have hbe : (nth zs p == nth zs k) = false := beq_eq_false_iff_ne.2 (by omega)
      clear hne
      go_wp2
      go_round
      case rel => exact ⟨k + 1, by omega, by go_num⟩
      case measure => (simp [intOf]) <;> omega
    · obtain rfl : k = p := by omega
      go_wp2
      go_ret
      exact ⟨rfl, rfl⟩
end Go.Proofs.Ytgfpjcckkbhdjaa

/- BusyI -/
namespace Go.Proofs.Ytgfpjcckkbhdjaa
open Go.RowKit

theorem busy_bad1i {K B T F b : Int} {ds : List Int} (h : drumB K B T F = false) : busyR K B T F b ds = (0, 0, 1) := by simp [busyR, h]
theorem busy_bad2i {K B T F b : Int} {ds : List Int} (h : okB b ds = false) : busyR K B T F b ds = (0, 0, 1) := by simp [busyR, h]
theorem busy_statei {K B T F b : Int} {ds : List Int} (h : drumB K B T F = true) (h1 : okB b ds = true) (h2 : ¬ b = B) : busyR K B T F b ds = (0, 0, 6) := by simp [busyR, h, h1, h2]
theorem busy_oki {K B T F b : Int} {ds : List Int} (h : drumB K B T F = true) (h1 : okB b ds = true) (h2 : b = B) : busyR K B T F b ds = (((bestTo (cntR K B T F ds) T.toNat : Nat) : Int), nth (cntR K B T F ds) (bestTo (cntR K B T F ds) T.toNat), 0) := by subst h2; simp [busyR, h, h1]
theorem ret_threei {R : Int × Int × Int} {x y z : Int} (h : R = (x, y, z)) : Ending.returned (.tuple #[.int .i64 x, .int .i64 y, .int .i64 z]) = .returned (.tuple #[.int .i64 R.1, .int .i64 R.2.1, .int .i64 R.2.2]) := by subst h; rfl

set_option maxRecDepth 100000 in
set_option maxHeartbeats 8000000 in
theorem implBusiestTime (K B T F b : Int) (a : Option Addr) (c : Nat) (ds : List Int) (w : World) (z : I64 K ∧ I64 B ∧ I64 T ∧ I64 F) (ha : Rd w a ds) (zd : All64 ds) (bb : I64 b) :
    Calls Try.prog 74 #[.agg #[.int .i64 K, .int .i64 B, .int .i64 T, .int .i64 F], .agg #[.int .i64 b, .slice a ds.length c]] w fun e w' => e = .returned (.tuple #[.int .i64 (busyR K B T F b ds).1, .int .i64 (busyR K B T F b ds).2.1, .int .i64 (busyR K B T F b ds).2.2]) ∧ Below w.heap.size w w' := by
  have hx := ha.len
  obtain ⟨u, hu⟩ : ∃ u, u = (w.alloc (.cells #[.int .i64 K, .int .i64 B, .int .i64 T, .int .i64 F] 86)).alloc (.cells #[.int .i64 b, .slice a ds.length c] 26) := ⟨_, rfl⟩
  have bx : Bx u w.heap.size 86 #[.int .i64 K, .int .i64 B, .int .i64 T, .int .i64 F] := by rw [hu]; exact (Bx.new _ _ _).alloc _
  have br : Bx u (w.heap.size + 1) 26 #[.int .i64 b, .slice a ds.length c] := by rw [hu]; simpa using Bx.new (w.alloc (.cells #[.int .i64 K, .int .i64 B, .int .i64 T, .int .i64 F] 86)) #[.int .i64 b, .slice a ds.length c] 26
  have hbel : Below w.heap.size w u := by rw [hu]; exact (by repeat (first | exact Below.refl _ _ | refine Below.setCell ?_ (by first | omega | (simp <;> omega)) _ | refine Below.alloc ?_ (by first | omega | (simp <;> omega)) _ | refine Below.drew ?_))
  have HU := Lib.hid hu
  clear hu
  have hr := ha.below hbel
  clear ha
  have HV := Lib.hid (fun v => implValidDrum K B T F v z)
  have HO := Lib.hid (fun v (hv : Rd v a ds) => implValidRegister b a c ds v hv zd bb)
  clear z zd bb
  cases hb : drumB K B T F with
  | false =>
    have HR := Lib.hid (busy_bad1i (b := b) (ds := ds) hb)
    rw [hb] at HV
    clear hb
    have c0 := bx.at_ 0 rfl
    have c1 := bx.at_ 1 rfl
    have c2 := bx.at_ 2 rfl
    have c3 := bx.at_ 3 rfl
    have r0 := br.at_ 0 rfl
    have r1 := br.at_ 1 rfl
    go_enter Try.func74, Try.ntmps74
    go_wp2_with fail
    rw [← HU.out]
    refine (HV.out _).mono ?_
    rintro e w1 ⟨rfl, hb1⟩
    clear c0 c1 c2 c3 r0 r1
    replace bx := bx.below hb1
    replace br := br.below hb1
    replace hr := hr.below hb1
    replace hbel := hbel.trans (hb1.mono hbel.size)
    clear hb1
    have c0 := bx.at_ 0 rfl
    have c1 := bx.at_ 1 rfl
    have c2 := bx.at_ 2 rfl
    have c3 := bx.at_ 3 rfl
    have r0 := br.at_ 0 rfl
    have r1 := br.at_ 1 rfl
    go_wp2
    refine bodyPost_ret (v := .tuple #[.int .i64 0, .int .i64 0, .int .i64 1]) (by simp [results, Try.results74, go_sem]) rfl ⟨ret_threei HR.out, hbel⟩
  | true =>
    rw [hb] at HV
    cases ho : okB b ds with
    | false =>
      have HR := Lib.hid (busy_bad2i (K := K) (B := B) (T := T) (F := F) ho)
      rw [ho] at HO
      clear hb ho
      have c0 := bx.at_ 0 rfl
      have c1 := bx.at_ 1 rfl
      have c2 := bx.at_ 2 rfl
      have c3 := bx.at_ 3 rfl
      have r0 := br.at_ 0 rfl
      have r1 := br.at_ 1 rfl
      go_enter Try.func74, Try.ntmps74
      go_wp2_with fail
      rw [← HU.out]
      refine (HV.out _).mono ?_
      rintro e w1 ⟨rfl, hb1⟩
      clear c0 c1 c2 c3 r0 r1
      replace bx := bx.below hb1
      replace br := br.below hb1
      replace hr := hr.below hb1
      replace hbel := hbel.trans (hb1.mono hbel.size)
      clear hb1
      have c0 := bx.at_ 0 rfl
      have c1 := bx.at_ 1 rfl
      have c2 := bx.at_ 2 rfl
      have c3 := bx.at_ 3 rfl
      have r0 := br.at_ 0 rfl
      have r1 := br.at_ 1 rfl
      go_wp2_with fail
      refine (HO.out _ hr).mono ?_
      rintro e w2 ⟨rfl, hb2⟩
      clear c0 c1 c2 c3 r0 r1
      replace bx := bx.below hb2
      replace br := br.below hb2
      replace hr := hr.below hb2
      replace hbel := hbel.trans (hb2.mono hbel.size)
      clear hb2
      have c0 := bx.at_ 0 rfl
      have c1 := bx.at_ 1 rfl
      have c2 := bx.at_ 2 rfl
      have c3 := bx.at_ 3 rfl
      have r0 := br.at_ 0 rfl
      have r1 := br.at_ 1 rfl
      go_wp2
      refine bodyPost_ret (v := .tuple #[.int .i64 0, .int .i64 0, .int .i64 1]) (by simp [results, Try.results74, go_sem]) rfl ⟨ret_threei HR.out, hbel⟩
    | true =>
      rw [ho] at HO
      by_cases he : b = B
      · have HR := Lib.hid (busy_oki hb ho he)
        have HD := Lib.hid (drm_of hb)
        have HS := Lib.hid (okB_spec ho)
        have hq : (b != B) = false := by simp [he]
        have hT1 : 2 ≤ T := by have := HD.out.b1; have := HD.out.t1; omega
        have hT2 := HD.out.t2
        have HB := Lib.hid (show ∀ d ∈ ds, 0 ≤ d ∧ d < B by rw [← he]; exact HS.out.2.2.2.2.1)
        have hl16 := HS.out.2.2.2.1
        have HE := Lib.hid he
        clear hb ho he
        obtain ⟨N, rfl⟩ := Int.eq_ofNat_of_zero_le (show 0 ≤ T by omega)
        have hTN : ((N : Int)).toNat = N := by omega
        rw [hTN] at HR
        clear hTN
        have hw1 : IntKind.i64.wrap ((N : Int) + 1) = (N : Int) + 1 := IntWalk.i64_in _ (by omega)
        have c0 := bx.at_ 0 rfl
        have c1 := bx.at_ 1 rfl
        have c2 := bx.at_ 2 rfl
        have c3 := bx.at_ 3 rfl
        have r0 := br.at_ 0 rfl
        have r1 := br.at_ 1 rfl
        go_enter Try.func74, Try.ntmps74
        go_wp2_with fail
        rw [← HU.out]
        refine (HV.out _).mono ?_
        rintro e w1 ⟨rfl, hb1⟩
        clear c0 c1 c2 c3 r0 r1
        replace bx := bx.below hb1
        replace br := br.below hb1
        replace hr := hr.below hb1
        replace hbel := hbel.trans (hb1.mono hbel.size)
        clear hb1
        have c0 := bx.at_ 0 rfl
        have c1 := bx.at_ 1 rfl
        have c2 := bx.at_ 2 rfl
        have c3 := bx.at_ 3 rfl
        have r0 := br.at_ 0 rfl
        have r1 := br.at_ 1 rfl
        go_wp2_with fail
        refine (HO.out _ hr).mono ?_
        rintro e w2 ⟨rfl, hb2⟩
        clear c0 c1 c2 c3 r0 r1
        replace bx := bx.below hb2
        replace br := br.below hb2
        replace hr := hr.below hb2
        replace hbel := hbel.trans (hb2.mono hbel.size)
        clear hb2
        have c0 := bx.at_ 0 rfl
        have c1 := bx.at_ 1 rfl
        have c2 := bx.at_ 2 rfl
        have c3 := bx.at_ 3 rfl
        have r0 := br.at_ 0 rfl
        have r1 := br.at_ 1 rfl
        go_wp2_with (at_make; refine wpList_makeI rfl (.tmp 28) (.tmp 28) 24 2 rfl Try.underlying24 info_int64 (N + 1) (by rw [show ((N + 1 : Nat) : Int) = (N : Int) + 1 by omega]; rfl) (by rw [show ((N + 1 : Nat) : Int) = (N : Int) + 1 by omega]; rfl) (by omega) ?_; intro w3 hown3 hb3; have r1m := (br.below hb3).at_ 1 rfl)
        obtain ⟨G, hG⟩ : ∃ G, G = w2.heap.size := ⟨_, rfl⟩
        rw [← hG] at hown3 ⊢
        have hGw : w.heap.size + 1 < G := by rw [hG]; exact br.lt
        have hwG : w.heap.size ≤ w2.heap.size := hbel.size
        have hG3 := hown3.block
        replace hown3 : Own 2 w3 G (G + 1) (.slice (some ⟨G, 0, none⟩) (N + 1) (N + 1)) (cntT K B N F (allT K B N F (ds.take 0))) := by
          have e : cntT K B N F (allT K B N F (ds.take 0)) = pad (N + 1) [] := by simp [cntT, allT, pad]
          rw [e]; exact ⟨hown3.row, fun k hk => by simp [Value.ownBlock] at hk; omega, hown3.len⟩
        have HG := Lib.hid hG
        clear hG hq c0 c1 c2 c3 r0 r1 hw1
        have c1 := (bx.below hb3).at_ 1 rfl
        have c2 := (bx.below hb3).at_ 2 rfl
        have r1 := (br.below hb3).at_ 1 rfl
        go_loopw [9, 33] (fun _ i wr => ∃ k : Nat, k ≤ ds.length ∧ i = .int .i64 k ∧ Own 2 wr G (G + 1) (.slice (some ⟨G, 0, none⟩) (N + 1) (N + 1)) (cntT K B N F (allT K B N F (ds.take k))) ∧ Below w2.heap.size w2 wr) (fun _ i _ => ds.length - (intOf i).toNat)
        case atStart => exact ⟨0, Nat.zero_le _, rfl, hown3, hb3⟩
        case round =>
          clear hown3 hG3 c1 c2 r1
          obtain ⟨k, hk, rfl, hown, hb⟩ := hrel
          have hG4 := hown.block
          have bx4 := bx.below hb
          have br4 := br.below hb
          have hr4 := hr.below hb
          have c0 := bx4.at_ 0 rfl
          have c1 := bx4.at_ 1 rfl
          have c2 := bx4.at_ 2 rfl
          have c3 := bx4.at_ 3 rfl
          have r1 := br4.at_ 1 rfl
          by_cases hlt : k < ds.length
          · have hmem : nth ds k ∈ ds := by rw [nth_get hlt]; exact List.getElem_mem hlt
            obtain ⟨p, off, rfl, hc⟩ := hr4.at_ hlt
            obtain ⟨n, hn⟩ := Int.eq_ofNat_of_zero_le (HB.out _ hmem).1
            have hn16 : n < 16 := by have := (HB.out _ hmem).2; have := HD.out.b2; omega
            have HT := Lib.hid (show allT K B N F (ds.take (k + 1)) = allT K B N F (ds.take k) ++ tms K B N F n by rw [take_snocI hlt, allT_snoc, hn])
            rw [hn] at hc hmem
            clear hn
            go_wp2_with fail
            refine (stepTimes_any K B N F n _ HD.out (by omega) (HB.out _ hmem).2).mono ?_
            rintro e w4 ⟨A, C, rfl, own4, hb4⟩
            rw [show ((n : Int)).toNat = n by omega] at own4 ⊢
            obtain ⟨L, hL⟩ : ∃ L, L = wr.heap.size := ⟨_, rfl⟩
            obtain ⟨H, hH⟩ : ∃ H, H = w4.heap.size := ⟨_, rfl⟩
            rw [← hL, ← hH] at own4
            have hGL : G < L := by omega
            replace hown := hown.below hb4
            have hb5 := hb.trans (hb4.mono hb.size)
            have HLn := Lib.hid (show (tms K B N F n).length = n by rw [tms_len]; omega)
            clear c0 c1 c2 c3 r1 hb4 hL hH hc bx4 br4 hr4 hb hG4
            go_wp2_with fail
            go_loopw [11, 41] (fun _ i wr => ∃ j : Nat, j ≤ n ∧ i = .int .i64 j ∧ Own 2 wr G (G + 1) (.slice (some ⟨G, 0, none⟩) (N + 1) (N + 1)) (cntT K B N F (allT K B N F (ds.take k) ++ (tms K B N F n).take j)) ∧ Own 2 wr L H (.slice A n C) (tms K B N F n) ∧ Below w2.heap.size w2 wr) (fun _ i _ => n - (intOf i).toNat)
            case atStart => exact ⟨0, Nat.zero_le _, rfl, by rw [List.take_zero, List.append_nil]; exact hown, own4, hb5⟩
            case round =>
              clear hown own4 hb5
              obtain ⟨j, hj, rfl, hown, own4, hb5⟩ := hrel
              by_cases hjn : j < n
              · have hjl : j < (tms K B N F n).length := by rw [HLn.out]; exact hjn
                obtain ⟨p2, off2, rfl, hc2⟩ := own4.rd.at_ hjl
                have htb := tms_bd HD.out (HB.out _ hmem).2 (k := j) (by omega)
                have HT2 := Lib.hid (take_snocI hjl)
                obtain ⟨t, ht⟩ := Int.eq_ofNat_of_zero_le (show 0 ≤ nth (tms K B N F n) j by omega)
                rw [ht] at hc2 HT2 htb
                clear ht
                have htN : t < N + 1 := by omega
                have hgg := hown.block
                have hgt := hown.get (j := t) (by rw [cntT_len]; omega)
                have hth := hown.thaw t
                have hcb := cnt_bd (K := K) (B := B) (T := N) (F := F) (ts := allT K B N F (ds.take k) ++ (tms K B N F n).take j) (fun x hx => by
                  rcases List.mem_append.1 hx with hx | hx
                  · exact allT_mem HD.out (fun d hd => (HB.out d (List.mem_of_mem_take hd)).2) hx
                  · exact tms_mem HD.out (HB.out _ hmem).2 (List.mem_of_mem_take hx)) t
                have hln : (allT K B N F (ds.take k) ++ (tms K B N F n).take j).length ≤ 1000 := by
                  have h1 := allT_len (K := K) (B := B) (T := N) (F := F) (ds := ds.take k) (fun d hd => by have := (HB.out d (List.mem_of_mem_take hd)).2; have := HD.out.b2; omega)
                  have h2 : (ds.take k).length ≤ 16 := by rw [List.length_take]; omega
                  have h3 : ((tms K B N F n).take j).length ≤ 16 := by rw [List.length_take, HLn.out]; omega
                  rw [List.length_append]; omega
                obtain ⟨y, hy⟩ : ∃ y, y = nth (cntT K B N F (allT K B N F (ds.take k) ++ (tms K B N F n).take j)) t := ⟨_, rfl⟩
                rw [← hy] at hgt hcb
                have hy1 : 0 ≤ y ∧ y ≤ 1000 := by omega
                have HP := Lib.hid (show Own 2 (wr.setCell ⟨G, t, none⟩ (.int .i64 (y + 1))) G (G + 1) (.slice (some ⟨G, 0, none⟩) (N + 1) (N + 1)) (cntT K B N F (allT K B N F (ds.take k) ++ (tms K B N F n).take (j + 1))) by
                  have e := hown.put t (y + 1)
                  rw [HT2.out, ← List.append_assoc, cntT_snoc]
                  unfold bump
                  rw [Int.toNat_natCast, ← hy]; exact e)
                have HQ := Lib.hid (own4.setCell (p := ⟨G, t, none⟩) (.inl hGL) (.int .i64 (y + 1)))
                have HZ := Lib.hid (hb5.setCell (p := ⟨G, t, none⟩) (by have := HG.out; simp; omega) (.int .i64 (y + 1)))
                clear hy hcb hln hown own4 hb5 htb
                go_wp2
                go_roundw
                case rel => exact ⟨j + 1, by omega, by go_num, HP.out, HQ.out, HZ.out⟩
                case measure => (simp [intOf]) <;> omega
              · obtain rfl : j = n := by omega
                have e : (tms K B N F j).take j = tms K B N F j := List.take_of_length_le (by rw [HLn.out]; exact Nat.le_refl _)
                rw [e, ← HT.out] at hown
                clear e
                go_wp2
                go_roundw
                case rel => exact ⟨k + 1, by omega, by go_num, hown, hb5⟩
                case measure => (simp [intOf]) <;> omega
          · obtain rfl : k = ds.length := by omega
            rw [List.take_of_length_le (Nat.le_refl _)] at hown
            have HLn := Lib.hid (cntT_len K B N F (allT K B N F ds))
            have hfin := hbel.trans (hb.mono hwG)
            have HM := Lib.hid (fun v (hv : Rd v (some ⟨G, 0, none⟩) (cntR K B N F ds)) => slicesMax_any _ (N + 1) N _ v hv HLn.out)
            have HI := Lib.hid (fun v (hv : Rd v (some ⟨G, 0, none⟩) (cntR K B N F ds)) => slicesIndex_any _ (N + 1) N _ v hv HLn.out)
            have hrd := hown.rd
            clear c0 c1 c2 c3 r1 hown hlt
            go_wp2_with fail
            refine (HM.out _ hrd).mono ?_
            rintro e w4 ⟨rfl, hq4⟩
            subst hq4
            go_wp2_with fail
            refine (HI.out _ hrd).mono ?_
            rintro e w5 ⟨rfl, hq5⟩
            subst hq5
            go_wp2
            refine bodyPost_ret (v := .tuple #[.int .i64 (bestTo (cntR K B N F ds) N : Nat), .int .i64 (nth (cntR K B N F ds) (bestTo (cntR K B N F ds) N)), .int .i64 0]) (by simp [results, Try.results74, go_sem]) rfl ⟨ret_threei HR.out, hfin⟩
      · have HR := Lib.hid (busy_statei hb ho he)
        have hq : (b != B) = true := by simp; omega
        clear hb ho he
        have c0 := bx.at_ 0 rfl
        have c1 := bx.at_ 1 rfl
        have c2 := bx.at_ 2 rfl
        have c3 := bx.at_ 3 rfl
        have r0 := br.at_ 0 rfl
        have r1 := br.at_ 1 rfl
        go_enter Try.func74, Try.ntmps74
        go_wp2_with fail
        rw [← HU.out]
        refine (HV.out _).mono ?_
        rintro e w1 ⟨rfl, hb1⟩
        clear c0 c1 c2 c3 r0 r1
        replace bx := bx.below hb1
        replace br := br.below hb1
        replace hr := hr.below hb1
        replace hbel := hbel.trans (hb1.mono hbel.size)
        clear hb1
        have c0 := bx.at_ 0 rfl
        have c1 := bx.at_ 1 rfl
        have c2 := bx.at_ 2 rfl
        have c3 := bx.at_ 3 rfl
        have r0 := br.at_ 0 rfl
        have r1 := br.at_ 1 rfl
        go_wp2_with fail
        refine (HO.out _ hr).mono ?_
        rintro e w2 ⟨rfl, hb2⟩
        clear c0 c1 c2 c3 r0 r1
        replace bx := bx.below hb2
        replace br := br.below hb2
        replace hr := hr.below hb2
        replace hbel := hbel.trans (hb2.mono hbel.size)
        clear hb2
        have c0 := bx.at_ 0 rfl
        have c1 := bx.at_ 1 rfl
        have c2 := bx.at_ 2 rfl
        have c3 := bx.at_ 3 rfl
        have r0 := br.at_ 0 rfl
        have r1 := br.at_ 1 rfl
        go_wp2
        refine bodyPost_ret (v := .tuple #[.int .i64 0, .int .i64 0, .int .i64 6]) (by simp [results, Try.results74, go_sem]) rfl ⟨ret_threei HR.out, hbel⟩
end Go.Proofs.Ytgfpjcckkbhdjaa

/- BusyS -/
namespace Go.Proofs.Ytgfpjcckkbhdjaa
open Go.RowKit

theorem busy_bad1s {K B T F b : Int} {ds : List Int} (h : drumB K B T F = false) : busyR K B T F b ds = (0, 0, 1) := by simp [busyR, h]
theorem busy_bad2s {K B T F b : Int} {ds : List Int} (h : okB b ds = false) : busyR K B T F b ds = (0, 0, 1) := by simp [busyR, h]
theorem busy_states {K B T F b : Int} {ds : List Int} (h : drumB K B T F = true) (h1 : okB b ds = true) (h2 : ¬ b = B) : busyR K B T F b ds = (0, 0, 6) := by simp [busyR, h, h1, h2]
theorem busy_oks {K B T F b : Int} {ds : List Int} (h : drumB K B T F = true) (h1 : okB b ds = true) (h2 : b = B) : busyR K B T F b ds = (((bestTo (cntR K B T F ds) T.toNat : Nat) : Int), nth (cntR K B T F ds) (bestTo (cntR K B T F ds) T.toNat), 0) := by subst h2; simp [busyR, h, h1]
theorem ret_threes {R : Int × Int × Int} {x y z : Int} (h : R = (x, y, z)) : Ending.returned (.tuple #[.int .i64 x, .int .i64 y, .int .i64 z]) = .returned (.tuple #[.int .i64 R.1, .int .i64 R.2.1, .int .i64 R.2.2]) := by subst h; rfl

set_option maxRecDepth 100000 in
set_option maxHeartbeats 8000000 in
theorem specBusiestTime (K B T F b : Int) (a : Option Addr) (c : Nat) (ds : List Int) (w : World) (_ : I64 K ∧ I64 B ∧ I64 T ∧ I64 F) (ha : Rd w a ds) (_ : All64 ds) (_ : I64 b) :
    Calls Try.prog 75 #[.agg #[.int .i64 K, .int .i64 B, .int .i64 T, .int .i64 F], .agg #[.int .i64 b, .slice a ds.length c]] w fun e w' => e = .returned (.tuple #[.int .i64 (busyR K B T F b ds).1, .int .i64 (busyR K B T F b ds).2.1, .int .i64 (busyR K B T F b ds).2.2]) ∧ Below w.heap.size w w' := by
  have hx := ha.len
  obtain ⟨u, hu⟩ : ∃ u, u = (w.alloc (.cells #[.int .i64 K, .int .i64 B, .int .i64 T, .int .i64 F] 86)).alloc (.cells #[.int .i64 b, .slice a ds.length c] 26) := ⟨_, rfl⟩
  have bx : Bx u w.heap.size 86 #[.int .i64 K, .int .i64 B, .int .i64 T, .int .i64 F] := by rw [hu]; exact (Bx.new _ _ _).alloc _
  have br : Bx u (w.heap.size + 1) 26 #[.int .i64 b, .slice a ds.length c] := by rw [hu]; simpa using Bx.new (w.alloc (.cells #[.int .i64 K, .int .i64 B, .int .i64 T, .int .i64 F] 86)) #[.int .i64 b, .slice a ds.length c] 26
  have hbel : Below w.heap.size w u := by rw [hu]; exact (by repeat (first | exact Below.refl _ _ | refine Below.setCell ?_ (by first | omega | (simp <;> omega)) _ | refine Below.alloc ?_ (by first | omega | (simp <;> omega)) _ | refine Below.drew ?_))
  have HU := Lib.hid hu
  clear hu
  have hr := ha.below hbel
  clear ha
  have HV := Lib.hid (fun v (hv : DrumAt v w.heap.size K B T F) => l05Ok_any w.heap.size K B T F v hv)
  have HO := Lib.hid (fun v (hv : Rd v a ds) => l02Ok_any (w.heap.size + 1) b a c ds v hv)
  cases hb : drumB K B T F with
  | false =>
    have HR := Lib.hid (busy_bad1s (b := b) (ds := ds) hb)
    rw [hb] at HV
    clear hb
    have c0 := bx.at_ 0 rfl
    have c1 := bx.at_ 1 rfl
    have c2 := bx.at_ 2 rfl
    have c3 := bx.at_ 3 rfl
    have r0 := br.at_ 0 rfl
    have r1 := br.at_ 1 rfl
    go_enter Try.func75, Try.ntmps75
    go_wp2_with fail
    rw [← HU.out]
    refine (HV.out _ (DrumAt.of_box bx)).mono ?_
    rintro e w1 ⟨rfl, k1, hw⟩
    have hbk1 : Below u.heap.size u w1 := by rw [hw]; exact bel_drewN (Below.refl _ _) k1
    clear hw
    clear c0 c1 c2 c3 r0 r1
    replace bx := bx.below hbk1
    replace br := br.below hbk1
    replace hr := hr.below hbk1
    replace hbel := hbel.trans (hbk1.mono hbel.size)
    clear hbk1
    have c0 := bx.at_ 0 rfl
    have c1 := bx.at_ 1 rfl
    have c2 := bx.at_ 2 rfl
    have c3 := bx.at_ 3 rfl
    have r0 := br.at_ 0 rfl
    have r1 := br.at_ 1 rfl
    go_wp2
    refine bodyPost_ret (v := .tuple #[.int .i64 0, .int .i64 0, .int .i64 1]) (by simp [results, Try.results75, go_sem]) rfl ⟨ret_threes HR.out, hbel⟩
  | true =>
    rw [hb] at HV
    cases ho : okB b ds with
    | false =>
      have HR := Lib.hid (busy_bad2s (K := K) (B := B) (T := T) (F := F) ho)
      rw [ho] at HO
      clear hb ho
      have c0 := bx.at_ 0 rfl
      have c1 := bx.at_ 1 rfl
      have c2 := bx.at_ 2 rfl
      have c3 := bx.at_ 3 rfl
      have r0 := br.at_ 0 rfl
      have r1 := br.at_ 1 rfl
      go_enter Try.func75, Try.ntmps75
      go_wp2_with fail
      rw [← HU.out]
      refine (HV.out _ (DrumAt.of_box bx)).mono ?_
      rintro e w1 ⟨rfl, k1, hw⟩
      have hbk1 : Below u.heap.size u w1 := by rw [hw]; exact bel_drewN (Below.refl _ _) k1
      clear hw
      clear c0 c1 c2 c3 r0 r1
      replace bx := bx.below hbk1
      replace br := br.below hbk1
      replace hr := hr.below hbk1
      replace hbel := hbel.trans (hbk1.mono hbel.size)
      clear hbk1
      have c0 := bx.at_ 0 rfl
      have c1 := bx.at_ 1 rfl
      have c2 := bx.at_ 2 rfl
      have c3 := bx.at_ 3 rfl
      have r0 := br.at_ 0 rfl
      have r1 := br.at_ 1 rfl
      go_wp2_with fail
      refine (HO.out _ hr r0 r1).mono ?_
      rintro e w2 ⟨rfl, k2, hw⟩
      have hbk2 : Below w1.heap.size w1 w2 := by rw [hw]; exact bel_drewN (Below.refl _ _) k2
      clear hw
      clear c0 c1 c2 c3 r0 r1
      replace bx := bx.below hbk2
      replace br := br.below hbk2
      replace hr := hr.below hbk2
      replace hbel := hbel.trans (hbk2.mono hbel.size)
      clear hbk2
      have c0 := bx.at_ 0 rfl
      have c1 := bx.at_ 1 rfl
      have c2 := bx.at_ 2 rfl
      have c3 := bx.at_ 3 rfl
      have r0 := br.at_ 0 rfl
      have r1 := br.at_ 1 rfl
      go_wp2
      refine bodyPost_ret (v := .tuple #[.int .i64 0, .int .i64 0, .int .i64 1]) (by simp [results, Try.results75, go_sem]) rfl ⟨ret_threes HR.out, hbel⟩
    | true =>
      rw [ho] at HO
      by_cases he : b = B
      · have HR := Lib.hid (busy_oks hb ho he)
        have HD := Lib.hid (drm_of hb)
        have HS := Lib.hid (okB_spec ho)
        have hq : (B != b) = false := by simp [he]
        have hT1 : 2 ≤ T := by have := HD.out.b1; have := HD.out.t1; omega
        have hT2 := HD.out.t2
        have HB := Lib.hid (show ∀ d ∈ ds, 0 ≤ d ∧ d < B by rw [← he]; exact HS.out.2.2.2.2.1)
        have hl16 := HS.out.2.2.2.1
        have HE := Lib.hid he
        clear hb ho he
        obtain ⟨N, rfl⟩ := Int.eq_ofNat_of_zero_le (show 0 ≤ T by omega)
        have hTN : ((N : Int)).toNat = N := by omega
        rw [hTN] at HR
        clear hTN
        have hw1 : IntKind.i64.wrap ((N : Int) + 1) = (N : Int) + 1 := IntWalk.i64_in _ (by omega)
        have c0 := bx.at_ 0 rfl
        have c1 := bx.at_ 1 rfl
        have c2 := bx.at_ 2 rfl
        have c3 := bx.at_ 3 rfl
        have r0 := br.at_ 0 rfl
        have r1 := br.at_ 1 rfl
        go_enter Try.func75, Try.ntmps75
        go_wp2_with fail
        rw [← HU.out]
        refine (HV.out _ (DrumAt.of_box bx)).mono ?_
        rintro e w1 ⟨rfl, k1, hw⟩
        have hbk1 : Below u.heap.size u w1 := by rw [hw]; exact bel_drewN (Below.refl _ _) k1
        clear hw
        clear c0 c1 c2 c3 r0 r1
        replace bx := bx.below hbk1
        replace br := br.below hbk1
        replace hr := hr.below hbk1
        replace hbel := hbel.trans (hbk1.mono hbel.size)
        clear hbk1
        have c0 := bx.at_ 0 rfl
        have c1 := bx.at_ 1 rfl
        have c2 := bx.at_ 2 rfl
        have c3 := bx.at_ 3 rfl
        have r0 := br.at_ 0 rfl
        have r1 := br.at_ 1 rfl
        go_wp2_with fail
        refine (HO.out _ hr r0 r1).mono ?_
        rintro e w2 ⟨rfl, k2, hw⟩
        have hbk2 : Below w1.heap.size w1 w2 := by rw [hw]; exact bel_drewN (Below.refl _ _) k2
        clear hw
        clear c0 c1 c2 c3 r0 r1
        replace bx := bx.below hbk2
        replace br := br.below hbk2
        replace hr := hr.below hbk2
        replace hbel := hbel.trans (hbk2.mono hbel.size)
        clear hbk2
        have c0 := bx.at_ 0 rfl
        have c1 := bx.at_ 1 rfl
        have c2 := bx.at_ 2 rfl
        have c3 := bx.at_ 3 rfl
        have r0 := br.at_ 0 rfl
        have r1 := br.at_ 1 rfl
        go_wp2_with (at_make; refine wpList_makeI rfl (.tmp 26) (.tmp 26) 24 2 rfl Try.underlying24 info_int64 (N + 1) (by rw [show ((N + 1 : Nat) : Int) = (N : Int) + 1 by omega]; rfl) (by rw [show ((N + 1 : Nat) : Int) = (N : Int) + 1 by omega]; rfl) (by omega) ?_; intro w3 hown3 hb3)
        obtain ⟨G, hG⟩ : ∃ G, G = w2.heap.size := ⟨_, rfl⟩
        rw [← hG] at hown3 ⊢
        have hGw : w.heap.size + 1 < G := by rw [hG]; exact br.lt
        have hwG : w.heap.size ≤ w2.heap.size := hbel.size
        have hG3 := hown3.block
        replace hown3 : Own 2 w3 G (G + 1) (.slice (some ⟨G, 0, none⟩) (N + 1) (N + 1)) (cntT K B N F (allT K B N F (ds.take 0))) := by
          have e : cntT K B N F (allT K B N F (ds.take 0)) = pad (N + 1) [] := by simp [cntT, allT, pad]
          rw [e]; exact ⟨hown3.row, fun k hk => by simp [Value.ownBlock] at hk; omega, hown3.len⟩
        have HG := Lib.hid hG
        clear hG hq c0 c1 c2 c3 r0 r1 hw1
        have c1 := (bx.below hb3).at_ 1 rfl
        have c2 := (bx.below hb3).at_ 2 rfl
        have r1 := (br.below hb3).at_ 1 rfl
        go_loopw [8, 9, 10] (fun i _ _ wr => ∃ k : Nat, k ≤ ds.length ∧ i = .int .i64 k ∧ Own 2 wr G (G + 1) (.slice (some ⟨G, 0, none⟩) (N + 1) (N + 1)) (cntT K B N F (allT K B N F (ds.take k))) ∧ Below w2.heap.size w2 wr) (fun i _ _ _ => ds.length - (intOf i).toNat)
        case atStart => exact ⟨0, Nat.zero_le _, rfl, hown3, hb3⟩
        case round =>
          clear hown3 hG3 c1 c2 r1
          obtain ⟨k, hk, rfl, hown, hb⟩ := hrel
          have hG4 := hown.block
          have bx4 := bx.below hb
          have br4 := br.below hb
          have hr4 := hr.below hb
          have c0 := bx4.at_ 0 rfl
          have c1 := bx4.at_ 1 rfl
          have c2 := bx4.at_ 2 rfl
          have c3 := bx4.at_ 3 rfl
          have r1 := br4.at_ 1 rfl
          by_cases hlt : k < ds.length
          · have hmem : nth ds k ∈ ds := by rw [nth_get hlt]; exact List.getElem_mem hlt
            obtain ⟨p, off, rfl, hc⟩ := hr4.at_ hlt
            obtain ⟨n, hn⟩ := Int.eq_ofNat_of_zero_le (HB.out _ hmem).1
            have hn16 : n < 16 := by have := (HB.out _ hmem).2; have := HD.out.b2; omega
            have HT := Lib.hid (show allT K B N F (ds.take (k + 1)) = allT K B N F (ds.take k) ++ tms K B N F n by rw [take_snocI hlt, allT_snoc, hn])
            rw [hn] at hc hmem
            clear hn
            go_wp2_with fail
            refine (l05Times_any w.heap.size K B N F n _ (DrumAt.of_box bx4) HD.out (by omega) (HB.out _ hmem).2).mono ?_
            rintro e w4 ⟨A, C, rfl, own4, hb4⟩
            rw [show ((n : Int)).toNat = n by omega] at own4 ⊢
            obtain ⟨L, hL⟩ : ∃ L, L = wr.heap.size := ⟨_, rfl⟩
            obtain ⟨H, hH⟩ : ∃ H, H = w4.heap.size := ⟨_, rfl⟩
            rw [← hL, ← hH] at own4
            have hGL : G < L := by omega
            replace hown := hown.below hb4
            have hb5 := hb.trans (hb4.mono hb.size)
            have HLn := Lib.hid (show (tms K B N F n).length = n by rw [tms_len]; omega)
            clear c0 c1 c2 c3 r1 hb4 hL hH hc bx4 br4 hr4 hb hG4
            go_wp2_with fail
            go_loopw [10] (fun i wr => ∃ j : Nat, j ≤ n ∧ i = .int .i64 j ∧ Own 2 wr G (G + 1) (.slice (some ⟨G, 0, none⟩) (N + 1) (N + 1)) (cntT K B N F (allT K B N F (ds.take k) ++ (tms K B N F n).take j)) ∧ Own 2 wr L H (.slice A n C) (tms K B N F n) ∧ Below w2.heap.size w2 wr) (fun i _ => n - (intOf i).toNat)
            case atStart => exact ⟨0, Nat.zero_le _, rfl, by rw [List.take_zero, List.append_nil]; exact hown, own4, hb5⟩
            case round =>
              clear hown own4 hb5
              obtain ⟨j, hj, rfl, hown, own4, hb5⟩ := hrel
              by_cases hjn : j < n
              · have hjl : j < (tms K B N F n).length := by rw [HLn.out]; exact hjn
                obtain ⟨p2, off2, rfl, hc2⟩ := own4.rd.at_ hjl
                have htb := tms_bd HD.out (HB.out _ hmem).2 (k := j) (by omega)
                have HT2 := Lib.hid (take_snocI hjl)
                obtain ⟨t, ht⟩ := Int.eq_ofNat_of_zero_le (show 0 ≤ nth (tms K B N F n) j by omega)
                rw [ht] at hc2 HT2 htb
                clear ht
                have htN : t < N + 1 := by omega
                have hgg := hown.block
                have hgt := hown.get (j := t) (by rw [cntT_len]; omega)
                have hth := hown.thaw t
                have hcb := cnt_bd (K := K) (B := B) (T := N) (F := F) (ts := allT K B N F (ds.take k) ++ (tms K B N F n).take j) (fun x hx => by
                  rcases List.mem_append.1 hx with hx | hx
                  · exact allT_mem HD.out (fun d hd => (HB.out d (List.mem_of_mem_take hd)).2) hx
                  · exact tms_mem HD.out (HB.out _ hmem).2 (List.mem_of_mem_take hx)) t
                have hln : (allT K B N F (ds.take k) ++ (tms K B N F n).take j).length ≤ 1000 := by
                  have h1 := allT_len (K := K) (B := B) (T := N) (F := F) (ds := ds.take k) (fun d hd => by have := (HB.out d (List.mem_of_mem_take hd)).2; have := HD.out.b2; omega)
                  have h2 : (ds.take k).length ≤ 16 := by rw [List.length_take]; omega
                  have h3 : ((tms K B N F n).take j).length ≤ 16 := by rw [List.length_take, HLn.out]; omega
                  rw [List.length_append]; omega
                obtain ⟨y, hy⟩ : ∃ y, y = nth (cntT K B N F (allT K B N F (ds.take k) ++ (tms K B N F n).take j)) t := ⟨_, rfl⟩
                rw [← hy] at hgt hcb
                have hy1 : 0 ≤ y ∧ y ≤ 1000 := by omega
                have HP := Lib.hid (show Own 2 (wr.setCell ⟨G, t, none⟩ (.int .i64 (y + 1))) G (G + 1) (.slice (some ⟨G, 0, none⟩) (N + 1) (N + 1)) (cntT K B N F (allT K B N F (ds.take k) ++ (tms K B N F n).take (j + 1))) by
                  have e := hown.put t (y + 1)
                  rw [HT2.out, ← List.append_assoc, cntT_snoc]
                  unfold bump
                  rw [Int.toNat_natCast, ← hy]; exact e)
                have HQ := Lib.hid (own4.setCell (p := ⟨G, t, none⟩) (.inl hGL) (.int .i64 (y + 1)))
                have HZ := Lib.hid (hb5.setCell (p := ⟨G, t, none⟩) (by have := HG.out; simp; omega) (.int .i64 (y + 1)))
                clear hy hcb hln hown own4 hb5 htb
                go_wp2
                go_roundw
                case rel => exact ⟨j + 1, by omega, by go_num, HP.out, HQ.out, HZ.out⟩
                case measure => (simp [intOf]) <;> omega
              · obtain rfl : j = n := by omega
                have e : (tms K B N F j).take j = tms K B N F j := List.take_of_length_le (by rw [HLn.out]; exact Nat.le_refl _)
                rw [e, ← HT.out] at hown
                clear e
                go_wp2
                go_roundw
                case rel => exact ⟨k + 1, by omega, by go_num, hown, hb5⟩
                case measure => (simp [intOf]) <;> omega
          · obtain rfl : k = ds.length := by omega
            rw [List.take_of_length_le (Nat.le_refl _)] at hown
            have HLn := Lib.hid (cntT_len K B N F (allT K B N F ds))
            have hfin := hbel.trans (hb.mono hwG)
            have hrd := hown.rd
            obtain ⟨cs, hcs⟩ : ∃ cs, cs = cntT K B N F (allT K B N F ds) := ⟨_, rfl⟩
            have HR2 := Lib.hid (show busyR K B N F b ds = (((bestTo cs N : Nat) : Int), nth cs (bestTo cs N), 0) by rw [HR.out, hcs]; rfl)
            rw [← hcs] at HLn hrd
            obtain ⟨g0, o0, e0, hcell⟩ := hrd.cells (by rintro rfl; have := HLn.out; simp at this)
            injection e0 with e0
            injection e0 with e1 e2 _
            subst e1 e2
            clear c0 c1 c3 hown hlt hcs hrd
            obtain ⟨wz, hwz⟩ : ∃ wz, wz = wr := ⟨_, rfl⟩
            rw [← hwz] at hfin hcell c2 r1 ⊢
            clear hwz
            go_wp2_with fail
            go_loopw [11, 12] (fun v i wr => ∃ k m : Nat, k ≤ N ∧ i = .int .i64 ((k : Int) + 1) ∧ v = .int .i64 (bestTo cs k : Nat) ∧ Hid (wr = wz.drewN m)) (fun _ i _ => N + 1 - (intOf i).toNat)
            case atStart => exact ⟨0, 0, Nat.zero_le _, by go_num, rfl, Lib.hid rfl⟩
            case round =>
              obtain ⟨k, m, hk, rfl, rfl, HW⟩ := hrel
              have c2' : wr.cell? ⟨w.heap.size, 2, none⟩ = some (.int .i64 (N : Int)) := by rw [HW.out]; exact c2
              have hbk := bestTo_le cs k
              have hcA : wr.cell? ⟨G, bestTo cs k, none⟩ = some (.int .i64 (nth cs (bestTo cs k))) := by rw [HW.out]; have := hcell (bestTo cs k) (by have := HLn.out; omega); rwa [Nat.zero_add] at this
              by_cases hkn : k < N
              · have hcB : wr.cell? ⟨G, k + 1, none⟩ = some (.int .i64 (nth cs (k + 1))) := by rw [HW.out]; have := hcell (k + 1) (by have := HLn.out; omega); rwa [Nat.zero_add] at this
                have e8 : ((k : Int) + 1).toNat = k + 1 := by omega
                have hw2 : IntKind.i64.wrap ((k : Int) + 1) = (k : Int) + 1 := IntWalk.i64_in _ (by omega)
                by_cases hgt : nth cs (bestTo cs k) < nth cs (k + 1)
                · have HS := Lib.hid (show bestTo cs (k + 1) = k + 1 by rw [bestTo, if_pos hgt])
                  have hdd : decide (nth cs (k + 1) > nth cs (bestTo cs k)) = true := decide_eq_true hgt
                  clear hgt
                  go_wp2
                  go_quiet (fail)
                  go_wp2
                  go_roundw
                  case rel => exact ⟨k + 1, _, by omega, by go_num, by rw [HS.out]; go_num, Lib.hid (by rw [HW.out, drewN_drewN])⟩
                  case measure => (simp [intOf]) <;> omega
                · have HS := Lib.hid (show bestTo cs (k + 1) = bestTo cs k by rw [bestTo, if_neg hgt])
                  have hdd : decide (nth cs (k + 1) > nth cs (bestTo cs k)) = false := decide_eq_false hgt
                  clear hgt
                  go_wp2
                  go_quiet (fail)
                  go_wp2
                  go_roundw
                  case rel => exact ⟨k + 1, _, by omega, by go_num, by rw [HS.out], Lib.hid (by rw [HW.out, drewN_drewN])⟩
                  case measure => (simp [intOf]) <;> omega
              · obtain rfl : k = N := by omega
                go_wp2
                go_quiet (fail)
                go_wp2
                refine bodyPost_ret (v := .tuple #[.int .i64 (bestTo cs k : Nat), .int .i64 (nth cs (bestTo cs k)), .int .i64 0]) (by simp [results, Try.results75, go_sem]) rfl ⟨ret_threes HR2.out, ?_⟩
                have e : Below w.heap.size w wr := by rw [HW.out]; exact bel_drewN hfin m
                exact bel_drewN e _
      · have HR := Lib.hid (busy_states hb ho he)
        have hq : (B != b) = true := by simp; omega
        clear hb ho he
        have c0 := bx.at_ 0 rfl
        have c1 := bx.at_ 1 rfl
        have c2 := bx.at_ 2 rfl
        have c3 := bx.at_ 3 rfl
        have r0 := br.at_ 0 rfl
        have r1 := br.at_ 1 rfl
        go_enter Try.func75, Try.ntmps75
        go_wp2_with fail
        rw [← HU.out]
        refine (HV.out _ (DrumAt.of_box bx)).mono ?_
        rintro e w1 ⟨rfl, k1, hw⟩
        have hbk1 : Below u.heap.size u w1 := by rw [hw]; exact bel_drewN (Below.refl _ _) k1
        clear hw
        clear c0 c1 c2 c3 r0 r1
        replace bx := bx.below hbk1
        replace br := br.below hbk1
        replace hr := hr.below hbk1
        replace hbel := hbel.trans (hbk1.mono hbel.size)
        clear hbk1
        have c0 := bx.at_ 0 rfl
        have c1 := bx.at_ 1 rfl
        have c2 := bx.at_ 2 rfl
        have c3 := bx.at_ 3 rfl
        have r0 := br.at_ 0 rfl
        have r1 := br.at_ 1 rfl
        go_wp2_with fail
        refine (HO.out _ hr r0 r1).mono ?_
        rintro e w2 ⟨rfl, k2, hw⟩
        have hbk2 : Below w1.heap.size w1 w2 := by rw [hw]; exact bel_drewN (Below.refl _ _) k2
        clear hw
        clear c0 c1 c2 c3 r0 r1
        replace bx := bx.below hbk2
        replace br := br.below hbk2
        replace hr := hr.below hbk2
        replace hbel := hbel.trans (hbk2.mono hbel.size)
        clear hbk2
        have c0 := bx.at_ 0 rfl
        have c1 := bx.at_ 1 rfl
        have c2 := bx.at_ 2 rfl
        have c3 := bx.at_ 3 rfl
        have r0 := br.at_ 0 rfl
        have r1 := br.at_ 1 rfl
        go_wp2
        refine bodyPost_ret (v := .tuple #[.int .i64 0, .int .i64 0, .int .i64 6]) (by simp [results, Try.results75, go_sem]) rfl ⟨ret_threes HR.out, hbel⟩
end Go.Proofs.Ytgfpjcckkbhdjaa

/- Dec -/
namespace Go.Proofs.Ytgfpjcckkbhdjaa
open Go.RowKit

/-- The decimal digits of a number, none for 0. -/
def dg (u : Nat) : List UInt8 :=
  if _ : u = 0 then [] else dg (u / 10) ++ [UInt8.ofNat (48 + u % 10)]
termination_by u
decreasing_by omega
theorem dg_zero : dg 0 = [] := by rw [dg, dif_pos rfl]
theorem dg_pos {u : Nat} (h : u ≠ 0) : dg u = dg (u / 10) ++ [UInt8.ofNat (48 + u % 10)] := by rw [dg, dif_neg h]
theorem dg_ne {u : Nat} (h : u ≠ 0) : dg u ≠ [] := by rw [dg_pos h]; simp
theorem dg_dec : ∀ {u : Nat}, u ≠ 0 → dg u = Lib.decDigits u := by
  intro u
  induction u using Nat.strongRecOn with
  | _ u ih =>
    intro h
    rw [dg_pos h, Lib.decDigits]
    by_cases h10 : u < 10
    · rw [dif_pos h10, show u / 10 = 0 by omega, dg_zero, List.nil_append, show u % 10 = u by omega]
    · rw [dif_neg h10, ih (u / 10) (by omega) (by omega)]
theorem dg_len : ∀ (k u : Nat), u < 10 ^ k → (dg u).length ≤ k := by
  intro k
  induction k with
  | zero => intro u h; have : u = 0 := by simpa using h
            rw [this, dg_zero]; simp
  | succ k ih =>
    intro u h
    by_cases h0 : u = 0
    · rw [h0, dg_zero]; simp
    · rw [dg_pos h0]
      have := ih (u / 10) (by rw [Nat.pow_succ] at h; omega)
      simp; omega
theorem itoa_zero : Lib.itoa 0 = [48] := by unfold Lib.itoa; rw [if_neg (by omega)]; rw [Lib.decDigits, dif_pos (by decide)]; rfl
theorem itoa_neg {n : Int} (h : n < 0) : Lib.itoa n = 45 :: dg n.natAbs := by unfold Lib.itoa; rw [if_pos h, dg_dec (by omega)]
theorem itoa_pos {n : Int} (h : 0 < n) : Lib.itoa n = dg n.natAbs := by unfold Lib.itoa; rw [if_neg (by omega), dg_dec (by omega)]; congr 1; omega

/-- Bytes as cells. -/
def u8s (l : List UInt8) : List Value := l.map fun b => Value.int .u8 (b.toNat : Int)
theorem u8s_cons (b : UInt8) (l : List UInt8) : u8s (b :: l) = [Value.int .u8 (b.toNat : Int)] ++ u8s l := rfl
theorem u8s_len (l : List UInt8) : (u8s l).length = l.length := by simp [u8s]
theorem u8s_at {l : List UInt8} {j : Nat} (h : j < l.length) : (u8s l)[j]? = some (.int .u8 (l[j].toNat : Int)) := by simp [u8s, List.getElem?_map, List.getElem?_eq_getElem h]
theorem info_u8 : (Try.prog.info? 5).map (fun i => (i.zero, i.size, i.bytes)) = some (some (.int .u8 0), 1, 1) := by kernel_rfl

theorem td10 (j : Int) : ∃ q r : Int, j.tdiv 10 = q ∧ j.tmod 10 = r ∧ q.natAbs = j.natAbs / 10 ∧ r.natAbs = j.natAbs % 10 ∧ (0 ≤ j → 0 ≤ q ∧ 0 ≤ r) ∧ (j ≤ 0 → q ≤ 0 ∧ r ≤ 0) := by
  rcases Int.le_total 0 j with h | h
  · refine ⟨j / 10, j % 10, Int.tdiv_eq_ediv_of_nonneg h, Int.tmod_eq_emod_of_nonneg h, by omega, by omega, fun _ => by omega, fun _ => by omega⟩
  · obtain ⟨m, rfl⟩ : ∃ m : Nat, j = -(m : Int) := ⟨j.natAbs, by omega⟩
    refine ⟨-((m : Int) / 10), -((m : Int) % 10), ?_, ?_, by omega, by omega, fun _ => by omega, fun _ => by omega⟩
    · rw [Int.neg_tdiv, Int.tdiv_eq_ediv_of_nonneg (by omega)]
    · rw [Int.neg_tmod, Int.tmod_eq_emod_of_nonneg (by omega)]
/-- The next digit. -/
theorem dg_next {j q r n : Int} {l : List UInt8} (h : dg j.natAbs ++ l = dg n.natAbs) (hj : j ≠ 0) (hq : q.natAbs = j.natAbs / 10) (hr : r.natAbs = j.natAbs % 10) : dg q.natAbs ++ (UInt8.ofNat (48 + r.natAbs) :: l) = dg n.natAbs := by
  rw [← h, dg_pos (u := j.natAbs) (by omega), hq, hr]; simp
theorem u8_val {r : Int} (h1 : -9 ≤ r) (h2 : r ≤ 9) : ((UInt8.ofNat (48 + r.natAbs)).toNat : Int) = 48 + (r.natAbs : Int) := by
  rw [UInt8.toNat_ofNat']; omega

theorem u8s_one {l : List UInt8} : ∀ u ∈ u8s l, u.oneCell' = true := by
  intro u hu
  obtain ⟨b, _, rfl⟩ := List.mem_map.1 hu
  rfl

/-- What has been written so far, and what is left. -/
def DecRel (n : Int) (w : World) (o k : Value) (wr : World) : Prop := ∃ (j : Int) (l : List UInt8) (A : Addr) (C : Nat), k = .int .i64 j ∧ o = .slice (some A) l.length C ∧
  Hid (dg j.natAbs ++ l = dg n.natAbs) ∧ Hid (0 ≤ n ∧ 0 ≤ j ∨ n ≤ 0 ∧ j ≤ 0) ∧ -9223372036854775808 ≤ j ∧ j ≤ 9223372036854775807 ∧ l.length ≤ 20 ∧ Row 5 1 wr w.heap.size wr.heap.size (.slice (some A) l.length C) l.length (u8s l) ∧ Below w.heap.size w wr

set_option maxRecDepth 100000 in
set_option maxHeartbeats 4000000 in
theorem l01Dec_any (n : Int) (w : World) (h0 : -9223372036854775808 ≤ n) (h1 : n ≤ 9223372036854775807) :
    Calls Try.prog 198 #[.int .i64 n] w fun e w' => e = .returned (.string ⟨(Lib.itoa n).toArray⟩) ∧ Below w.heap.size w w' := by
  have HH : Hid ((dg n.natAbs).length ≤ 20) := Lib.hid (dg_len 20 n.natAbs (by omega))
  go_enter Try.func198, Try.ntmps198
  go_wp2
  go_loopw [3, 4] (fun o k wr => DecRel n w o k wr) (fun _ k _ => (intOf k).natAbs)
  case atStart =>
    refine ⟨n, [], _, _, rfl, rfl, Lib.hid (by simp), Lib.hid (by omega), h0, h1, by simp, ?_, (Below.refl _ _).alloc (Nat.le_refl _) _⟩
    have := row_new 5 1 w #[] 0 rfl (by omega)
    simpa [u8s] using this
  case round =>
    obtain ⟨j, l, A, C, rfl, rfl, hd, hsg, hj3, hj4, hl, row, hbel⟩ := hrel
    by_cases hj : j = 0
    · subst hj
      have hd0 : l = dg n.natAbs := by have := hd.out; rw [show (0 : Int).natAbs = 0 from rfl, dg_zero, List.nil_append] at this; exact this
      have hcv := run_convert_bytes_back (P := Try.prog) wr 22 9 5 A C l Try.underlying22 Try.underlying5 Try.underlying9 (fun j hj => row.cell (u8s_at hj))
      clear hd hsg row
      rcases Int.lt_trichotomy n 0 with hn | hn | hn
      · have HI : Hid (Lib.itoa n = 45 :: l) := Lib.hid (by rw [itoa_neg hn, hd0])
        have hlp : 0 < l.length := by
          rw [hd0]; exact List.length_pos_iff.2 (dg_ne (by omega))
        clear hd0
        go_wp2
        go_ret
        exact ⟨by rw [HI.out]; rfl, hbel⟩
      · subst hn
        have hl0 : l = [] := by rw [hd0]; exact dg_zero
        subst hl0
        have HI := Lib.hid itoa_zero
        clear hd0
        go_wp2
        go_ret
        exact ⟨by rw [HI.out]; rfl, hbel⟩
      · have HI : Hid (Lib.itoa n = l) := Lib.hid (by rw [itoa_pos hn, hd0])
        have hlp : 0 < l.length := by
          rw [hd0]; exact List.length_pos_iff.2 (dg_ne (by omega))
        clear hd0
        go_wp2
        go_ret
        exact ⟨by rw [HI.out]; rfl, hbel⟩
    · obtain ⟨q, r, hq, hr, hqa, hra, hp, hn⟩ := td10 j
      have hr1 : -9 ≤ r := by omega
      have hr2 : r ≤ 9 := by omega
      have hq1 : -9223372036854775808 ≤ q := by omega
      have hq2 : q ≤ 9223372036854775807 := by omega
      have hqw : wrap64 q = q := IntWalk.wrap64_in _ ⟨by omega, by omega⟩
      have HD := Lib.hid (dg_next hd.out hj hqa hra)
      have hl2 : l.length + 1 ≤ 20 := by have := HH.out; rw [← HD.out] at this; simp at this; omega
      have HS : Hid (0 ≤ n ∧ 0 ≤ q ∨ n ≤ 0 ∧ q ≤ 0) := Lib.hid (by rcases hsg.out with h | h; exact .inl ⟨h.1, (hp h.2).1⟩; exact .inr ⟨h.1, (hn h.2).1⟩)
      have hm : Hid (q.natAbs < j.natAbs) := Lib.hid (by omega)
      have HB := Lib.hid (u8_val hr1 hr2)
      have hrow := row.alloc (.cells #[.int .u8 (48 + (r.natAbs : Int))] 5)
      have hnew := row_new 5 1 wr #[.int .u8 (48 + (r.natAbs : Int))] 1 rfl (by omega)
      clear hd hsg hqa hra hp hn row
      by_cases hr0 : r < 0
      · have hab : (r.natAbs : Int) = -r := by omega
        rw [hab] at hrow hnew HB
        clear hab
        go_wp2_with (at_builtin; go_must (refine wpList_appR rfl (.tmp 21) (.tmp 22) 22 5 rfl (.int .u8 0) 1 1 Try.underlying22 info_u8 rfl (by omega) (by omega) rfl hnew A l.length C (u8s l) rfl (by simp [u8s_len]) (fun j u h => hrow.cell h) u8s_one (by omega) (by simp) ?_); intro A' C' w1 row1 ht1)
        have hb1 : Below w.heap.size w w1 := (hbel.alloc (by have := hbel.size; omega) _).trans (ht1.below hbel.size (by have := hbel.size; simp; omega))
        obtain ⟨A2, rfl⟩ : ∃ A2, A' = some A2 := by
          cases A' with
          | none => have := row1.none_.1; omega
          | some A2 => exact ⟨A2, rfl⟩
        go_roundw
        case rel =>
          refine ⟨q, _ :: l, A2, C', rfl, ?_, HD, HS, hq1, hq2, by simpa using hl2, ?_, hb1⟩
          · simp [Nat.add_comm]
          · rw [u8s_cons, HB.out]
            have := row1.wide (lo' := w.heap.size) hbel.size (Nat.le_refl _)
            simpa [Nat.add_comm] using this
        case measure => have := hm.out; simp [intOf]; omega
      · have hab : (r.natAbs : Int) = r := by omega
        rw [hab] at hrow hnew HB
        clear hab
        have hr3 : 0 ≤ r := by omega
        go_wp2_with (at_builtin; go_must (refine wpList_appR rfl (.tmp 21) (.tmp 22) 22 5 rfl (.int .u8 0) 1 1 Try.underlying22 info_u8 rfl (by omega) (by omega) rfl hnew A l.length C (u8s l) rfl (by simp [u8s_len]) (fun j u h => hrow.cell h) u8s_one (by omega) (by simp) ?_); intro A' C' w1 row1 ht1)
        have hb1 : Below w.heap.size w w1 := (hbel.alloc (by have := hbel.size; omega) _).trans (ht1.below hbel.size (by have := hbel.size; simp; omega))
        obtain ⟨A2, rfl⟩ : ∃ A2, A' = some A2 := by
          cases A' with
          | none => have := row1.none_.1; omega
          | some A2 => exact ⟨A2, rfl⟩
        go_roundw
        case rel =>
          refine ⟨q, _ :: l, A2, C', rfl, ?_, HD, HS, hq1, hq2, by simpa using hl2, ?_, hb1⟩
          · simp [Nat.add_comm]
          · rw [u8s_cons, HB.out]
            have := row1.wide (lo' := w.heap.size) hbel.size (Nat.le_refl _)
            simpa [Nat.add_comm] using this
        case measure => have := hm.out; simp [intOf]; omega
end Go.Proofs.Ytgfpjcckkbhdjaa

/- MarkT -/
namespace Go.Proofs.Ytgfpjcckkbhdjaa
open Go.RowKit

/-- What markText makes of a number, ahead of what it has made. -/
def mtL (n : Nat) (acc : List UInt8) : List UInt8 := if h : n = 0 then acc else mtL (n / 10) (UInt8.ofNat (48 + n % 10) :: acc)
termination_by n
decreasing_by omega
theorem mtL_zero (acc : List UInt8) : mtL 0 acc = acc := by rw [mtL, dif_pos rfl]
theorem mtL_step {n : Nat} (h : n ≠ 0) (acc : List UInt8) : mtL n acc = mtL (n / 10) (UInt8.ofNat (48 + n % 10) :: acc) := by rw [mtL, dif_neg h]
def mtx (k : Int) : ByteArray := if k ≤ 0 then ⟨#[109, 48]⟩ else ⟨(109 :: mtL k.toNat []).toArray⟩
theorem bs_ext {a b : ByteArray} (h : a.data.toList = b.data.toList) : a = b := by
  obtain ⟨a⟩ := a
  obtain ⟨b⟩ := b
  simp only at h
  congr 1
  exact Array.toList_inj.1 h

end Go.Proofs.Ytgfpjcckkbhdjaa

/- Left -/
namespace Go.Proofs.Ytgfpjcckkbhdjaa

/-- What is left of a bound behind a slice of this length; less than 0 (-1) if it is passed. -/
def leftOf (n : Nat) (left : Int) : Int := if left - (n : Int) < 0 then -1 else left - (n : Int)
theorem leftOf_le (n : Nat) (left : Int) (h : 0 ≤ left) : leftOf n left ≤ left := by unfold leftOf; split <;> omega
theorem leftOf_len {n : Nat} {left : Int} (h : 0 ≤ leftOf n left) : (n : Int) ≤ left := by unfold leftOf at h; split at h <;> omega
end Go.Proofs.Ytgfpjcckkbhdjaa

/- StrS -/
namespace Go.Proofs.Ytgfpjcckkbhdjaa
open Go.RowKit Go.BigFrame

theorem info_string : (Try.prog.info? 9).map (fun i => (i.zero, i.size, i.bytes)) = some (some (.string ByteArray.empty), 1, 16) := by kernel_rfl
/-- The texts of marks from k on. -/
def seqT (k : Int) (n : Nat) : List ByteArray := (List.range n).map fun i : Nat => mtx (k + (i : Int))
theorem seqT_len (k : Int) (n : Nat) : (seqT k n).length = n := by simp [seqT]
theorem seqT_at {k : Int} {n i : Nat} (h : i < n) : elt textF (seqT k n) i = mtx (k + (i : Int)) := elt_range h
section
variable {w : World} {t : TypeId} {lo hi g n c k : Nat}
theorem RdF.atT {a : Option Addr} {xs : List ByteArray} (h : RdF textF w a xs) (hk : k < xs.length) : ∃ b off, a = some ⟨b, off, none⟩ ∧ w.cell? ⟨b, off + k, none⟩ = some (.string (elt textF xs k)) := by
  obtain ⟨b, off, rfl, hc⟩ := h.at_ hk
  refine ⟨b, off, rfl, ?_⟩
  have := hc 0 (.string (elt textF xs k)) rfl
  simpa [textF] using this
theorem OwnF.getT {xs : List ByteArray} (h : OwnF textF t w lo hi (.slice (some ⟨g, 0, none⟩) n c) xs) (hk : k < xs.length) : w.cell? ⟨g, k, none⟩ = some (.string (elt textF xs k)) := by
  have := h.get (k := k) (j := 0) (u := .string (elt textF xs k)) hk rfl
  simpa [textF] using this
theorem OwnF.putT {xs : List ByteArray} (h : OwnF textF t w lo hi (.slice (some ⟨g, 0, none⟩) n c) xs) (hk : k < xs.length) (x : ByteArray) : OwnF textF t (w.setCell ⟨g, k, none⟩ (.string x)) lo hi (.slice (some ⟨g, 0, none⟩) n c) (xs.set k x) := by
  have := h.put (k := k) (j := 0) (y := x) (u := .string x) hk (by decide) rfl
  simpa [textF] using this
end
theorem str_eqB {a b : ByteArray} (h : a = b) : (a.toList == b.toList) = true := by rw [h]; simp
theorem str_neB {a b : ByteArray} (h : ¬ a = b) : (a.toList == b.toList) = false := by
  rw [beq_eq_false_iff_ne]
  intro e
  rw [Lib.toList_data, Lib.toList_data] at e
  exact h (bs_ext e)

end Go.Proofs.Ytgfpjcckkbhdjaa

/- F6 -/
namespace Go.Proofs.Ytgfpjcckkbhdjaa
open Go.RowKit

theorem f6big_any (a : Option Addr) (n c : Nat) (w : World) (hn : n ≤ 9223372036854775807) :
    Calls Try.prog 33 #[.slice a n c] w fun e w' => e = .returned (.bool (decide (4096 < n))) ∧ w' = w := by
  go_enter Try.func33, Try.ntmps33
  go_wp2
  go_ret
  exact ⟨ret_bool (by simp; omega), rfl⟩
set_option maxHeartbeats 1000000 in
theorem f6texts_any (a b : Option Addr) (c d : Nat) (xs ys : List ByteArray) (w : World) (ha : RdF textF w a xs) (hb : RdF textF w b ys) :
    Calls Try.prog 48 #[.slice a xs.length c, .slice b ys.length d] w fun e w' => e = .returned (.bool (decide (xs = ys))) ∧ Below w.heap.size w w' := by
  have hx1 := ha.len
  have hy1 := hb.len
  by_cases hl : xs.length = ys.length
  · have ht : ((xs.length : Int) != (ys.length : Int)) = false := by simp [hl]
    have HL := Lib.hid hl
    clear hl
    go_enter Try.func48, Try.ntmps48
    go_wp2
    go_loopw [5] (fun i wr => ∃ k n : Nat, k ≤ xs.length ∧ i = .int .i64 k ∧ wr = w.drewN n ∧ Hid (xs.take k = ys.take k)) (fun i _ => xs.length - (intOf i).toNat)
    case atStart => exact ⟨0, 0, Nat.zero_le _, rfl, rfl, Lib.hid (by simp)⟩
    case round =>
      obtain ⟨k, n, hk, rfl, rfl, HT⟩ := hrel
      by_cases hlt : k < xs.length
      · have hlt' : k < ys.length := by rw [← HL.out]; exact hlt
        obtain ⟨b1, o1, rfl, hc1⟩ := ha.atT hlt
        obtain ⟨b2, o2, rfl, hc2⟩ := hb.atT hlt'
        by_cases he : elt textF xs k = elt textF ys k
        · have hbe := str_eqB he
          have HE := Lib.hid he
          clear he
          go_wp2
          go_quiet (fail)
          go_wp2
          go_roundw
          case rel => exact ⟨k + 1, _, by omega, by go_num, rfl, Lib.hid (takeE_snoc (F := textF) hlt HL.out HT.out HE.out)⟩
          case measure => (simp [intOf]) <;> omega
        · have hbe := str_neB he
          have HE := Lib.hid he
          clear he
          go_wp2
          go_quiet (fail)
          go_wp2
          go_ret
          exact ⟨ret_bool (decide_eq_false (neE_of_at HE.out)).symm, bel_drewN (bel_drewN (Below.refl _ _) _) _⟩
      · obtain rfl : k = xs.length := by omega
        go_wp2
        go_ret
        exact ⟨ret_bool (decide_eq_true (takeE_all HL.out HT.out)).symm, bel_drewN (Below.refl _ _) _⟩
  · have ht : ((xs.length : Int) != (ys.length : Int)) = true := by simp; omega
    have HL := Lib.hid hl
    clear hl
    go_enter Try.func48, Try.ntmps48
    go_wp2
    go_ret
    exact ⟨ret_bool (decide_eq_false (by rintro rfl; exact HL.out rfl)).symm, Below.refl _ _⟩
end Go.Proofs.Ytgfpjcckkbhdjaa

/- DrawI -/
namespace Go.Proofs.Ytgfpjcckkbhdjaa
open Go.RowKit

theorem max64 : I64 9223372036854775807 := by unfold I64; decide
set_option maxRecDepth 100000 in
set_option maxHeartbeats 8000000 in
theorem drumDigit_any (s N : Nat) (w : World) (h : Src w s N) (hN : N ≤ 500000) :
    Calls Try.prog 170 #[.pointer (some ⟨s, 0, none⟩)] w fun e w' => ∃ K B T F d : Int, e = .returned (.tuple #[.agg #[.int .i64 K, .int .i64 B, .int .i64 T, .int .i64 F], .int .i64 d]) ∧ BentK K B T F ∧ I64 d ∧ Touch s (s + 1) w w' ∧ Src w' s (N + 60) := by
  have hs := h.lt
  obtain ⟨r, hr⟩ : ∃ r, r = w.heap.size := ⟨_, rfl⟩
  obtain ⟨u, hu⟩ : ∃ u, u = w.alloc (.cells #[.int .i64 0, .int .i64 0, .int .i64 0, .int .i64 0] 86) := ⟨_, rfl⟩
  have br : Bx u r 86 #[.int .i64 0, .int .i64 0, .int .i64 0, .int .i64 0] := by rw [hu, hr]; exact Bx.new _ _ _
  have hbu : Below w.heap.size w u := by rw [hu]; exact (by repeat (first | exact Below.refl _ _ | refine Below.setCell ?_ (by first | omega | (simp <;> omega)) _ | refine Below.alloc ?_ (by first | omega | (simp <;> omega)) _ | refine Below.drew ?_))
  have hsu : u.heap.size = r + 1 := by rw [hu, hr]; simp
  have su : Src u s N := h.lo hbu hs
  have tu : Touch s (s + 1) w u := Below.touch hbu
  have HU := Lib.hid hu
  have HR := Lib.hid hr
  clear hu h hbu
  have hsr : s < r := by omega
  go_enter Try.func170, Try.ntmps170
  go_wp2_with fail
  rw [← HU.out, ← hr]
  clear hr
  refine (bentDrum_any s N u su (by omega)).mono ?_
  rintro e w1 ⟨K, b, T, F, rfl, hdd, ht1, hs1⟩
  have hl1 := ht1.size
  replace br := br.touch ht1 (by omega)
  replace tu := tu.trans ht1
  have HD := Lib.hid hdd
  clear ht1 su hsu hdd
  go_wp2_with fail
  obtain ⟨B, hB⟩ : ∃ B, B = w1.heap.size := ⟨_, rfl⟩
  obtain ⟨v, hv⟩ : ∃ v, v = w1.alloc (.cells #[.int .i64 K, .int .i64 b, .int .i64 T, .int .i64 F] 86) := ⟨_, rfl⟩
  rw [← hv, ← hB]
  have hbv : Below w1.heap.size w1 v := by rw [hv]; exact (Below.refl _ _).alloc (Nat.le_refl _) _
  have bB : Bx v B 86 #[.int .i64 K, .int .i64 b, .int .i64 T, .int .i64 F] := by rw [hv, hB]; exact Bx.new _ _ _
  have hrB : r < B := by rw [hB]; exact br.lt
  replace br := br.below hbv
  replace tu := tu.trans (Below.touch hbv)
  have hsx := hs1.lo hbv (by omega)
  clear hv hbv hs1 hB
  refine (one_any s _ 12 v hsx (by omega) (by omega)).mono ?_
  rintro e w2 ⟨x, rfl, hs2, ht2⟩
  have hl2 := ht2.size
  replace bB := bB.touch ht2 (by omega)
  replace br := br.touch ht2 (by omega)
  replace tu := tu.trans ht2
  clear ht2 hsx
  have hBz := bB.lt
  have g0 : ∀ w', Bx w' B 86 #[.int .i64 K, .int .i64 b, .int .i64 T, .int .i64 F] → w'.cell? ⟨B, 0, none⟩ = some (.int .i64 K) := fun w' h => h.at_ 0 rfl
  have g1 : ∀ w', Bx w' B 86 #[.int .i64 K, .int .i64 b, .int .i64 T, .int .i64 F] → w'.cell? ⟨B, 1, none⟩ = some (.int .i64 b) := fun w' h => h.at_ 1 rfl
  have g2 : ∀ w', Bx w' B 86 #[.int .i64 K, .int .i64 b, .int .i64 T, .int .i64 F] → w'.cell? ⟨B, 2, none⟩ = some (.int .i64 T) := fun w' h => h.at_ 2 rfl
  have g3 : ∀ w', Bx w' B 86 #[.int .i64 K, .int .i64 b, .int .i64 T, .int .i64 F] → w'.cell? ⟨B, 3, none⟩ = some (.int .i64 F) := fun w' h => h.at_ 3 rfl
  cases x with
  | true =>
    go_wp2_with fail
    refine wp_region_marked (fun w' => Bx w' B 86 #[.int .i64 K, .int .i64 b, .int .i64 T, .int .i64 F]) 7 (by kernel_rfl) ?_
    have hS : Bx w2.drew B 86 #[.int .i64 K, .int .i64 b, .int .i64 T, .int .i64 F] := bB.drew
    refine wpAnyM_take (i := 0) (v := ?_) rfl (by kernel_rfl) (by kernel_rfl) (by kernel_rfl) (by kernel_rfl) (by kernel_rfl) (fun _ _ _ h => h) hS (.inl ⟨by rfl, ?_⟩) ?_
    rotate_left 1
    · intro w' hS'; go_simp; try with_reducible rfl
    simp only [Act.put, List.setIfInBounds_toArray]
    refine wpAnyM_take (i := 1) (v := ?_) rfl (by kernel_rfl) (by kernel_rfl) (by kernel_rfl) (by kernel_rfl) (by kernel_rfl) (fun _ _ _ h => h) hS (.inl ⟨by rfl, ?_⟩) ?_
    rotate_left 1
    · intro w' hS'; go_simp; try with_reducible rfl
    simp only [Act.put]
    refine wpAnyM_take (i := 2) (v := ?_) rfl (by kernel_rfl) (by kernel_rfl) (by kernel_rfl) (by kernel_rfl) (by kernel_rfl) (fun _ _ _ h => h) hS (.inl ⟨by rfl, ?_⟩) ?_
    rotate_left 1
    · intro w' hS'; go_simp; try with_reducible rfl
    simp only [Act.put]
    refine wpAnyM_take (i := 3) (v := ?_) rfl (by kernel_rfl) (by kernel_rfl) (by kernel_rfl) (by kernel_rfl) (by kernel_rfl) (fun _ _ _ h => h) hS (.inl ⟨by rfl, ?_⟩) ?_
    rotate_left 1
    · intro w' hS'; go_simp; try with_reducible rfl
    simp only [Act.put]
    refine wpAnyM_one (i := 4) (by kernel_rfl) rfl (by rfl) (fun K hK => ?_)
    go_simp
    have hal : Below w2.heap.size w2 (w2.drew.alloc (.cells ([-1, b, 9223372036854775807].map (Value.int .i64)).toArray 2)) := ((Below.refl _ _).drew).alloc (Nat.le_refl _) _
    replace hS := bB.below hal
    refine hK _ _ (.inr hS) ?_
    try simp only [Act.put, List.setIfInBounds_toArray]
    clear hK K
    refine wpAnyM_one (i := 5) (by kernel_rfl) rfl (by rfl) (fun K hK => ?_)
    go_simp
    refine (among_any s _ w2.heap.size 3 [-1, b, 9223372036854775807] _ (hs2.lo (L := w2.heap.size) hal (by omega)) (by omega) (by have := rd_new w2.drew [-1, b, 9223372036854775807] (by simp); exact this) (by omega) (by simp) (by simp)).mono ?_
    rintro e w5 ⟨y, rfl, hy, hs4, ht5⟩
    have iy : I64 y := by
      simp at hy
      rcases hy with rfl | rfl | rfl
      · exact mid64 (by omega) (by omega)
      · exact HD.out.2.1
      · exact max64
    have HY := Lib.hid iy
    have hl3 := hal.size
    have hT := (Below.touch hal : Touch s (s + 1) w2 _).trans ht5
    have hl5 := hT.size
    replace hS := hS.touch ht5 (by omega)
    refine hK _ _ (.inr hS) ?_
    try simp only [Act.put, List.setIfInBounds_toArray]
    clear hK K ht5 hal hy iy
    have r5 := br.touch hT (by omega)
    have hrl := r5.lt
    have c0 := r5.at_ 0 rfl
    have c1 := r5.at_ 1 rfl
    have c2 := r5.at_ 2 rfl
    have c3 := r5.at_ 3 rfl
    have fc0 := r5.thaw 0
    have fc1 := r5.thaw 1
    have fc2 := r5.thaw 2
    have fc3 := r5.thaw 3
    have tt : Touch r (r + 1) w5 ((((w5.setCell ⟨r, 0, none⟩ (.int .i64 K)).setCell ⟨r, 1, none⟩ (.int .i64 b)).setCell ⟨r, 2, none⟩ (.int .i64 T)).setCell ⟨r, 3, none⟩ (.int .i64 F)) := (((((Touch.refl _ _ _).setCell (by simp) (by simp) _).setCell (by simp) (by simp) _).setCell (by simp) (by simp) _).setCell (by simp) (by simp) _)
    have HBx := Lib.hid (hS.touch tt (by omega))
    have HT := Lib.hid ((tu.trans hT).then_ tt (by have := HR.out; omega))
    have HS := Lib.hid ((hs4.touch tt (by omega)).mono (M := N + 60) (by omega))
    have R4 := Lib.hid (((((r5.set_ 0 (.int .i64 K)).set_ 1 (.int .i64 b)).set_ 2 (.int .i64 T)).set_ 3 (.int .i64 F)))
    clear tt
    refine wpAnyM_one (i := 6) (by kernel_rfl) rfl (by rfl) (fun K hK => ?_)
    go_simp
    refine hK _ _ (.inr HBx.out) ?_
    try simp only [Act.put, List.setIfInBounds_toArray]
    clear hK K c0 c1 c2 c3 fc0 fc1 fc2 fc3
    refine wpAnyM_one (i := 7) (by kernel_rfl) rfl (by rfl) (fun K hK => ?_)
    go_simp
    refine hK _ _ (.inl rfl) ?_
    clear hK K
    refine wpAnyM_done (by kernel_rfl) ?_ _
    have q0 := R4.out.at_ 0 rfl
    have q1 := R4.out.at_ 1 rfl
    have q2 := R4.out.at_ 2 rfl
    have q3 := R4.out.at_ 3 rfl
    obtain ⟨wz, hwz⟩ : ∃ wz, wz = ((((w5.setCell ⟨r, 0, none⟩ (.int .i64 K)).setCell ⟨r, 1, none⟩ (.int .i64 b)).setCell ⟨r, 2, none⟩ (.int .i64 T)).setCell ⟨r, 3, none⟩ (.int .i64 F)) := ⟨_, rfl⟩
    rw [← hwz] at q0 q1 q2 q3 HT HS ⊢
    clear hwz g0 g1 g2 g3
    go_wp2
    refine bodyPost_ret (v := .tuple #[.agg #[.int .i64 K, .int .i64 b, .int .i64 T, .int .i64 F], .int .i64 y]) (by simp [results, Try.results170, go_sem, q0, q1, q2, q3]) rfl ?_
    exact ⟨K, b, T, F, y, rfl, HD.out, HY.out, HT.out, HS.out⟩
  | false =>
    go_wp2_with fail
    refine wp_region_marked (fun w' => Bx w' B 86 #[.int .i64 K, .int .i64 b, .int .i64 T, .int .i64 F]) 8 (by kernel_rfl) ?_
    have hS : Bx w2.drew B 86 #[.int .i64 K, .int .i64 b, .int .i64 T, .int .i64 F] := bB.drew
    refine wpAnyM_take (i := 0) (v := ?_) rfl (by kernel_rfl) (by kernel_rfl) (by kernel_rfl) (by kernel_rfl) (by kernel_rfl) (fun _ _ _ h => h) hS (.inl ⟨by rfl, ?_⟩) ?_
    rotate_left 1
    · intro w' hS'; go_simp; try with_reducible rfl
    simp only [Act.put, List.setIfInBounds_toArray]
    refine wpAnyM_take (i := 1) (v := ?_) rfl (by kernel_rfl) (by kernel_rfl) (by kernel_rfl) (by kernel_rfl) (by kernel_rfl) (fun _ _ _ h => h) hS (.inl ⟨by rfl, ?_⟩) ?_
    rotate_left 1
    · intro w' hS'; go_simp; try with_reducible rfl
    simp only [Act.put]
    refine wpAnyM_take (i := 2) (v := ?_) rfl (by kernel_rfl) (by kernel_rfl) (by kernel_rfl) (by kernel_rfl) (by kernel_rfl) (fun _ _ _ h => h) hS (.inl ⟨by rfl, ?_⟩) ?_
    rotate_left 1
    · intro w' hS'; go_simp; try with_reducible rfl
    simp only [Act.put]
    refine wpAnyM_take (i := 3) (v := ?_) rfl (by kernel_rfl) (by kernel_rfl) (by kernel_rfl) (by kernel_rfl) (by kernel_rfl) (fun _ _ _ h => h) hS (.inl ⟨by rfl, ?_⟩) ?_
    rotate_left 1
    · intro w' hS'; go_simp; try with_reducible rfl
    simp only [Act.put]
    refine wpAnyM_one (i := 4) (by kernel_rfl) rfl (by rfl) (fun K hK => ?_)
    go_simp
    refine (l00Min_any 16 b w2.drew).mono ?_
    rintro e w3 ⟨rfl, hq3⟩
    subst w3
    refine hK _ _ (.inr hS) ?_
    try simp only [Act.put, List.setIfInBounds_toArray]
    clear hK K
    refine wpAnyM_one (i := 5) (by kernel_rfl) rfl (by rfl) (fun K hK => ?_)
    go_simp
    refine (l00Max_any 1 (min 16 b) w2.drew).mono ?_
    rintro e w3 ⟨rfl, hq3⟩
    subst w3
    refine hK _ _ (.inr hS) ?_
    try simp only [Act.put, List.setIfInBounds_toArray]
    clear hK K
    obtain ⟨n, hn⟩ : ∃ n, n = max 1 (min 16 b) := ⟨_, rfl⟩
    have hn16 : 1 ≤ n ∧ n ≤ 16 := by omega
    rw [← hn]
    clear hn
    refine wpAnyM_one (i := 6) (by kernel_rfl) rfl (by rfl) (fun K hK => ?_)
    go_simp
    refine (pick_any s _ n w2.drew (hs2.lo (L := w2.heap.size) ((Below.refl _ _).drew) (by omega)) (by omega) (by omega)).mono ?_
    rintro e w5 ⟨y, rfl, y0, y1, hs4, ht5⟩
    have HY := Lib.hid (show I64 y from mid64 (by omega) (by omega))
    have hT : Touch s (s + 1) w2 w5 := ((Touch.refl _ _ _).drewN 1).trans ht5
    have hl5 := hT.size
    replace hS := hS.touch ht5 (by omega)
    refine hK _ _ (.inr hS) ?_
    try simp only [Act.put, List.setIfInBounds_toArray]
    clear hK K ht5 y0 y1
    have r5 := br.touch hT (by omega)
    have hrl := r5.lt
    have c0 := r5.at_ 0 rfl
    have c1 := r5.at_ 1 rfl
    have c2 := r5.at_ 2 rfl
    have c3 := r5.at_ 3 rfl
    have fc0 := r5.thaw 0
    have fc1 := r5.thaw 1
    have fc2 := r5.thaw 2
    have fc3 := r5.thaw 3
    have tt : Touch r (r + 1) w5 ((((w5.setCell ⟨r, 0, none⟩ (.int .i64 K)).setCell ⟨r, 1, none⟩ (.int .i64 b)).setCell ⟨r, 2, none⟩ (.int .i64 T)).setCell ⟨r, 3, none⟩ (.int .i64 F)) := (((((Touch.refl _ _ _).setCell (by simp) (by simp) _).setCell (by simp) (by simp) _).setCell (by simp) (by simp) _).setCell (by simp) (by simp) _)
    have HBx := Lib.hid (hS.touch tt (by omega))
    have HT := Lib.hid ((tu.trans hT).then_ tt (by have := HR.out; omega))
    have HS := Lib.hid ((hs4.touch tt (by omega)).mono (M := N + 60) (by omega))
    have R4 := Lib.hid (((((r5.set_ 0 (.int .i64 K)).set_ 1 (.int .i64 b)).set_ 2 (.int .i64 T)).set_ 3 (.int .i64 F)))
    clear tt
    refine wpAnyM_one (i := 7) (by kernel_rfl) rfl (by rfl) (fun K hK => ?_)
    go_simp
    refine hK _ _ (.inr HBx.out) ?_
    try simp only [Act.put, List.setIfInBounds_toArray]
    clear hK K c0 c1 c2 c3 fc0 fc1 fc2 fc3
    refine wpAnyM_one (i := 8) (by kernel_rfl) rfl (by rfl) (fun K hK => ?_)
    go_simp
    refine hK _ _ (.inl rfl) ?_
    clear hK K
    refine wpAnyM_done (by kernel_rfl) ?_ _
    have q0 := R4.out.at_ 0 rfl
    have q1 := R4.out.at_ 1 rfl
    have q2 := R4.out.at_ 2 rfl
    have q3 := R4.out.at_ 3 rfl
    obtain ⟨wz, hwz⟩ : ∃ wz, wz = ((((w5.setCell ⟨r, 0, none⟩ (.int .i64 K)).setCell ⟨r, 1, none⟩ (.int .i64 b)).setCell ⟨r, 2, none⟩ (.int .i64 T)).setCell ⟨r, 3, none⟩ (.int .i64 F)) := ⟨_, rfl⟩
    rw [← hwz] at q0 q1 q2 q3 HT HS ⊢
    clear hwz g0 g1 g2 g3
    go_wp2
    refine bodyPost_ret (v := .tuple #[.agg #[.int .i64 K, .int .i64 b, .int .i64 T, .int .i64 F], .int .i64 y]) (by simp [results, Try.results170, go_sem, q0, q1, q2, q3]) rfl ?_
    exact ⟨K, b, T, F, y, rfl, HD.out, HY.out, HT.out, HS.out⟩
end Go.Proofs.Ytgfpjcckkbhdjaa

/- DrawK -/
namespace Go.Proofs.Ytgfpjcckkbhdjaa
open Go.RowKit

set_option maxRecDepth 100000 in
set_option maxHeartbeats 4000000 in
theorem drawBroken_any (a : Option Addr) (zs : List Int) (c : Nat) (w : World) (h : RdU w a zs) :
    Calls Try.prog 70 #[.slice a zs.length c] w fun e w' => ∃ K B T F d n : Int, e = .returned (.tuple #[.agg #[.int .i64 K, .int .i64 B, .int .i64 T, .int .i64 F], .int .i64 d, .int .i64 n]) ∧ BentK K B T F ∧ I64 d ∧ I64 n ∧ Below w.heap.size w w' := by
  obtain ⟨r, hr⟩ : ∃ r, r = w.heap.size := ⟨_, rfl⟩
  obtain ⟨u, hu⟩ : ∃ u, u = w.alloc (.cells #[.int .i64 0, .int .i64 0, .int .i64 0, .int .i64 0] 86) := ⟨_, rfl⟩
  have br : Bx u r 86 #[.int .i64 0, .int .i64 0, .int .i64 0, .int .i64 0] := by rw [hu, hr]; exact Bx.new _ _ _
  have hbu : Below w.heap.size w u := by rw [hu]; exact (by repeat (first | exact Below.refl _ _ | refine Below.setCell ?_ (by first | omega | (simp <;> omega)) _ | refine Below.alloc ?_ (by first | omega | (simp <;> omega)) _ | refine Below.drew ?_))
  have hru := h.below hbu
  have HU := Lib.hid hu
  have HR := Lib.hid hr
  clear hu h
  go_enter Try.func70, Try.ntmps70
  go_wp2_with fail
  rw [← HU.out, ← hr]
  clear hr
  refine (from_any a zs c u hru).mono ?_
  rintro e w1 ⟨s, rfl, hg, hs1, hb1⟩
  have hl := hb1.size
  have hrl := br.lt
  replace br := br.below hb1
  replace hbu := hbu.trans (hb1.mono hbu.size)
  have hul := hbu.size
  have hrs : r < s := by omega
  clear hb1 hru
  go_wp2_with fail
  refine (drumDigit_any s _ w1 hs1 (by omega)).mono ?_
  rintro e w2 ⟨K, b, T, F, d, rfl, hdd, hid, ht2, hs2⟩
  have HD := Lib.hid hdd
  have HE := Lib.hid hid
  have hl2 := ht2.size
  replace br := br.touch ht2 (by omega)
  replace hbu := hbu.trans (ht2.below (by have := HR.out; omega) (by omega))
  clear ht2 hs1 hdd hid hul hl
  go_wp2_with fail
  obtain ⟨B, hB⟩ : ∃ B, B = w2.heap.size := ⟨_, rfl⟩
  obtain ⟨v, hv⟩ : ∃ v, v = w2.alloc (.cells #[.int .i64 K, .int .i64 b, .int .i64 T, .int .i64 F] 86) := ⟨_, rfl⟩
  rw [← hv, ← hB]
  have hbv : Below w2.heap.size w2 v := by rw [hv]; exact (Below.refl _ _).alloc (Nat.le_refl _) _
  have bB : Bx v B 86 #[.int .i64 K, .int .i64 b, .int .i64 T, .int .i64 F] := by rw [hv, hB]; exact Bx.new _ _ _
  have hsB : s < B := by have := hs2.lt; omega
  have hbz := hbu.size
  replace br := br.below hbv
  replace hbu := hbu.trans (hbv.mono hbz)
  have hsx := hs2.lo hbv (by omega)
  clear hv hbv hs2 hB hbz
  refine (pick_any s _ 256 v hsx (by omega) (by omega)).mono ?_
  rintro e w3 ⟨y, rfl, y0, y1, hs3, ht3⟩
  have hzht3 := br.lt
  replace bB := bB.touch ht3 (by omega)
  replace br := br.touch ht3 (by omega)
  replace hbu := hbu.trans (ht3.below (by have := HR.out; omega) (by have := HR.out; omega))
  clear ht3 hsx
  go_wp2_with fail
  refine (pick_any s _ 128 w3 hs3 (by omega) (by omega)).mono ?_
  rintro e w4 ⟨x, rfl, x0, x1, hs4, ht4⟩
  have hzht4 := br.lt
  replace bB := bB.touch ht4 (by omega)
  replace br := br.touch ht4 (by omega)
  replace hbu := hbu.trans (ht4.below (by have := HR.out; omega) (by have := HR.out; omega))
  clear ht4 hs3
  have hxy : 0 ≤ y * x ∧ y * x ≤ 255 * 127 := ⟨Int.mul_nonneg y0 x0, Int.mul_le_mul (by omega) (by omega) x0 (by omega)⟩
  obtain ⟨p, hp⟩ : ∃ p, p = y * x := ⟨_, rfl⟩
  have hp64 : I64 p := mid64 (by omega) (by omega)
  go_wp2_with fail
  rw [← hp]
  clear hxy hp
  refine (pick_any s _ 8 w4 hs4 (by omega) (by omega)).mono ?_
  rintro e w5 ⟨z, rfl, z0, z1, hs5, ht5⟩
  have hzht5 := br.lt
  replace bB := bB.touch ht5 (by omega)
  replace br := br.touch ht5 (by omega)
  replace hbu := hbu.trans (ht5.below (by have := HR.out; omega) (by have := HR.out; omega))
  have hl5 := bB.lt
  clear ht5 hs4 y0 y1 x0 x1
  have d0 := bB.at_ 0 rfl
  have d1 := bB.at_ 1 rfl
  have d2 := bB.at_ 2 rfl
  have d3 := bB.at_ 3 rfl
  by_cases h0 : z = 0
  · subst h0
    clear d0 d1 d2 d3
    go_wp2_with fail
    have hal : Below w5.heap.size w5 (w5.alloc (.cells ([-1, 0, 511, 512, 9223372036854775807].map (Value.int .i64)).toArray 2)) := (Below.refl _ _).alloc (Nat.le_refl _) _
    refine (among_any s _ w5.heap.size 5 [-1, 0, 511, 512, 9223372036854775807] _ (hs5.lo (L := w5.heap.size) hal (by omega)) (by omega) (rd_new w5 [-1, 0, 511, 512, 9223372036854775807] (by simp)) (by omega) (by simp) (by simp)).mono ?_
    rintro e w6 ⟨n, rfl, hn, hs6, ht6⟩
    have in6 : I64 n := by
      simp at hn
      rcases hn with rfl | rfl | rfl | rfl | rfl
      · exact mid64 (by omega) (by omega)
      · exact mid64 (by omega) (by omega)
      · exact mid64 (by omega) (by omega)
      · exact mid64 (by omega) (by omega)
      · exact max64
    have hT := (Below.touch hal : Touch s (s + 1) w5 _).trans ht6
    have hzhT := br.lt
    replace bB := bB.touch hT (by omega)
    replace br := br.touch hT (by omega)
    replace hbu := hbu.trans (hT.below (by have := HR.out; omega) (by have := HR.out; omega))
    clear hT hal ht6 hs5 hn
    have d0 := bB.at_ 0 rfl
    have d1 := bB.at_ 1 rfl
    have d2 := bB.at_ 2 rfl
    have d3 := bB.at_ 3 rfl
    have rf := br
    have c0 := rf.at_ 0 rfl
    have c1 := rf.at_ 1 rfl
    have c2 := rf.at_ 2 rfl
    have c3 := rf.at_ 3 rfl
    have fc0 := rf.thaw 0
    have fc1 := rf.thaw 1
    have fc2 := rf.thaw 2
    have fc3 := rf.thaw 3
    have tt : Touch r (r + 1) w6 ((((w6.setCell ⟨r, 0, none⟩ (.int .i64 K)).setCell ⟨r, 1, none⟩ (.int .i64 b)).setCell ⟨r, 2, none⟩ (.int .i64 T)).setCell ⟨r, 3, none⟩ (.int .i64 F)) := (((((Touch.refl _ _ _).setCell (by simp) (by simp) _).setCell (by simp) (by simp) _).setCell (by simp) (by simp) _).setCell (by simp) (by simp) _)
    have HB := Lib.hid (hbu.trans (tt.below (by have := HR.out; omega) (by have := HR.out; have := rf.lt; omega)))
    have HN := Lib.hid in6
    clear tt
    go_wp2_with fail
    refine bodyPost_ret (v := .tuple #[.agg #[.int .i64 K, .int .i64 b, .int .i64 T, .int .i64 F], .int .i64 d, .int .i64 n]) (by simp [results, Try.results70, go_sem, c0, c1, c2, c3]) rfl ?_
    exact ⟨K, b, T, F, d, n, rfl, HD.out, HE.out, HN.out, HB.out⟩
  by_cases h14 : z = 1 ∨ z = 2 ∨ z = 3 ∨ z = 4
  · obtain ⟨c1, c2, c3, c4⟩ : True ∧ True ∧ True ∧ True := ⟨trivial, trivial, trivial, trivial⟩
    clear c1 c2 c3 c4 d0 d1 d2 d3
    rcases h14 with rfl | rfl | rfl | rfl
    all_goals go_wp2_with fail
    all_goals
      refine (pick_any s _ 2 w5 hs5 (by omega) (by omega)).mono ?_
      rintro e w6 ⟨y, rfl, y0, y1, hs6, ht6⟩
      have hz6 := br.lt
      replace bB := bB.touch ht6 (by omega)
      replace br := br.touch ht6 (by omega)
      replace hbu := hbu.trans (ht6.below (by have := HR.out; omega) (by have := HR.out; omega))
      clear ht6 hs5 hz6
      go_wp2_with fail
      refine (pick_any s _ 9 w6 hs6 (by omega) (by omega)).mono ?_
      rintro e w7 ⟨x, rfl, x0, x1, hs7, ht7⟩
      have hz7 := br.lt
      replace bB := bB.touch ht7 (by omega)
      replace br := br.touch ht7 (by omega)
      replace hbu := hbu.trans (ht7.below (by have := HR.out; omega) (by have := HR.out; omega))
      clear ht7 hs6 hz7 hs7
      have hl7 := bB.lt
      have d0 := bB.at_ 0 rfl
      have d1 := bB.at_ 1 rfl
      have d2 := bB.at_ 2 rfl
      have d3 := bB.at_ 3 rfl
      have in7 : I64 (wrap64 (y * 2 ^ x.toNat)) := wrap64_wf _
      obtain ⟨q, hq⟩ : ∃ q, q = wrap64 (y * 2 ^ x.toNat) := ⟨_, rfl⟩
      rw [← hq] at in7
      have rf := br
      have c0 := rf.at_ 0 rfl
      have c1 := rf.at_ 1 rfl
      have c2 := rf.at_ 2 rfl
      have c3 := rf.at_ 3 rfl
      have fc0 := rf.thaw 0
      have fc1 := rf.thaw 1
      have fc2 := rf.thaw 2
      have fc3 := rf.thaw 3
      have tt : Touch r (r + 1) w7 ((((w7.setCell ⟨r, 0, none⟩ (.int .i64 K)).setCell ⟨r, 1, none⟩ (.int .i64 b)).setCell ⟨r, 2, none⟩ (.int .i64 T)).setCell ⟨r, 3, none⟩ (.int .i64 F)) := (((((Touch.refl _ _ _).setCell (by simp) (by simp) _).setCell (by simp) (by simp) _).setCell (by simp) (by simp) _).setCell (by simp) (by simp) _)
      have HB := Lib.hid (hbu.trans (tt.below (by have := HR.out; omega) (by have := HR.out; have := rf.lt; omega)))
      have HN := Lib.hid in7
      have HQ := Lib.hid hq
      clear hq
      clear tt
      go_wp2_with fail
      refine bodyPost_ret (v := .tuple #[.agg #[.int .i64 K, .int .i64 b, .int .i64 T, .int .i64 F], .int .i64 d, .int .i64 q]) (by simp [results, Try.results70, go_sem, HQ.out, c0, c1, c2, c3]) rfl ?_
      exact ⟨K, b, T, F, d, q, rfl, HD.out, HE.out, HN.out, HB.out⟩
  have e1 : (z == 1) = false := beq_eq_false_iff_ne.2 (by omega)
  have e2 : (z == 2) = false := beq_eq_false_iff_ne.2 (by omega)
  have e3 : (z == 3) = false := beq_eq_false_iff_ne.2 (by omega)
  have e4 : (z == 4) = false := beq_eq_false_iff_ne.2 (by omega)
  have e0 : (z == 0) = false := beq_eq_false_iff_ne.2 (by omega)
  clear hs5
  have rf := br
  have c0 := rf.at_ 0 rfl
  have c1 := rf.at_ 1 rfl
  have c2 := rf.at_ 2 rfl
  have c3 := rf.at_ 3 rfl
  have fc0 := rf.thaw 0
  have fc1 := rf.thaw 1
  have fc2 := rf.thaw 2
  have fc3 := rf.thaw 3
  have tt : Touch r (r + 1) w5 ((((w5.setCell ⟨r, 0, none⟩ (.int .i64 K)).setCell ⟨r, 1, none⟩ (.int .i64 b)).setCell ⟨r, 2, none⟩ (.int .i64 T)).setCell ⟨r, 3, none⟩ (.int .i64 F)) := (((((Touch.refl _ _ _).setCell (by simp) (by simp) _).setCell (by simp) (by simp) _).setCell (by simp) (by simp) _).setCell (by simp) (by simp) _)
  have HB := Lib.hid (hbu.trans (tt.below (by have := HR.out; omega) (by have := HR.out; have := rf.lt; omega)))
  have HN := Lib.hid hp64
  clear tt
  go_wp2_with fail
  refine bodyPost_ret (v := .tuple #[.agg #[.int .i64 K, .int .i64 b, .int .i64 T, .int .i64 F], .int .i64 d, .int .i64 p]) (by simp [results, Try.results70, go_sem, c0, c1, c2, c3]) rfl ?_
  exact ⟨K, b, T, F, d, p, rfl, HD.out, HE.out, HN.out, HB.out⟩
end Go.Proofs.Ytgfpjcckkbhdjaa

/- TurnedW -/
namespace Go.Proofs.Ytgfpjcckkbhdjaa
open Go.RowKit

set_option maxRecDepth 100000 in
set_option maxHeartbeats 8000000 in
theorem turned_walk (xA : Option Addr) (xC : Nat) (xZ : List Int) (w : World) (hx : RawU w xA xZ) :
    Calls Try.prog 7 #[.slice xA xZ.length xC] w fun e w' => e = .returned (.bool true) ∧ Below w.heap.size w w' := by
  have hbel : Below w.heap.size w w := Below.refl _ _
  go_enter Try.func7, Try.ntmps7
  go_wp2_with fail
  refine (f6big_any xA xZ.length xC w hx.len).mono ?_
  rintro e w1 ⟨rfl, hq⟩
  subst w1
  by_cases hl : 4096 < xZ.length
  · rw [decide_eq_true hl]
    clear hl
    go_wp2
    go_ret
    exact ⟨rfl, hbel⟩
  · rw [decide_eq_false hl]
    replace hx := hx.rd (by omega)
    clear hl
    go_wp2_with fail
    refine (drawTurn_any xA xZ xC w hx).mono ?_
    rintro e w1 ⟨ki, B, T, F, b, xs, A, C, d, ys, D, E, t, m, rfl, hd, hrx, hry, it, ox, oy, -, hb⟩
    have rx := ox.rd
    have ry := oy.rd
    clear ox oy
    replace hx := hx.below hb
    replace hbel := hbel.trans (hb.mono hbel.size)
    clear hb
    have HX := Lib.hid hrx
    have HY := Lib.hid hry
    have HD := Lib.hid hd
    have HT := Lib.hid it
    obtain ⟨⟨rb, rl, rc⟩, eR⟩ : ∃ R, R = turnR ki B T F b xs d ys t := ⟨_, rfl⟩
    have HR := Lib.hid eR
    clear hrx hry hd it eR
    go_upto_region 4 with fail
    obtain ⟨g, hg⟩ : ∃ g, g = w1.heap.size := ⟨_, rfl⟩
    obtain ⟨v1, hv⟩ : ∃ V, V = ((w1.alloc (.cells #[.int .i64 ki, .int .i64 B, .int .i64 T, .int .i64 F] 86)).alloc (.cells #[.int .i64 b, .slice A xs.length C] 26)).alloc (.cells #[.int .i64 d, .slice D ys.length E] 26) := ⟨_, rfl⟩
    have b_d : Bx v1 g 86 #[.int .i64 ki, .int .i64 B, .int .i64 T, .int .i64 F] := by rw [hv, hg]; exact ((Bx.new _ _ _).alloc _).alloc _
    have b_x : Bx v1 (g + 1) 26 #[.int .i64 b, .slice A xs.length C] := by rw [hv, hg]; have := (Bx.new (w1.alloc (.cells #[.int .i64 ki, .int .i64 B, .int .i64 T, .int .i64 F] 86)) #[.int .i64 b, .slice A xs.length C] 26).alloc (.cells #[.int .i64 d, .slice D ys.length E] 26); simpa using this
    have b_y : Bx v1 (g + 2) 26 #[.int .i64 d, .slice D ys.length E] := by rw [hv, hg]; have := Bx.new ((w1.alloc (.cells #[.int .i64 ki, .int .i64 B, .int .i64 T, .int .i64 F] 86)).alloc (.cells #[.int .i64 b, .slice A xs.length C] 26)) #[.int .i64 d, .slice D ys.length E] 26; simpa using this
    have hb : Below w1.heap.size w1 v1 := by rw [hv]; exact (by repeat (first | exact Below.refl _ _ | refine Below.setCell ?_ (by first | omega | (simp <;> omega)) _ | refine Below.alloc ?_ (by first | omega | (simp <;> omega)) _ | refine Below.drew ?_))
    rw [← hv, ← hg]
    clear hv hg
    replace hx := hx.below hb
    replace rx := rx.below hb
    replace ry := ry.below hb
    replace hbel := hbel.trans (hb.mono hbel.size)
    clear hb
    have c0 := b_d.at_ 0 rfl
    have c1 := b_d.at_ 1 rfl
    have c2 := b_d.at_ 2 rfl
    have c3 := b_d.at_ 3 rfl
    have c4 := b_x.at_ 0 rfl
    have c5 := b_x.at_ 1 rfl
    have c6 := b_y.at_ 0 rfl
    have c7 := b_y.at_ 1 rfl
    go_wp2_with fail
    refine (implTurnDrums ki B T F b A C xs d D E ys t v1 HD.out rx HX.out.2.1 HX.out.1 ry HY.out.2.1 HY.out.1 HT.out).mono ?_
    rintro e w2 ⟨A1, C1, he, o1, hb⟩
    rw [← HR.out] at o1 he
    replace he : e = .returned (.tuple #[.agg #[.int .i64 rb, .slice A1 rl.length C1], .int .i64 rc]) := he
    subst he
    have r1 : Rd w2 A1 rl := o1.rd
    clear o1 c0 c1 c2 c3 c4 c5 c6 c7
    replace hx := hx.below hb
    replace rx := rx.below hb
    replace ry := ry.below hb
    replace b_d := b_d.below hb
    replace b_x := b_x.below hb
    replace b_y := b_y.below hb
    replace hbel := hbel.trans (hb.mono hbel.size)
    clear hb
    go_upto_region 5 with fail
    obtain ⟨g7, hg7⟩ : ∃ g, g = w2.heap.size := ⟨_, rfl⟩
    obtain ⟨v2, hv2⟩ : ∃ V, V = w2.alloc (.cells #[.int .i64 rb, .slice A1 rl.length C1] 26) := ⟨_, rfl⟩
    have b_g7 : Bx v2 g7 26 #[.int .i64 rb, .slice A1 rl.length C1] := by rw [hv2, hg7]; exact Bx.new _ _ _
    have hb : Below w2.heap.size w2 v2 := by rw [hv2]; exact (Below.refl _ _).alloc (Nat.le_refl _) _
    rw [← hg7, ← hv2]
    clear hv2 hg7
    replace hx := hx.below hb
    replace rx := rx.below hb
    replace ry := ry.below hb
    replace b_d := b_d.below hb
    replace b_x := b_x.below hb
    replace b_y := b_y.below hb
    replace r1 := r1.below hb
    replace hbel := hbel.trans (hb.mono hbel.size)
    clear hb
    have c0 := b_d.at_ 0 rfl
    have c1 := b_d.at_ 1 rfl
    have c2 := b_d.at_ 2 rfl
    have c3 := b_d.at_ 3 rfl
    have c4 := b_x.at_ 0 rfl
    have c5 := b_x.at_ 1 rfl
    have c6 := b_y.at_ 0 rfl
    have c7 := b_y.at_ 1 rfl
    go_wp2_with fail
    refine (specTurnDrums ki B T F b A C xs d D E ys t v2 HD.out rx HX.out.2.1 HX.out.1 ry HY.out.2.1 HY.out.1 HT.out).mono ?_
    rintro e w3 ⟨A2, C2, he, o2, hb⟩
    rw [← HR.out] at o2 he
    replace he : e = .returned (.tuple #[.agg #[.int .i64 rb, .slice A2 rl.length C2], .int .i64 rc]) := he
    subst he
    have r2 : Rd w3 A2 rl := o2.rd
    clear o2 c0 c1 c2 c3 c4 c5 c6 c7
    replace hx := hx.below hb
    replace rx := rx.below hb
    replace ry := ry.below hb
    replace b_d := b_d.below hb
    replace b_x := b_x.below hb
    replace b_y := b_y.below hb
    replace r1 := r1.below hb
    replace b_g7 := b_g7.below hb
    replace hbel := hbel.trans (hb.mono hbel.size)
    clear hb
    go_upto_region 6 with fail
    obtain ⟨g9, hg9⟩ : ∃ g, g = w3.heap.size := ⟨_, rfl⟩
    obtain ⟨v3, hv3⟩ : ∃ V, V = w3.alloc (.cells #[.int .i64 rb, .slice A2 rl.length C2] 26) := ⟨_, rfl⟩
    have b_g9 : Bx v3 g9 26 #[.int .i64 rb, .slice A2 rl.length C2] := by rw [hv3, hg9]; exact Bx.new _ _ _
    have hb : Below w3.heap.size w3 v3 := by rw [hv3]; exact (Below.refl _ _).alloc (Nat.le_refl _) _
    rw [← hg9, ← hv3]
    clear hv3 hg9
    replace hx := hx.below hb
    replace rx := rx.below hb
    replace ry := ry.below hb
    replace b_d := b_d.below hb
    replace b_x := b_x.below hb
    replace b_y := b_y.below hb
    replace r1 := r1.below hb
    replace b_g7 := b_g7.below hb
    replace r2 := r2.below hb
    replace hbel := hbel.trans (hb.mono hbel.size)
    clear hb
    go_wp2_with fail
    refine (drawBroken_any xA xZ xC v3 hx).mono ?_
    rintro e w4 ⟨K2, B2, T2, F2, n2, x2, rfl, hd2, i2, j2, hb⟩
    have HD2 := Lib.hid hd2
    have HI2 := Lib.hid (And.intro i2 j2)
    clear hd2 i2 j2
    replace hx := hx.below hb
    replace rx := rx.below hb
    replace ry := ry.below hb
    replace b_d := b_d.below hb
    replace b_x := b_x.below hb
    replace b_y := b_y.below hb
    replace r1 := r1.below hb
    replace b_g7 := b_g7.below hb
    replace r2 := r2.below hb
    replace b_g9 := b_g9.below hb
    replace hbel := hbel.trans (hb.mono hbel.size)
    clear hb
    go_upto_region 7 with fail
    obtain ⟨g11, hg11⟩ : ∃ g, g = w4.heap.size := ⟨_, rfl⟩
    obtain ⟨v4, hv4⟩ : ∃ V, V = w4.alloc (.cells #[.int .i64 K2, .int .i64 B2, .int .i64 T2, .int .i64 F2] 86) := ⟨_, rfl⟩
    have b_g11 : Bx v4 g11 86 #[.int .i64 K2, .int .i64 B2, .int .i64 T2, .int .i64 F2] := by rw [hv4, hg11]; exact Bx.new _ _ _
    have hb : Below w4.heap.size w4 v4 := by rw [hv4]; exact (Below.refl _ _).alloc (Nat.le_refl _) _
    rw [← hg11, ← hv4]
    clear hv4 hg11
    replace hx := hx.below hb
    replace rx := rx.below hb
    replace ry := ry.below hb
    replace b_d := b_d.below hb
    replace b_x := b_x.below hb
    replace b_y := b_y.below hb
    replace r1 := r1.below hb
    replace b_g7 := b_g7.below hb
    replace r2 := r2.below hb
    replace b_g9 := b_g9.below hb
    replace hbel := hbel.trans (hb.mono hbel.size)
    clear hb
    obtain ⟨⟨p1, p2⟩, eP⟩ : ∃ P, P = brR K2 B2 T2 F2 n2 x2 := ⟨_, rfl⟩
    have HP := Lib.hid eP
    clear eP
    have c0 := b_g11.at_ 0 rfl
    have c1 := b_g11.at_ 1 rfl
    have c2 := b_g11.at_ 2 rfl
    have c3 := b_g11.at_ 3 rfl
    go_wp2_with fail
    refine (implBrokenSteps K2 B2 T2 F2 n2 x2 v4 HD2.out HI2.out.1 HI2.out.2).mono ?_
    rintro e w5 ⟨he, hb⟩
    rw [← HP.out] at he
    replace he : e = .returned (.tuple #[.int .i64 p1, .int .i64 p2]) := he
    subst he
    clear c0 c1 c2 c3
    replace hx := hx.below hb
    replace rx := rx.below hb
    replace ry := ry.below hb
    replace b_d := b_d.below hb
    replace b_x := b_x.below hb
    replace b_y := b_y.below hb
    replace r1 := r1.below hb
    replace b_g7 := b_g7.below hb
    replace r2 := r2.below hb
    replace b_g9 := b_g9.below hb
    replace b_g11 := b_g11.below hb
    replace hbel := hbel.trans (hb.mono hbel.size)
    clear hb
    have c0 := b_g11.at_ 0 rfl
    have c1 := b_g11.at_ 1 rfl
    have c2 := b_g11.at_ 2 rfl
    have c3 := b_g11.at_ 3 rfl
    go_wp2_with fail
    refine (specBrokenSteps K2 B2 T2 F2 n2 x2 w5 HD2.out HI2.out.1 HI2.out.2).mono ?_
    rintro e w6 ⟨he, hb⟩
    rw [← HP.out] at he
    replace he : e = .returned (.tuple #[.int .i64 p1, .int .i64 p2]) := he
    subst he
    clear c0 c1 c2 c3
    replace hx := hx.below hb
    replace rx := rx.below hb
    replace ry := ry.below hb
    replace b_d := b_d.below hb
    replace b_x := b_x.below hb
    replace b_y := b_y.below hb
    replace r1 := r1.below hb
    replace b_g7 := b_g7.below hb
    replace r2 := r2.below hb
    replace b_g9 := b_g9.below hb
    replace b_g11 := b_g11.below hb
    replace hbel := hbel.trans (hb.mono hbel.size)
    clear hb
    clear b_g11
    go_wp2_with fail
    refine (drawBusiest_any xA xZ xC w6 hx).mono ?_
    rintro e w7 ⟨K3, B3, T3, F3, b3, zs, A3, C3, rfl, hd3, hrz, o3, hb⟩
    have rz := o3.rd
    have HD3 := Lib.hid hd3
    have HZ := Lib.hid hrz
    clear hd3 hrz o3
    replace hx := hx.below hb
    replace rx := rx.below hb
    replace ry := ry.below hb
    replace b_d := b_d.below hb
    replace b_x := b_x.below hb
    replace b_y := b_y.below hb
    replace r1 := r1.below hb
    replace b_g7 := b_g7.below hb
    replace r2 := r2.below hb
    replace b_g9 := b_g9.below hb
    replace hbel := hbel.trans (hb.mono hbel.size)
    clear hb
    obtain ⟨⟨q1, q2, q3⟩, eQ⟩ : ∃ Q, Q = busyR K3 B3 T3 F3 b3 zs := ⟨_, rfl⟩
    have HQ := Lib.hid eQ
    clear eQ
    go_upto_region 10 with fail
    obtain ⟨g18, hg18⟩ : ∃ g, g = w7.heap.size := ⟨_, rfl⟩
    obtain ⟨v7, hv7⟩ : ∃ V, V = (w7.alloc (.cells #[.int .i64 K3, .int .i64 B3, .int .i64 T3, .int .i64 F3] 86)).alloc (.cells #[.int .i64 b3, .slice A3 zs.length C3] 26) := ⟨_, rfl⟩
    have b_g18 : Bx v7 g18 86 #[.int .i64 K3, .int .i64 B3, .int .i64 T3, .int .i64 F3] := by rw [hv7, hg18]; exact (Bx.new _ _ _).alloc _
    have b_g181 : Bx v7 (g18 + 1) 26 #[.int .i64 b3, .slice A3 zs.length C3] := by rw [hv7, hg18]; simpa using Bx.new (w7.alloc (.cells #[.int .i64 K3, .int .i64 B3, .int .i64 T3, .int .i64 F3] 86)) #[.int .i64 b3, .slice A3 zs.length C3] 26
    have hb : Below w7.heap.size w7 v7 := by rw [hv7]; exact ((Below.refl _ _).alloc (Nat.le_refl _) _).alloc (by simp) _
    rw [← hg18, ← hv7]
    clear hv7 hg18
    replace hx := hx.below hb
    replace rx := rx.below hb
    replace ry := ry.below hb
    replace b_d := b_d.below hb
    replace b_x := b_x.below hb
    replace b_y := b_y.below hb
    replace r1 := r1.below hb
    replace b_g7 := b_g7.below hb
    replace r2 := r2.below hb
    replace b_g9 := b_g9.below hb
    replace rz := rz.below hb
    replace hbel := hbel.trans (hb.mono hbel.size)
    clear hb
    have c0 := b_g18.at_ 0 rfl
    have c1 := b_g18.at_ 1 rfl
    have c2 := b_g18.at_ 2 rfl
    have c3 := b_g18.at_ 3 rfl
    have c4 := b_g181.at_ 0 rfl
    have c5 := b_g181.at_ 1 rfl
    go_wp2_with fail
    refine (implBusiestTime K3 B3 T3 F3 b3 A3 C3 zs v7 HD3.out rz HZ.out.2.1 HZ.out.1).mono ?_
    rintro e w8 ⟨he, hb⟩
    rw [← HQ.out] at he
    replace he : e = .returned (.tuple #[.int .i64 q1, .int .i64 q2, .int .i64 q3]) := he
    subst he
    clear c0 c1 c2 c3 c4 c5
    replace hx := hx.below hb
    replace rx := rx.below hb
    replace ry := ry.below hb
    replace b_d := b_d.below hb
    replace b_x := b_x.below hb
    replace b_y := b_y.below hb
    replace r1 := r1.below hb
    replace b_g7 := b_g7.below hb
    replace r2 := r2.below hb
    replace b_g9 := b_g9.below hb
    replace rz := rz.below hb
    replace b_g18 := b_g18.below hb
    replace b_g181 := b_g181.below hb
    replace hbel := hbel.trans (hb.mono hbel.size)
    clear hb
    have c0 := b_g18.at_ 0 rfl
    have c1 := b_g18.at_ 1 rfl
    have c2 := b_g18.at_ 2 rfl
    have c3 := b_g18.at_ 3 rfl
    have c4 := b_g181.at_ 0 rfl
    have c5 := b_g181.at_ 1 rfl
    go_wp2_with fail
    refine (specBusiestTime K3 B3 T3 F3 b3 A3 C3 zs w8 HD3.out rz HZ.out.2.1 HZ.out.1).mono ?_
    rintro e w9 ⟨he, hb⟩
    rw [← HQ.out] at he
    replace he : e = .returned (.tuple #[.int .i64 q1, .int .i64 q2, .int .i64 q3]) := he
    subst he
    clear c0 c1 c2 c3 c4 c5
    replace hx := hx.below hb
    replace rx := rx.below hb
    replace ry := ry.below hb
    replace b_d := b_d.below hb
    replace b_x := b_x.below hb
    replace b_y := b_y.below hb
    replace r1 := r1.below hb
    replace b_g7 := b_g7.below hb
    replace r2 := r2.below hb
    replace b_g9 := b_g9.below hb
    replace rz := rz.below hb
    replace b_g18 := b_g18.below hb
    replace b_g181 := b_g181.below hb
    replace hbel := hbel.trans (hb.mono hbel.size)
    clear hb
    have hpp : p2 = 0 → 0 ≤ p1 ∧ p1 ≤ n2 := fun h => by
      have := broken_only (K := K2) (B := B2) (T := T2) (F := F2) (d := n2) (x := x2) (by rw [← HP.out]; exact h)
      rw [← HP.out] at this; exact this
    have hqq : q3 = 0 → q2 ≤ (zs.length : Int) := fun h => by
      have := busy_only (K := K3) (B := B3) (T := T3) (F := F3) (b := b3) (ds := zs) (by rw [← HQ.out]; exact h)
      rw [← HQ.out] at this; exact this
    have hrr := fun h : rc = 0 => whole_turn (K := ki) (B := B) (T := T) (F := F) (b := b) (xs := xs) (d := d) (ys := ys) (t := t) (by rw [← HR.out]; exact h)
    have HRD := Lib.hid (fun h : rc = 0 => whole_digits (K := ki) (B := B) (T := T) (F := F) (b := b) (xs := xs) (d := d) (ys := ys) (t := t) (by rw [← HR.out]; exact h))
    have HPP := Lib.hid hpp
    have HQQ := Lib.hid hqq
    have HRR := Lib.hid hrr
    clear hpp hqq hrr
    have c0 := b_g7.at_ 0 rfl
    have c1 := b_g7.at_ 1 rfl
    have c2 := b_g9.at_ 0 rfl
    have c3 := b_g9.at_ 1 rfl
    go_wp2_with fail
    have hcon := specSameRegister_any rb rb A1 A2 C1 C2 rl rl w9 r1 r2
    rw [regEqB_self] at hcon
    refine hcon.mono ?_
    clear hcon
    rintro e w10 ⟨rfl, hb⟩
    clear c0 c1 c2 c3
    clear r1 r2 b_g7 b_g9
    replace hx := hx.below hb
    replace rx := rx.below hb
    replace ry := ry.below hb
    replace b_d := b_d.below hb
    replace b_x := b_x.below hb
    replace b_y := b_y.below hb
    replace rz := rz.below hb
    replace b_g18 := b_g18.below hb
    replace b_g181 := b_g181.below hb
    replace hbel := hbel.trans (hb.mono hbel.size)
    clear hb
    go_upto_region 14 with fail
    by_cases hp : p2 = 0
    · subst hp
      obtain ⟨i1, i2⟩ := HPP.out rfl
      go_upto_region 16 with fail
      clear i1 i2
      by_cases hq : q3 = 0
      · subst hq
        have hq2 := HQQ.out rfl
        have e0 := b_g181.at_ 0 rfl
        have e1 := b_g181.at_ 1 rfl
        have hg := b_g181.lt
        go_upto_region 18 with fail
        clear e0 e1 hg hq2
        by_cases hc : rc = 0
        · subst hc
          obtain ⟨hl, hdr, hB1, hB2, hT⟩ := HRR.out rfl
          obtain ⟨hX16, hY16⟩ := HRD.out rfl
          have c0 := b_d.at_ 0 rfl
          have c1 := b_d.at_ 1 rfl
          have c2 := b_d.at_ 2 rfl
          have c3 := b_d.at_ 3 rfl
          have c4 := b_x.at_ 0 rfl
          have c5 := b_x.at_ 1 rfl
          have c6 := b_y.at_ 0 rfl
          have c7 := b_y.at_ 1 rfl
          have hgd := b_d.lt
          have HT := Lib.hid hT
          have HXY := Lib.hid (And.intro hX16 hY16)
          have HL := Lib.hid hl
          clear hT hX16 hY16 hl hdr
          go_wp2_with fail
          refine (implTurnDrums ki B T F b A C xs d D E ys T w10 HD.out rx HX.out.2.1 HX.out.1 ry HY.out.2.1 HY.out.1 HD.out.2.2.1).mono ?_
          rintro e w11 ⟨A6, C6, rfl, o6, hb⟩
          clear c0 c1 c2 c3 c4 c5 c6 c7 hgd
          replace hx := hx.below hb
          replace rx := rx.below hb
          replace ry := ry.below hb
          replace b_d := b_d.below hb
          replace b_x := b_x.below hb
          replace b_y := b_y.below hb
          replace rz := rz.below hb
          replace b_g18 := b_g18.below hb
          replace b_g181 := b_g181.below hb
          replace hbel := hbel.trans (hb.mono hbel.size)
          clear hb
          rcases HT.out with h5 | hok
          · obtain ⟨⟨qb, ql, qc⟩, eQ2⟩ : ∃ R, R = turnR ki B T F b xs d ys T := ⟨_, rfl⟩
            rw [← eQ2] at h5 o6 ⊢
            simp only at h5 o6 ⊢
            subst h5
            clear eQ2 o6
            have hsz := hbel.size
            go_wp2
            go_ret
            exact ⟨rfl, (by repeat (first | exact hbel | refine Below.setCell ?_ (by first | omega | (simp <;> omega)) _ | refine Below.alloc ?_ (by first | omega | (simp <;> omega)) _ | refine Below.drew ?_))⟩
          · rw [hok] at o6 ⊢
            simp only [tab_len] at o6 ⊢
            have r6 := o6.rd
            clear hok o6
            go_upto_region 21 with fail
            obtain ⟨g26, hg26⟩ : ∃ g, g = w11.heap.size := ⟨_, rfl⟩
            obtain ⟨v11, hv11⟩ : ∃ V, V = w11.alloc (.cells #[.int .i64 B, .slice A6 xs.length C6] 26) := ⟨_, rfl⟩
            have b_g26 : Bx v11 g26 26 #[.int .i64 B, .slice A6 xs.length C6] := by rw [hv11, hg26]; exact Bx.new _ _ _
            have hb : Below w11.heap.size w11 v11 := by rw [hv11]; exact (Below.refl _ _).alloc (Nat.le_refl _) _
            rw [← hg26, ← hv11]
            clear hv11 hg26
            replace hx := hx.below hb
            replace rx := rx.below hb
            replace ry := ry.below hb
            replace b_d := b_d.below hb
            replace b_x := b_x.below hb
            replace b_y := b_y.below hb
            replace rz := rz.below hb
            replace b_g18 := b_g18.below hb
            replace b_g181 := b_g181.below hb
            replace r6 := r6.below hb
            replace hbel := hbel.trans (hb.mono hbel.size)
            clear hb
            have c5 := b_x.at_ 1 rfl
            have c9 := b_g26.at_ 1 rfl
            have hxl := rx.len
            go_wp2_with fail
            go_loopw [28] (fun i wr => ∃ k m : Nat, k ≤ xs.length ∧ i = .int .i64 k ∧ wr = v11.drewN m) (fun i _ => xs.length - (intOf i).toNat)
            case atStart => exact ⟨0, 0, Nat.zero_le _, rfl, rfl⟩
            case round =>
              clear c5 c9
              obtain ⟨k, m, hk, rfl, hwr⟩ := hrel
              have hbw : Below v11.heap.size v11 wr := by rw [hwr]; exact bel_drewN (Below.refl _ _) m
              have z0 := (b_d.below hbw).at_ 1 rfl
              have z1 := (b_x.below hbw).at_ 1 rfl
              have z2 := (b_y.below hbw).at_ 1 rfl
              have z3 := (b_g26.below hbw).at_ 1 rfl
              by_cases hlt : k < xs.length
              · obtain ⟨p1, o1, rfl, f1⟩ := (rx.below hbw).at_ hlt
                obtain ⟨p2, o2, rfl, f2⟩ := (ry.below hbw).at_ (k := k) (by rw [← HL.out]; exact hlt)
                obtain ⟨p3, o3, rfl, f3⟩ := (r6.below hbw).at_ (k := k) (by rw [tab_len]; exact hlt)
                rw [tab_nth hlt] at f3
                have hx := HXY.out.1 k hlt
                have hy := HXY.out.2 k (by rw [← HL.out]; exact hlt)
                have hky : (k : Int) < (ys.length : Int) := by have := HL.out; omega
                have s1 : IntKind.i64.wrap (nth xs k + nth ys k) = nth xs k + nth ys k := fits_int _ (by omega) (by omega)
                have s2 : (nth xs k + nth ys k).tmod B = (nth xs k + nth ys k) % B := Int.tmod_eq_emod_of_nonneg (by omega)
                have s3 : ¬ B = 0 := by omega
                have HWR := Lib.hid hwr
                clear hwr
                go_wp2
                go_quiet (fail)
                go_wp2
                go_roundw
                case rel => exact ⟨k + 1, m + nq, by omega, by go_num, by rw [HWR.out, drewN_drewN]⟩
                case measure => (simp [intOf]) <;> omega
              · obtain rfl : k = xs.length := by omega
                have hbelw := hbel.trans (hbw.mono hbel.size)
                clear hwr hbw
                go_wp2
                go_ret
                exact ⟨rfl, hbelw⟩
        · have hc' : (rc == 0) = false := beq_eq_false_iff_ne.2 hc
          go_wp2
          go_ret
          exact ⟨rfl, hbel⟩
      · have hq' : (q3 == 0) = false := beq_eq_false_iff_ne.2 hq
        go_upto_region 18 with fail
        clear hq'
        by_cases hc : rc = 0
        · subst hc
          obtain ⟨hl, hdr, hB1, hB2, hT⟩ := HRR.out rfl
          obtain ⟨hX16, hY16⟩ := HRD.out rfl
          have c0 := b_d.at_ 0 rfl
          have c1 := b_d.at_ 1 rfl
          have c2 := b_d.at_ 2 rfl
          have c3 := b_d.at_ 3 rfl
          have c4 := b_x.at_ 0 rfl
          have c5 := b_x.at_ 1 rfl
          have c6 := b_y.at_ 0 rfl
          have c7 := b_y.at_ 1 rfl
          have hgd := b_d.lt
          have HT := Lib.hid hT
          have HXY := Lib.hid (And.intro hX16 hY16)
          have HL := Lib.hid hl
          clear hT hX16 hY16 hl hdr
          go_wp2_with fail
          refine (implTurnDrums ki B T F b A C xs d D E ys T w10 HD.out rx HX.out.2.1 HX.out.1 ry HY.out.2.1 HY.out.1 HD.out.2.2.1).mono ?_
          rintro e w11 ⟨A6, C6, rfl, o6, hb⟩
          clear c0 c1 c2 c3 c4 c5 c6 c7 hgd
          replace hx := hx.below hb
          replace rx := rx.below hb
          replace ry := ry.below hb
          replace b_d := b_d.below hb
          replace b_x := b_x.below hb
          replace b_y := b_y.below hb
          replace rz := rz.below hb
          replace b_g18 := b_g18.below hb
          replace b_g181 := b_g181.below hb
          replace hbel := hbel.trans (hb.mono hbel.size)
          clear hb
          rcases HT.out with h5 | hok
          · obtain ⟨⟨qb, ql, qc⟩, eQ2⟩ : ∃ R, R = turnR ki B T F b xs d ys T := ⟨_, rfl⟩
            rw [← eQ2] at h5 o6 ⊢
            simp only at h5 o6 ⊢
            subst h5
            clear eQ2 o6
            have hsz := hbel.size
            go_wp2
            go_ret
            exact ⟨rfl, (by repeat (first | exact hbel | refine Below.setCell ?_ (by first | omega | (simp <;> omega)) _ | refine Below.alloc ?_ (by first | omega | (simp <;> omega)) _ | refine Below.drew ?_))⟩
          · rw [hok] at o6 ⊢
            simp only [tab_len] at o6 ⊢
            have r6 := o6.rd
            clear hok o6
            go_upto_region 21 with fail
            obtain ⟨g26, hg26⟩ : ∃ g, g = w11.heap.size := ⟨_, rfl⟩
            obtain ⟨v11, hv11⟩ : ∃ V, V = w11.alloc (.cells #[.int .i64 B, .slice A6 xs.length C6] 26) := ⟨_, rfl⟩
            have b_g26 : Bx v11 g26 26 #[.int .i64 B, .slice A6 xs.length C6] := by rw [hv11, hg26]; exact Bx.new _ _ _
            have hb : Below w11.heap.size w11 v11 := by rw [hv11]; exact (Below.refl _ _).alloc (Nat.le_refl _) _
            rw [← hg26, ← hv11]
            clear hv11 hg26
            replace hx := hx.below hb
            replace rx := rx.below hb
            replace ry := ry.below hb
            replace b_d := b_d.below hb
            replace b_x := b_x.below hb
            replace b_y := b_y.below hb
            replace rz := rz.below hb
            replace b_g18 := b_g18.below hb
            replace b_g181 := b_g181.below hb
            replace r6 := r6.below hb
            replace hbel := hbel.trans (hb.mono hbel.size)
            clear hb
            have c5 := b_x.at_ 1 rfl
            have c9 := b_g26.at_ 1 rfl
            have hxl := rx.len
            go_wp2_with fail
            go_loopw [28] (fun i wr => ∃ k m : Nat, k ≤ xs.length ∧ i = .int .i64 k ∧ wr = v11.drewN m) (fun i _ => xs.length - (intOf i).toNat)
            case atStart => exact ⟨0, 0, Nat.zero_le _, rfl, rfl⟩
            case round =>
              clear c5 c9
              obtain ⟨k, m, hk, rfl, hwr⟩ := hrel
              have hbw : Below v11.heap.size v11 wr := by rw [hwr]; exact bel_drewN (Below.refl _ _) m
              have z0 := (b_d.below hbw).at_ 1 rfl
              have z1 := (b_x.below hbw).at_ 1 rfl
              have z2 := (b_y.below hbw).at_ 1 rfl
              have z3 := (b_g26.below hbw).at_ 1 rfl
              by_cases hlt : k < xs.length
              · obtain ⟨p1, o1, rfl, f1⟩ := (rx.below hbw).at_ hlt
                obtain ⟨p2, o2, rfl, f2⟩ := (ry.below hbw).at_ (k := k) (by rw [← HL.out]; exact hlt)
                obtain ⟨p3, o3, rfl, f3⟩ := (r6.below hbw).at_ (k := k) (by rw [tab_len]; exact hlt)
                rw [tab_nth hlt] at f3
                have hx := HXY.out.1 k hlt
                have hy := HXY.out.2 k (by rw [← HL.out]; exact hlt)
                have hky : (k : Int) < (ys.length : Int) := by have := HL.out; omega
                have s1 : IntKind.i64.wrap (nth xs k + nth ys k) = nth xs k + nth ys k := fits_int _ (by omega) (by omega)
                have s2 : (nth xs k + nth ys k).tmod B = (nth xs k + nth ys k) % B := Int.tmod_eq_emod_of_nonneg (by omega)
                have s3 : ¬ B = 0 := by omega
                have HWR := Lib.hid hwr
                clear hwr
                go_wp2
                go_quiet (fail)
                go_wp2
                go_roundw
                case rel => exact ⟨k + 1, m + nq, by omega, by go_num, by rw [HWR.out, drewN_drewN]⟩
                case measure => (simp [intOf]) <;> omega
              · obtain rfl : k = xs.length := by omega
                have hbelw := hbel.trans (hbw.mono hbel.size)
                clear hwr hbw
                go_wp2
                go_ret
                exact ⟨rfl, hbelw⟩
        · have hc' : (rc == 0) = false := beq_eq_false_iff_ne.2 hc
          go_wp2
          go_ret
          exact ⟨rfl, hbel⟩
    · have hp' : (p2 == 0) = false := beq_eq_false_iff_ne.2 hp
      go_upto_region 16 with fail
      clear hp'
      by_cases hq : q3 = 0
      · subst hq
        have hq2 := HQQ.out rfl
        have e0 := b_g181.at_ 0 rfl
        have e1 := b_g181.at_ 1 rfl
        have hg := b_g181.lt
        go_upto_region 18 with fail
        clear e0 e1 hg hq2
        by_cases hc : rc = 0
        · subst hc
          obtain ⟨hl, hdr, hB1, hB2, hT⟩ := HRR.out rfl
          obtain ⟨hX16, hY16⟩ := HRD.out rfl
          have c0 := b_d.at_ 0 rfl
          have c1 := b_d.at_ 1 rfl
          have c2 := b_d.at_ 2 rfl
          have c3 := b_d.at_ 3 rfl
          have c4 := b_x.at_ 0 rfl
          have c5 := b_x.at_ 1 rfl
          have c6 := b_y.at_ 0 rfl
          have c7 := b_y.at_ 1 rfl
          have hgd := b_d.lt
          have HT := Lib.hid hT
          have HXY := Lib.hid (And.intro hX16 hY16)
          have HL := Lib.hid hl
          clear hT hX16 hY16 hl hdr
          go_wp2_with fail
          refine (implTurnDrums ki B T F b A C xs d D E ys T w10 HD.out rx HX.out.2.1 HX.out.1 ry HY.out.2.1 HY.out.1 HD.out.2.2.1).mono ?_
          rintro e w11 ⟨A6, C6, rfl, o6, hb⟩
          clear c0 c1 c2 c3 c4 c5 c6 c7 hgd
          replace hx := hx.below hb
          replace rx := rx.below hb
          replace ry := ry.below hb
          replace b_d := b_d.below hb
          replace b_x := b_x.below hb
          replace b_y := b_y.below hb
          replace rz := rz.below hb
          replace b_g18 := b_g18.below hb
          replace b_g181 := b_g181.below hb
          replace hbel := hbel.trans (hb.mono hbel.size)
          clear hb
          rcases HT.out with h5 | hok
          · obtain ⟨⟨qb, ql, qc⟩, eQ2⟩ : ∃ R, R = turnR ki B T F b xs d ys T := ⟨_, rfl⟩
            rw [← eQ2] at h5 o6 ⊢
            simp only at h5 o6 ⊢
            subst h5
            clear eQ2 o6
            have hsz := hbel.size
            go_wp2
            go_ret
            exact ⟨rfl, (by repeat (first | exact hbel | refine Below.setCell ?_ (by first | omega | (simp <;> omega)) _ | refine Below.alloc ?_ (by first | omega | (simp <;> omega)) _ | refine Below.drew ?_))⟩
          · rw [hok] at o6 ⊢
            simp only [tab_len] at o6 ⊢
            have r6 := o6.rd
            clear hok o6
            go_upto_region 21 with fail
            obtain ⟨g26, hg26⟩ : ∃ g, g = w11.heap.size := ⟨_, rfl⟩
            obtain ⟨v11, hv11⟩ : ∃ V, V = w11.alloc (.cells #[.int .i64 B, .slice A6 xs.length C6] 26) := ⟨_, rfl⟩
            have b_g26 : Bx v11 g26 26 #[.int .i64 B, .slice A6 xs.length C6] := by rw [hv11, hg26]; exact Bx.new _ _ _
            have hb : Below w11.heap.size w11 v11 := by rw [hv11]; exact (Below.refl _ _).alloc (Nat.le_refl _) _
            rw [← hg26, ← hv11]
            clear hv11 hg26
            replace hx := hx.below hb
            replace rx := rx.below hb
            replace ry := ry.below hb
            replace b_d := b_d.below hb
            replace b_x := b_x.below hb
            replace b_y := b_y.below hb
            replace rz := rz.below hb
            replace b_g18 := b_g18.below hb
            replace b_g181 := b_g181.below hb
            replace r6 := r6.below hb
            replace hbel := hbel.trans (hb.mono hbel.size)
            clear hb
            have c5 := b_x.at_ 1 rfl
            have c9 := b_g26.at_ 1 rfl
            have hxl := rx.len
            go_wp2_with fail
            go_loopw [28] (fun i wr => ∃ k m : Nat, k ≤ xs.length ∧ i = .int .i64 k ∧ wr = v11.drewN m) (fun i _ => xs.length - (intOf i).toNat)
            case atStart => exact ⟨0, 0, Nat.zero_le _, rfl, rfl⟩
            case round =>
              clear c5 c9
              obtain ⟨k, m, hk, rfl, hwr⟩ := hrel
              have hbw : Below v11.heap.size v11 wr := by rw [hwr]; exact bel_drewN (Below.refl _ _) m
              have z0 := (b_d.below hbw).at_ 1 rfl
              have z1 := (b_x.below hbw).at_ 1 rfl
              have z2 := (b_y.below hbw).at_ 1 rfl
              have z3 := (b_g26.below hbw).at_ 1 rfl
              by_cases hlt : k < xs.length
              · obtain ⟨p1, o1, rfl, f1⟩ := (rx.below hbw).at_ hlt
                obtain ⟨p2, o2, rfl, f2⟩ := (ry.below hbw).at_ (k := k) (by rw [← HL.out]; exact hlt)
                obtain ⟨p3, o3, rfl, f3⟩ := (r6.below hbw).at_ (k := k) (by rw [tab_len]; exact hlt)
                rw [tab_nth hlt] at f3
                have hx := HXY.out.1 k hlt
                have hy := HXY.out.2 k (by rw [← HL.out]; exact hlt)
                have hky : (k : Int) < (ys.length : Int) := by have := HL.out; omega
                have s1 : IntKind.i64.wrap (nth xs k + nth ys k) = nth xs k + nth ys k := fits_int _ (by omega) (by omega)
                have s2 : (nth xs k + nth ys k).tmod B = (nth xs k + nth ys k) % B := Int.tmod_eq_emod_of_nonneg (by omega)
                have s3 : ¬ B = 0 := by omega
                have HWR := Lib.hid hwr
                clear hwr
                go_wp2
                go_quiet (fail)
                go_wp2
                go_roundw
                case rel => exact ⟨k + 1, m + nq, by omega, by go_num, by rw [HWR.out, drewN_drewN]⟩
                case measure => (simp [intOf]) <;> omega
              · obtain rfl : k = xs.length := by omega
                have hbelw := hbel.trans (hbw.mono hbel.size)
                clear hwr hbw
                go_wp2
                go_ret
                exact ⟨rfl, hbelw⟩
        · have hc' : (rc == 0) = false := beq_eq_false_iff_ne.2 hc
          go_wp2
          go_ret
          exact ⟨rfl, hbel⟩
      · have hq' : (q3 == 0) = false := beq_eq_false_iff_ne.2 hq
        go_upto_region 18 with fail
        clear hq'
        by_cases hc : rc = 0
        · subst hc
          obtain ⟨hl, hdr, hB1, hB2, hT⟩ := HRR.out rfl
          obtain ⟨hX16, hY16⟩ := HRD.out rfl
          have c0 := b_d.at_ 0 rfl
          have c1 := b_d.at_ 1 rfl
          have c2 := b_d.at_ 2 rfl
          have c3 := b_d.at_ 3 rfl
          have c4 := b_x.at_ 0 rfl
          have c5 := b_x.at_ 1 rfl
          have c6 := b_y.at_ 0 rfl
          have c7 := b_y.at_ 1 rfl
          have hgd := b_d.lt
          have HT := Lib.hid hT
          have HXY := Lib.hid (And.intro hX16 hY16)
          have HL := Lib.hid hl
          clear hT hX16 hY16 hl hdr
          go_wp2_with fail
          refine (implTurnDrums ki B T F b A C xs d D E ys T w10 HD.out rx HX.out.2.1 HX.out.1 ry HY.out.2.1 HY.out.1 HD.out.2.2.1).mono ?_
          rintro e w11 ⟨A6, C6, rfl, o6, hb⟩
          clear c0 c1 c2 c3 c4 c5 c6 c7 hgd
          replace hx := hx.below hb
          replace rx := rx.below hb
          replace ry := ry.below hb
          replace b_d := b_d.below hb
          replace b_x := b_x.below hb
          replace b_y := b_y.below hb
          replace rz := rz.below hb
          replace b_g18 := b_g18.below hb
          replace b_g181 := b_g181.below hb
          replace hbel := hbel.trans (hb.mono hbel.size)
          clear hb
          rcases HT.out with h5 | hok
          · obtain ⟨⟨qb, ql, qc⟩, eQ2⟩ : ∃ R, R = turnR ki B T F b xs d ys T := ⟨_, rfl⟩
            rw [← eQ2] at h5 o6 ⊢
            simp only at h5 o6 ⊢
            subst h5
            clear eQ2 o6
            have hsz := hbel.size
            go_wp2
            go_ret
            exact ⟨rfl, (by repeat (first | exact hbel | refine Below.setCell ?_ (by first | omega | (simp <;> omega)) _ | refine Below.alloc ?_ (by first | omega | (simp <;> omega)) _ | refine Below.drew ?_))⟩
          · rw [hok] at o6 ⊢
            simp only [tab_len] at o6 ⊢
            have r6 := o6.rd
            clear hok o6
            go_upto_region 21 with fail
            obtain ⟨g26, hg26⟩ : ∃ g, g = w11.heap.size := ⟨_, rfl⟩
            obtain ⟨v11, hv11⟩ : ∃ V, V = w11.alloc (.cells #[.int .i64 B, .slice A6 xs.length C6] 26) := ⟨_, rfl⟩
            have b_g26 : Bx v11 g26 26 #[.int .i64 B, .slice A6 xs.length C6] := by rw [hv11, hg26]; exact Bx.new _ _ _
            have hb : Below w11.heap.size w11 v11 := by rw [hv11]; exact (Below.refl _ _).alloc (Nat.le_refl _) _
            rw [← hg26, ← hv11]
            clear hv11 hg26
            replace hx := hx.below hb
            replace rx := rx.below hb
            replace ry := ry.below hb
            replace b_d := b_d.below hb
            replace b_x := b_x.below hb
            replace b_y := b_y.below hb
            replace rz := rz.below hb
            replace b_g18 := b_g18.below hb
            replace b_g181 := b_g181.below hb
            replace r6 := r6.below hb
            replace hbel := hbel.trans (hb.mono hbel.size)
            clear hb
            have c5 := b_x.at_ 1 rfl
            have c9 := b_g26.at_ 1 rfl
            have hxl := rx.len
            go_wp2_with fail
            go_loopw [28] (fun i wr => ∃ k m : Nat, k ≤ xs.length ∧ i = .int .i64 k ∧ wr = v11.drewN m) (fun i _ => xs.length - (intOf i).toNat)
            case atStart => exact ⟨0, 0, Nat.zero_le _, rfl, rfl⟩
            case round =>
              clear c5 c9
              obtain ⟨k, m, hk, rfl, hwr⟩ := hrel
              have hbw : Below v11.heap.size v11 wr := by rw [hwr]; exact bel_drewN (Below.refl _ _) m
              have z0 := (b_d.below hbw).at_ 1 rfl
              have z1 := (b_x.below hbw).at_ 1 rfl
              have z2 := (b_y.below hbw).at_ 1 rfl
              have z3 := (b_g26.below hbw).at_ 1 rfl
              by_cases hlt : k < xs.length
              · obtain ⟨p1, o1, rfl, f1⟩ := (rx.below hbw).at_ hlt
                obtain ⟨p2, o2, rfl, f2⟩ := (ry.below hbw).at_ (k := k) (by rw [← HL.out]; exact hlt)
                obtain ⟨p3, o3, rfl, f3⟩ := (r6.below hbw).at_ (k := k) (by rw [tab_len]; exact hlt)
                rw [tab_nth hlt] at f3
                have hx := HXY.out.1 k hlt
                have hy := HXY.out.2 k (by rw [← HL.out]; exact hlt)
                have hky : (k : Int) < (ys.length : Int) := by have := HL.out; omega
                have s1 : IntKind.i64.wrap (nth xs k + nth ys k) = nth xs k + nth ys k := fits_int _ (by omega) (by omega)
                have s2 : (nth xs k + nth ys k).tmod B = (nth xs k + nth ys k) % B := Int.tmod_eq_emod_of_nonneg (by omega)
                have s3 : ¬ B = 0 := by omega
                have HWR := Lib.hid hwr
                clear hwr
                go_wp2
                go_quiet (fail)
                go_wp2
                go_roundw
                case rel => exact ⟨k + 1, m + nq, by omega, by go_num, by rw [HWR.out, drewN_drewN]⟩
                case measure => (simp [intOf]) <;> omega
              · obtain rfl : k = xs.length := by omega
                have hbelw := hbel.trans (hbw.mono hbel.size)
                clear hwr hbw
                go_wp2
                go_ret
                exact ⟨rfl, hbelw⟩
        · have hc' : (rc == 0) = false := beq_eq_false_iff_ne.2 hc
          go_wp2
          go_ret
          exact ⟨rfl, hbel⟩
end Go.Proofs.Ytgfpjcckkbhdjaa
