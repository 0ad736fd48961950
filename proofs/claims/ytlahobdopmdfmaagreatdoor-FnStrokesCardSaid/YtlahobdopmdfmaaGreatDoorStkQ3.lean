/-
  Several texts in one: MacHi, StkM, Src, DrawO, AppAt, OrdC, DrawR, Among, MadM, StnM, StkT, MadS.
-/
import Derived.Test.YtlahobdopmdfmaaGreatDoorStkQ2
import Derived.Test.YtlahobdopmdfmaaGreatDoorStkQ1
import Derived.Laws.CopyRow
import Derived.Lib.SliceRun
import Derived.Deep.RegionHeld3
import Derived.BigQuiet
import Derived.Deep.Cut
import Derived.Laws.BitsLemmas
import Derived.Deep.CutBlock
import Derived.Lib.ItoaLen

/- MacHi -/
/- MtuI -/
namespace Go.Proofs.YtlahobdopmdfmaaGreatDoor
open Go.RowKit
theorem info_one64 : (Tryz.prog.info? 2).map (·.size) = some 1 := by kernel_rfl

/-- Numbers copied into a row of one's own, from place off on. -/
theorem own_splice {t : TypeId} {w : World} {lo hi g n c : Nat} {zs : List Int} (h : Own t w lo hi (.slice (some ⟨g, 0, none⟩) n c) zs) (off : Nat) (ys : List Int) (hfit : off + ys.length ≤ zs.length) :
    ∃ cur : Array Value, w.heap[g]? = some (.cells cur t (0, 0)) ∧ off + ys.length ≤ cur.size ∧
      Own t (w.setRow g (cur.toList.take off ++ ys.map (Value.int .i64) ++ cur.toList.drop (off + ys.length)).toArray) lo hi (.slice (some ⟨g, 0, none⟩) n c) (zs.take off ++ (ys ++ zs.drop (off + ys.length))) := by
  rcases h.row.2 with ⟨hv, _⟩ | ⟨g', cap, cur, hv, hg, hh, hc1, hc2, hsz, htk⟩
  · cases hv
  · injection hv with e1 e2 e3
    injection e1 with e1
    injection e1 with e1 _ _
    subst e1 e2 e3
    have htop := h.top g rfl
    have hl := h.len
    rw [Nat.mul_one] at hsz htk
    have hlt : zs.length ≤ cur.toList.length := by have : cur.toList.length = cur.size := Array.length_toList; omega
    have e4 : (zs.take off ++ (ys ++ zs.drop (off + ys.length))).length = zs.length := by rw [List.length_append, List.length_append, List.length_take, List.length_drop]; omega
    have f1 : (cur.toList.take off) = (zs.take off).map (Value.int .i64) := by
      rw [List.map_take, ← htk, List.take_take, Nat.min_eq_left (by omega)]
    have f2 : (cur.toList.drop (off + ys.length)).take (zs.length - (off + ys.length)) = (zs.drop (off + ys.length)).map (Value.int .i64) := by
      rw [List.map_drop, ← htk, List.drop_take]
    refine ⟨cur, hh, by omega, ⟨⟨by simp, .inr ⟨g, c, _, by rw [e4], hg, setRow_heap w g _ _ t _ hh, by rw [e4]; exact hc1, hc2, ?_, ?_⟩⟩, fun k hk => h.top k hk, by rw [e4]; exact hl⟩⟩
    · have : cur.toList.length = cur.size := Array.length_toList
      rw [Nat.mul_one, List.size_toArray, List.length_append, List.length_append, List.length_take, List.length_map, List.length_drop]
      omega
    · rw [e4, Nat.mul_one, List.map_append, List.map_append, f1, ← f2, List.append_assoc, List.take_append, List.take_append]
      simp only [List.length_map, List.length_take]
      have g1 : min off zs.length = off := by omega
      rw [g1, List.take_of_length_le (l := List.map (Value.int .i64) (zs.take off)) (by simp; omega), List.take_of_length_le (l := List.map (Value.int .i64) ys) (by simp; omega)]
      congr 3
      omega

theorem pad_splice (n p : Nat) (ds : List Int) (h : p + ds.length ≤ n) : (pad n []).take p ++ (ds ++ (pad n []).drop (p + ds.length)) = abvL n p ds := by
  rw [pad_nil, abvL, List.take_replicate, List.drop_replicate, Nat.min_eq_left (by omega), Nat.sub_add_eq]

set_option maxRecDepth 100000 in
set_option maxHeartbeats 2000000 in
theorem above_any (m : Mac) (A1 : Option Addr) (C1 : Nat) (A2 : Option Addr) (C2 : Nat) (A3 : Option Addr) (C3 : Nat) (B : Int) (a : Option Addr) (n c p : Nat) (d : Option Addr) (e : Nat) (ds : List Int) (w : World) (hp : m.p = (p : Int)) (hd : Rd w d ds) (hfit : p + ds.length ≤ n) (hn : n ≤ 16) (h1 : 1 ≤ ds.length) :
    Calls Tryz.prog 88 #[.agg #[.int .i64 m.b1, .slice A1 m.z1.length C1, .int .i64 m.b2, .slice A2 m.z2.length C2, .int .i64 m.b3, .slice A3 m.z3.length C3, .int .i64 m.p], .agg #[.int .i64 B, .slice a n c], .slice d ds.length e] w fun r w' => ∃ D E, r = .returned (.slice D n E) ∧
      Own 2 w' w.heap.size w'.heap.size (.slice D n E) (abvL n p ds) ∧ Below w.heap.size w w' := by
  obtain ⟨db, doff, rfl, _⟩ := hd.cells (by rintro rfl; simp at h1)
  obtain ⟨u, hu⟩ : ∃ u, u = (w.alloc (.cells #[.int .i64 m.b1, .slice A1 m.z1.length C1, .int .i64 m.b2, .slice A2 m.z2.length C2, .int .i64 m.b3, .slice A3 m.z3.length C3, .int .i64 m.p] 28)).alloc (.cells #[.int .i64 B, .slice a n c] 26) := ⟨_, rfl⟩
  have hbel : Below w.heap.size w u := by rw [hu]; exact (by repeat (first | exact Below.refl _ _ | refine Below.setCell ?_ (by first | omega | (simp <;> omega)) _ | refine Below.alloc ?_ (by first | omega | (simp <;> omega)) _ | refine Below.drew ?_))
  have bm : Bx u w.heap.size 28 #[.int .i64 m.b1, .slice A1 m.z1.length C1, .int .i64 m.b2, .slice A2 m.z2.length C2, .int .i64 m.b3, .slice A3 m.z3.length C3, .int .i64 m.p] := by rw [hu]; exact (Bx.new _ _ _).alloc _
  have hz := hbel.size
  have HU := Lib.hid hu
  have HP := Lib.hid hp
  clear hu hp
  go_enter Tryz.func88, Tryz.ntmps88
  go_wp2_with (at_make; rw [← HU.out]; refine wpList_makeI rfl (.tmp 10) (.tmp 10) 122 2 rfl Tryz.underlying122 info_int64 n rfl rfl (by omega) ?_; intro w1 hown hb; have c6 := (bm.below hb).at_ 6 rfl; obtain ⟨cur, hcur, hsz, hO⟩ := own_splice hown p ds (by rw [pad_len (by simp)]; exact hfit); rw [pad_splice n p ds hfit] at hO; have hrun := run_copy_row (P := Tryz.prog) w1 122 122 3 2 u.heap.size p (n - p) (n - p) ⟨db, doff, none⟩ ds.length e cur 2 (ds.map (Value.int .i64)) Tryz.underlying122 info_one64 hcur (by rw [List.length_map]; exact (Nat.min_eq_left (by omega)).symm) (rd_news ((hd.below hbel).below hb)) (by simpa using hsz) (by intro v hv; obtain ⟨x, _, rfl⟩ := List.mem_map.1 hv; rfl); rw [List.length_map] at hrun; obtain ⟨w2, hw2⟩ : ∃ v, v = w1.setRow u.heap.size (cur.toList.take p ++ ds.map (Value.int .i64) ++ cur.toList.drop (p + ds.length)).toArray := ⟨_, rfl⟩; rw [← hw2] at hrun hO; replace hrun : (Builtin.copy_ #[122, 122] 3 #[.slice (some ⟨u.heap.size, p, none⟩) (n - p) (n - p), .slice (some ⟨db, doff, none⟩) ds.length e]).run Tryz.prog w1 = .ok (.int .i64 (ds.length : Int)) w2 := hrun; have HO := Lib.hid hO; have HB : Hid (Below u.heap.size w1 w2 ∧ w2.heap.size = w1.heap.size) := Lib.hid (by rw [hw2]; exact ⟨⟨rfl, rfl, rfl, by simp [World.setRow], fun k hk => setRow_other w1 _ k _ (by omega)⟩, by simp [World.setRow]⟩); clear hw2 hO hcur hsz hown; rw [HP.out] at c6)
  go_ret
  have hB := HB.out
  refine ⟨some ⟨u.heap.size, 0, none⟩, n, rfl, HO.out.wide (by omega) (by omega), ?_⟩
  exact hbel.trans ((hb.trans hB.1).mono hbel.size)

/-- A row of its own and a bool. -/
def RowB (zs : List Int) (t : Bool) (n : Nat) (w : World) (e : Ending) (w' : World) : Prop := ∃ A C,
  e = .returned (.tuple #[.slice A n C, .bool t]) ∧ Own 2 w' w.heap.size w'.heap.size (.slice A n C) zs ∧ Below w.heap.size w w'

set_option maxRecDepth 100000 in
set_option maxHeartbeats 2000000 in
theorem turnOn_any (B : Int) (a b : Option Addr) (c d : Nat) (xs ys : List Int) (w : World) (ha : Rd w a xs) (hb : Rd w b ys) (hB1 : 2 ≤ B) (hB2 : B ≤ 16) (hlen : xs.length ≤ 16) (hl : ys.length = xs.length) (hx : DigsM B xs) (hy : DigsM B ys) :
    Calls Tryz.prog 51 #[.slice a xs.length c, .slice b xs.length d, .int .i64 B] w (RowB (movZ B xs (valR B ys)) (movO B xs (valR B ys)) xs.length w) := by
  have R := Tryz.results51
  have HS := Lib.hid (sum_mov hB1 hx hy hl)
  have HP := Lib.hid (plus_any B a b c d xs ys w ha hb hB1 hB2 hlen hl.symm (fun k hk => digsM_nth hx hk) (fun k hk => digsM_nth hy (by omega)))
  rw [hl] at HP
  clear ha hb hx hy
  go_enter Tryz.func51, Tryz.ntmps51
  go_wp2_with fail
  refine HP.out.mono ?_
  rintro e w1 ⟨A1, C1, A2, C2, rfl, o1, o2, hbel⟩
  obtain ⟨p, rfl, _, _⟩ : ∃ p, A2 = some ⟨p, 0, none⟩ ∧ True ∧ True := by
    rcases o2.row.2 with ⟨hv, h0⟩ | ⟨g, cap, cur, hv, _⟩
    · rw [tab_len] at h0; omega
    · injection hv with hA; exact ⟨g, hA, trivial, trivial⟩
  have hget := o2.get (j := xs.length) (by rw [tab_len]; omega)
  rw [tab_nth (by omega)] at hget
  obtain ⟨v, hv⟩ : ∃ v, v = cK B xs ys xs.length := ⟨_, rfl⟩
  rw [← hv] at hget HS
  have hsl : (xs.length : Int) < (xs.length : Int) + 1 := by omega
  clear hv o2
  go_wp2_with fail
  go_quiet (fail)
  go_wp2
  exact bodyPost_ret (v := .tuple #[.slice A1 xs.length C1, .bool (decide (0 < v))]) (by simp [results, go_sem]) rfl ⟨A1, C1, by rw [HS.out.2], (HS.out.1 ▸ o1).drewN _ |>.wide (Nat.le_refl _) (by simp), bel_drewN hbel _⟩

set_option maxRecDepth 100000 in
set_option maxHeartbeats 2000000 in
theorem turnBack_any (B : Int) (a b : Option Addr) (c d : Nat) (xs ys : List Int) (w : World) (ha : Rd w a xs) (hb : Rd w b ys) (hB1 : 2 ≤ B) (hB2 : B ≤ 16) (hlen : xs.length ≤ 16) (hl : ys.length = xs.length) (hx : DigsM B xs) (hy : DigsM B ys) :
    Calls Tryz.prog 52 #[.slice a xs.length c, .slice b xs.length d, .int .i64 B] w (RowB (movZ B xs (-valR B ys)) (movO B xs (-valR B ys)) xs.length w) := by
  have R := Tryz.results52
  have HS := Lib.hid (sub_mov hB1 hx hy hl)
  have HP := Lib.hid (minus_any B a b c d xs ys w ha hb hB1 hB2 hlen hl.symm (fun k hk => digsM_nth hx hk) (fun k hk => digsM_nth hy (by omega)))
  rw [hl] at HP
  obtain ⟨v, hv⟩ : ∃ v, v = bK B xs ys xs.length := ⟨_, rfl⟩
  rw [← hv] at HP HS
  clear ha hb hx hy hv
  go_enter Tryz.func52, Tryz.ntmps52
  go_wp2_with fail
  refine HP.out.mono ?_
  rintro e w1 ⟨A1, C1, rfl, o1, hbel⟩
  go_wp2
  exact bodyPost_ret (v := .tuple #[.slice A1 xs.length C1, .bool (decide (0 < v))]) (by simp [results, go_sem]) rfl ⟨A1, C1, by rw [HS.out.2], HS.out.1 ▸ o1, hbel⟩
end Go.Proofs.YtlahobdopmdfmaaGreatDoor

/- OrdP -/
namespace Go.Proofs.YtlahobdopmdfmaaGreatDoor
open Go

section
variable {P : Program} {ops : Array Oper} {Q : Exit → Act → World → Prop} {md : Region.Mode} {S : World → Prop} {m : Nat}

theorem wpAnyM_pureFirst {i : Nat} {oi : Oper} {v : Value} (hi : ops[i]? = some oi) (hsel : ∀ (j : Nat) (o : Oper) cs b, ops[j]? = some o → o.op ≠ .select cs b)
    (hQ : ∀ c a w, Q (.panic c) (a.put oi.dst v) w → Q (.panic c) a w) (him : i ≠ m) :
    ∀ (fuel : Nat) (listed : Array Bool) (a : Act) (w : World),
      (∀ j oj, ops[j]? = some oj → j ≠ i → listed.getD j true = false → (∀ e ∈ oj.after, Region.binds md e = true → e.on ≠ i) → oi.apart ops oj = true) →
      i ∈ Region.ready md ops listed → YieldsIf P ops (fun _ => True) oi v a → (listed.getD m true = true ∨ S w) →
      wpAnyM P md ops Q S m fuel (listed.setIfInBounds i true) (a.put oi.dst v) w → wpAnyM P md ops Q S m (fuel + 1) listed a w := by
  intro fuel
  induction fuel with
  | zero =>
    intro listed a w _ hr hy hS H
    refine ⟨fun h => (by rw [h] at hr; cases hr), fun j hj => ?_⟩
    by_cases hji : j = i
    · subst hji; exact hy.wpOp hi trivial ⟨by rw [getD_set_ne true him]; exact hS, H⟩
    · have := ready_mono hj hji
      rw [H.1] at this
      cases this
  | succ fuel ih =>
    intro listed a w hfree hr hy hS H
    refine ⟨fun h => (by rw [h] at hr; cases hr), fun j hj => ?_⟩
    by_cases hji : j = i
    · subst hji; exact hy.wpOp hi trivial ⟨by rw [getD_set_ne true him]; exact hS, H⟩
    · have h1 := H.2 j (ready_mono hj hji)
      obtain ⟨hjun, oj, hoj, hall⟩ := mem_ready.1 hj
      have iun : listed.getD i false = false := by
        have h0 := (mem_ready.1 hr).1
        rcases Nat.lt_or_ge i listed.size with h' | h'
        · simp [h'] at h0 ⊢; exact h0
        · simp [Array.getElem?_eq_none h'] at h0
      have hnot : ∀ e ∈ oj.after, Region.binds md e = true → e.on ≠ i := fun e he hb heq => by
        have h1 := hall e he hb
        rw [heq, iun] at h1
        cases h1
      have h2 := wpOp_putIf hoj (hfree j oj hoj hji hjun hnot) (fun cs b => hsel i oi cs b hi) (fun cs b => hsel j oj cs b hoj) hQ hy h1
      have hfree' : ∀ k ok, ops[k]? = some ok → k ≠ i → (listed.setIfInBounds j true).getD k true = false →
          (∀ e ∈ ok.after, Region.binds md e = true → e.on ≠ i) → oi.apart ops ok = true := fun k ok hk hki hun hno => by
        refine hfree k ok hk hki ?_ hno
        by_cases hjk : j = k
        · subst hjk; exact hjun
        · rw [getD_set_ne true hjk] at hun; exact hun
      refine wpOp_mono (fun a' w' h3 => ?_) h2
      obtain ⟨h4, h5, h6⟩ := h3
      have hS' : (listed.setIfInBounds j true).getD m true = true ∨ S w' := by
        rcases h5 with h5 | h5
        · rw [Array.setIfInBounds_comm _ _ (Ne.symm hji), getD_set_ne true him] at h5; exact .inl h5
        · exact .inr h5
      refine ⟨hS', ih (listed.setIfInBounds j true) a' w' hfree' (ready_mono hr (Ne.symm hji)) h4 hS' ?_⟩
      rw [Array.setIfInBounds_comm _ _ hji]
      exact h6

/-- Number i, whose value hangs on no world, is taken first. -/
theorem wpAnyM_pure {i : Nat} {oi : Oper} {v : Value} {fuel : Nat} {listed : Array Bool} {a : Act} {w : World} (hi : ops[i]? = some oi)
    (hs : Region.noSelect ops = true) (hf : Region.free md ops listed i = true) (hr : (Region.ready md ops listed).contains i = true) (him : (i == m) = false)
    (hQ : ∀ c a w, Q (.panic c) (a.put oi.dst v) w → Q (.panic c) a w) (hS : listed.getD m true = true ∨ S w) (hy : YieldsIf P ops (fun _ => True) oi v a)
    (h : wpAnyM P md ops Q S m fuel (listed.setIfInBounds i true) (a.put oi.dst v) w) : wpAnyM P md ops Q S m (fuel + 1) listed a w :=
  wpAnyM_pureFirst hi (Region.noSelect_spec hs) hQ (by simpa using him) fuel listed a w (Region.free_spec hi hf) (by simpa using hr) hy hS h
end
end Go.Proofs.YtlahobdopmdfmaaGreatDoor

/- McrI -/
namespace Go.Proofs.YtlahobdopmdfmaaGreatDoor
open Go.RowKit

/-- A machine at work in the box p: its rows lie at L or behind it, apart from each other and from the box. -/
structure Wk (w : World) (L p : Nat) (m : Mac) (t : Bool) (A1 : Option Addr) (C1 : Nat) (A2 : Option Addr) (C2 : Nat) (A3 : Option Addr) (C3 : Nat) : Prop where
  bx : Bx w p 52 #[.int .i64 m.b1, .slice A1 m.z1.length C1, .int .i64 m.b2, .slice A2 m.z2.length C2, .int .i64 m.b3, .slice A3 m.z3.length C3, .int .i64 m.p, .bool t]
  lp : L ≤ p
  ex : ∃ l1 h1 l2 h2 l3 h3 : Nat, Own 2 w l1 h1 (.slice A1 m.z1.length C1) m.z1 ∧ Own 2 w l2 h2 (.slice A2 m.z2.length C2) m.z2 ∧ Own 2 w l3 h3 (.slice A3 m.z3.length C3) m.z3 ∧
    L ≤ l1 ∧ L ≤ l2 ∧ L ≤ l3 ∧ h1 ≤ w.heap.size ∧ h2 ≤ w.heap.size ∧ h3 ≤ w.heap.size ∧ (h1 ≤ l2 ∨ h2 ≤ l1) ∧ (h1 ≤ l3 ∨ h3 ≤ l1) ∧ (h2 ≤ l3 ∨ h3 ≤ l2) ∧ (p < l1 ∨ h1 ≤ p) ∧ (p < l2 ∨ h2 ≤ p) ∧ (p < l3 ∨ h3 ≤ p)
/-- The same, wherever its rows lie. -/
def WkE (w : World) (L p : Nat) (R : Mac × Bool) : Prop := ∃ (A1 : Option Addr) (C1 : Nat) (A2 : Option Addr) (C2 : Nat) (A3 : Option Addr) (C3 : Nat), Wk w L p R.1 R.2 A1 C1 A2 C2 A3 C3

/-- A turn, by what stands above the wheels. -/
theorem trn_abv (m : Mac) (s : Int) (P : Nat) (hP : m.p = (P : Int)) (e2 : m.b2 = m.b1) (e3 : m.b3 = m.b1) :
    trnM m s = (⟨m.b1, m.z1, m.b2, movZ m.b1 m.z2 (s * valR m.b1 (abvL m.z2.length P m.z1)), m.b3, movZ m.b1 m.z3 (s * valR m.b1 (abvL m.z3.length P [1])), m.p⟩, movO m.b1 m.z2 (s * valR m.b1 (abvL m.z2.length P m.z1))) := by
  rw [abvL_val, abvL_val, trnM, unitM, hP, Int.toNat_natCast, e2, e3]
  simp [valR]

set_option maxRecDepth 100000 in
set_option maxHeartbeats 8000000 in
theorem crank_turnOn (L p : Nat) (m : Mac) (t : Bool) (A1 : Option Addr) (C1 : Nat) (A2 : Option Addr) (C2 : Nat) (A3 : Option Addr) (C3 : Nat) (w : World) (hk : Wk w L p m t A1 C1 A2 C2 A3 C3) (hm : macB m = true) :
    Calls Tryz.prog 50 #[.pointer (some ⟨p, 0, none⟩), .func (.func 51) #[] #[]] w fun e w' => e = .returned (.tuple #[]) ∧ WkE w' L p (trnM m 1) ∧ Below L w w' := by
  obtain ⟨e2, e3, b0, b1, n0, n12, n2, n3, n4, p0, p1, p2, d1, d2, d3⟩ := macB_facts hm
  obtain ⟨P, hP⟩ := Int.eq_ofNat_of_zero_le p0
  obtain ⟨l1, h1, l2, h2, l3, h3, o1, o2, o3, s⟩ := hk.ex
  have bx := hk.bx
  have hlp := hk.lp
  have hpl := bx.lt
  have HT := Lib.hid (trn_abv m 1 P hP e2 e3)
  obtain ⟨X2, hX2⟩ : ∃ X, X = movZ m.b1 m.z2 (valR m.b1 (abvL m.z2.length P m.z1)) := ⟨_, rfl⟩
  obtain ⟨t2, ht2⟩ : ∃ X, X = movO m.b1 m.z2 (valR m.b1 (abvL m.z2.length P m.z1)) := ⟨_, rfl⟩
  obtain ⟨X3, hX3⟩ : ∃ X, X = movZ m.b1 m.z3 (valR m.b1 (abvL m.z3.length P [1])) := ⟨_, rfl⟩
  obtain ⟨t3, ht3⟩ : ∃ X, X = movO m.b1 m.z3 (valR m.b1 (abvL m.z3.length P [1])) := ⟨_, rfl⟩
  replace HT : Hid (trnM m 1 = (⟨m.b1, m.z1, m.b2, X2, m.b3, X3, m.p⟩, t2)) := Lib.hid (by rw [HT.out, hX2, ht2, hX3]; simp only [Int.one_mul])
  have HX2 := Lib.hid (show X2.length = m.z2.length by rw [hX2]; exact movZ_len _ _ _)
  have HX3 := Lib.hid (show X3.length = m.z3.length by rw [hX3]; exact movZ_len _ _ _)
  have H1 : Hid (∀ v, Below w.heap.size w v → Calls Tryz.prog 88 #[.agg #[.int .i64 m.b1, .slice A1 m.z1.length C1, .int .i64 m.b2, .slice A2 m.z2.length C2, .int .i64 m.b3, .slice A3 m.z3.length C3, .int .i64 m.p], .agg #[.int .i64 m.b2, .slice A2 m.z2.length C2], .slice A1 m.z1.length C1] v fun r w' => ∃ D E, r = .returned (.slice D m.z2.length E) ∧
      Own 2 w' v.heap.size w'.heap.size (.slice D m.z2.length E) (abvL m.z2.length P m.z1) ∧ Below v.heap.size v w') :=
    Lib.hid fun v hb => above_any m A1 C1 A2 C2 A3 C3 m.b2 A2 m.z2.length C2 P A1 C1 m.z1 v hP (o1.rd.below hb) (by omega) n2 n0
  have H2 : Hid (∀ v D E, Below w.heap.size w v → Rd v D (abvL m.z2.length P m.z1) → Calls Tryz.prog 51 #[.slice A2 m.z2.length C2, .slice D m.z2.length E, .int .i64 m.b1] v (RowB X2 t2 m.z2.length v)) :=
    Lib.hid fun v D E hb hd => by
      rw [hX2, ht2]
      exact turnOn_any m.b1 A2 D C2 E m.z2 (abvL m.z2.length P m.z1) v (o2.rd.below hb) hd b0 b1 n2 (abvL_len (by omega)) d2 (abvL_digs (by omega) d1 _ _)
  have HB := Lib.hid (fun (m : Mac) (A1 : Option Addr) (C1 : Nat) (A2 : Option Addr) (C2 : Nat) (A3 : Option Addr) (C3 : Nat) v => mBase_any m A1 C1 A2 C2 A3 C3 v)
  have k0 := kept_all (bx.at_ 0 rfl)
  have k1 := kept_all (bx.at_ 1 rfl)
  have k2 := kept_all (bx.at_ 2 rfl)
  have k3 := kept_all (bx.at_ 3 rfl)
  have k4 := kept_all (bx.at_ 4 rfl)
  have k5 := kept_all (bx.at_ 5 rfl)
  have k6 := kept_all (bx.at_ 6 rfl)
  have HF := Lib.hid (show 2 ≤ m.b1 ∧ m.b1 ≤ 16 ∧ m.z3.length ≤ 16 ∧ P + 1 ≤ m.z3.length ∧ DigsM m.b1 m.z3 from ⟨b0, b1, n4, by omega, d3⟩)
  have HHX3 := Lib.hid hX3
  have HHT3 := Lib.hid ht3
  have HPP := Lib.hid hP
  have e2' := Lib.hid e2
  clear e2 e3 b0 b1 n0 n12 n2 n3 n4 p0 p1 p2 d1 d2 d3 hP hX2 ht2 hX3 ht3 hk hm
  go_enter Tryz.func50, Tryz.ntmps50
  go_upto_region 0 with fail
  refine wp_region_marked (fun w' => Below w.heap.size w w') 38 (by kernel_rfl) ?_
  have hS : Below w.heap.size w w.drew := (Below.refl _ _).drew
  refine wpAnyM_take (i := 0) (v := ?_) rfl (by kernel_rfl) (by kernel_rfl) (by kernel_rfl) (by kernel_rfl) (by kernel_rfl) (fun _ _ _ h => h) hS (.inl ⟨by rfl, ?_⟩) ?_
  rotate_left 1
  · intro w' hS'; go_simp; try with_reducible rfl
  simp only [Act.put, List.setIfInBounds_toArray, List.set_cons_succ, List.set_cons_zero, List.getElem_toArray, List.getElem_cons_zero]
  refine wpAnyM_pure (i := 1) (v := ?_) rfl (by kernel_rfl) (by kernel_rfl) (by kernel_rfl) (by kernel_rfl) (fun _ _ _ h => h) (.inr hS) (.inl ⟨by rfl, ?_⟩) ?_
  rotate_left 1
  · intro w' hS'; go_simp; try with_reducible rfl
  simp only [Act.put, List.setIfInBounds_toArray, List.set_cons_succ, List.set_cons_zero, List.getElem_toArray, List.getElem_cons_succ, List.getElem_cons_zero]
  refine wpAnyM_take (i := 2) (v := ?_) rfl (by kernel_rfl) (by kernel_rfl) (by kernel_rfl) (by kernel_rfl) (by kernel_rfl) (fun _ _ _ h => h) hS (.inl ⟨by rfl, ?_⟩) ?_
  rotate_left 1
  · intro w' hS'; go_simp; try with_reducible rfl
  simp only [Act.put, List.setIfInBounds_toArray, List.set_cons_succ, List.set_cons_zero, List.getElem_toArray, List.getElem_cons_succ, List.getElem_cons_zero]
  refine wpAnyM_take (i := 3) (v := ?_) rfl (by kernel_rfl) (by kernel_rfl) (by kernel_rfl) (by kernel_rfl) (by kernel_rfl) (fun _ _ _ h => h) hS (.inl ⟨by rfl, ?_⟩) ?_
  rotate_left 1
  · intro w' hS'; go_simp; try with_reducible rfl
  simp only [Act.put, List.setIfInBounds_toArray, List.set_cons_succ, List.set_cons_zero, List.getElem_toArray, List.getElem_cons_succ, List.getElem_cons_zero]
  refine wpAnyM_take (i := 4) (v := ?_) rfl (by kernel_rfl) (by kernel_rfl) (by kernel_rfl) (by kernel_rfl) (by kernel_rfl) (fun _ _ _ h => h) hS (.inl ⟨by rfl, ?_⟩) ?_
  rotate_left 1
  · intro w' hS'; go_simp; try with_reducible rfl
  simp only [Act.put, List.setIfInBounds_toArray, List.set_cons_succ, List.set_cons_zero, List.getElem_toArray, List.getElem_cons_succ, List.getElem_cons_zero]
  refine wpAnyM_take (i := 5) (v := ?_) rfl (by kernel_rfl) (by kernel_rfl) (by kernel_rfl) (by kernel_rfl) (by kernel_rfl) (fun _ _ _ h => h) hS (.inl ⟨by rfl, ?_⟩) ?_
  rotate_left 1
  · intro w' hS'; go_simp; try with_reducible rfl
  simp only [Act.put, List.setIfInBounds_toArray, List.set_cons_succ, List.set_cons_zero, List.getElem_toArray, List.getElem_cons_succ, List.getElem_cons_zero]
  refine wpAnyM_take (i := 6) (v := ?_) rfl (by kernel_rfl) (by kernel_rfl) (by kernel_rfl) (by kernel_rfl) (by kernel_rfl) (fun _ _ _ h => h) hS (.inl ⟨by rfl, ?_⟩) ?_
  rotate_left 1
  · intro w' hS'; go_simp; try with_reducible rfl
  simp only [Act.put, List.setIfInBounds_toArray, List.set_cons_succ, List.set_cons_zero, List.getElem_toArray, List.getElem_cons_succ, List.getElem_cons_zero]
  refine wpAnyM_take (i := 7) (v := ?_) rfl (by kernel_rfl) (by kernel_rfl) (by kernel_rfl) (by kernel_rfl) (by kernel_rfl) (fun _ _ _ h => h) hS (.inl ⟨by rfl, ?_⟩) ?_
  rotate_left 1
  · intro w' hS'; go_simp; try with_reducible rfl
  simp only [Act.put, List.setIfInBounds_toArray, List.set_cons_succ, List.set_cons_zero, List.getElem_toArray, List.getElem_cons_succ, List.getElem_cons_zero]
  refine wpAnyM_take (i := 8) (v := ?_) rfl (by kernel_rfl) (by kernel_rfl) (by kernel_rfl) (by kernel_rfl) (by kernel_rfl) (fun _ _ _ h => h) hS (.inl ⟨by rfl, ?_⟩) ?_
  rotate_left 1
  · intro w' hS'; go_simp; try with_reducible rfl
  simp only [Act.put, List.setIfInBounds_toArray, List.set_cons_succ, List.set_cons_zero, List.getElem_toArray, List.getElem_cons_succ, List.getElem_cons_zero]
  refine wpAnyM_take (i := 9) (v := ?_) rfl (by kernel_rfl) (by kernel_rfl) (by kernel_rfl) (by kernel_rfl) (by kernel_rfl) (fun _ _ _ h => h) hS (.inl ⟨by rfl, ?_⟩) ?_
  rotate_left 1
  · intro w' hS'; go_simp; try with_reducible rfl
  simp only [Act.put, List.setIfInBounds_toArray, List.set_cons_succ, List.set_cons_zero, List.getElem_toArray, List.getElem_cons_succ, List.getElem_cons_zero]
  refine wpAnyM_take (i := 10) (v := ?_) rfl (by kernel_rfl) (by kernel_rfl) (by kernel_rfl) (by kernel_rfl) (by kernel_rfl) (fun _ _ _ h => h) hS (.inl ⟨by rfl, ?_⟩) ?_
  rotate_left 1
  · intro w' hS'; go_simp; try with_reducible rfl
  simp only [Act.put, List.setIfInBounds_toArray, List.set_cons_succ, List.set_cons_zero, List.getElem_toArray, List.getElem_cons_succ, List.getElem_cons_zero]
  refine wpAnyM_take (i := 11) (v := ?_) rfl (by kernel_rfl) (by kernel_rfl) (by kernel_rfl) (by kernel_rfl) (by kernel_rfl) (fun _ _ _ h => h) hS (.inl ⟨by rfl, ?_⟩) ?_
  rotate_left 1
  · intro w' hS'; go_simp; try with_reducible rfl
  simp only [Act.put, List.setIfInBounds_toArray, List.set_cons_succ, List.set_cons_zero, List.getElem_toArray, List.getElem_cons_succ, List.getElem_cons_zero]
  refine wpAnyM_take (i := 12) (v := ?_) rfl (by kernel_rfl) (by kernel_rfl) (by kernel_rfl) (by kernel_rfl) (by kernel_rfl) (fun _ _ _ h => h) hS (.inl ⟨by rfl, ?_⟩) ?_
  rotate_left 1
  · intro w' hS'; go_simp; try with_reducible rfl
  simp only [Act.put, List.setIfInBounds_toArray, List.set_cons_succ, List.set_cons_zero, List.getElem_toArray, List.getElem_cons_succ, List.getElem_cons_zero]
  refine wpAnyM_take (i := 13) (v := ?_) rfl (by kernel_rfl) (by kernel_rfl) (by kernel_rfl) (by kernel_rfl) (by kernel_rfl) (fun _ _ _ h => h) hS (.inl ⟨by rfl, ?_⟩) ?_
  rotate_left 1
  · intro w' hS'; go_simp; try with_reducible rfl
  simp only [Act.put, List.setIfInBounds_toArray, List.set_cons_succ, List.set_cons_zero, List.getElem_toArray, List.getElem_cons_succ, List.getElem_cons_zero]
  refine wpAnyM_take (i := 14) (v := ?_) rfl (by kernel_rfl) (by kernel_rfl) (by kernel_rfl) (by kernel_rfl) (by kernel_rfl) (fun _ _ _ h => h) hS (.inl ⟨by rfl, ?_⟩) ?_
  rotate_left 1
  · intro w' hS'; go_simp; try with_reducible rfl
  simp only [Act.put, List.setIfInBounds_toArray, List.set_cons_succ, List.set_cons_zero, List.getElem_toArray, List.getElem_cons_succ, List.getElem_cons_zero]
  refine wpAnyM_take (i := 15) (v := ?_) rfl (by kernel_rfl) (by kernel_rfl) (by kernel_rfl) (by kernel_rfl) (by kernel_rfl) (fun _ _ _ h => h) hS (.inl ⟨by rfl, ?_⟩) ?_
  rotate_left 1
  · intro w' hS'; go_simp; try with_reducible rfl
  simp only [Act.put, List.setIfInBounds_toArray, List.set_cons_succ, List.set_cons_zero, List.getElem_toArray, List.getElem_cons_succ, List.getElem_cons_zero]
  refine wpAnyM_take (i := 16) (v := ?_) rfl (by kernel_rfl) (by kernel_rfl) (by kernel_rfl) (by kernel_rfl) (by kernel_rfl) (fun _ _ _ h => h) hS (.inl ⟨by rfl, ?_⟩) ?_
  rotate_left 1
  · intro w' hS'; go_simp; try with_reducible rfl
  simp only [Act.put, List.setIfInBounds_toArray, List.set_cons_succ, List.set_cons_zero, List.getElem_toArray, List.getElem_cons_succ, List.getElem_cons_zero]
  refine wpAnyM_take (i := 17) (v := ?_) rfl (by kernel_rfl) (by kernel_rfl) (by kernel_rfl) (by kernel_rfl) (by kernel_rfl) (fun _ _ _ h => h) hS (.inl ⟨by rfl, ?_⟩) ?_
  rotate_left 1
  · intro w' hS'; go_simp; try with_reducible rfl
  simp only [Act.put, List.setIfInBounds_toArray, List.set_cons_succ, List.set_cons_zero, List.getElem_toArray, List.getElem_cons_succ, List.getElem_cons_zero]
  refine wpAnyM_take (i := 18) (v := ?_) rfl (by kernel_rfl) (by kernel_rfl) (by kernel_rfl) (by kernel_rfl) (by kernel_rfl) (fun _ _ _ h => h) hS (.inl ⟨by rfl, ?_⟩) ?_
  rotate_left 1
  · intro w' hS'; go_simp; try with_reducible rfl
  simp only [Act.put, List.setIfInBounds_toArray, List.set_cons_succ, List.set_cons_zero, List.getElem_toArray, List.getElem_cons_succ, List.getElem_cons_zero]
  refine wpAnyM_take (i := 19) (v := ?_) rfl (by kernel_rfl) (by kernel_rfl) (by kernel_rfl) (by kernel_rfl) (by kernel_rfl) (fun _ _ _ h => h) hS (.inl ⟨by rfl, ?_⟩) ?_
  rotate_left 1
  · intro w' hS'; go_simp; try with_reducible rfl
  simp only [Act.put, List.setIfInBounds_toArray, List.set_cons_succ, List.set_cons_zero, List.getElem_toArray, List.getElem_cons_succ, List.getElem_cons_zero]
  refine wpAnyM_take (i := 20) (v := ?_) rfl (by kernel_rfl) (by kernel_rfl) (by kernel_rfl) (by kernel_rfl) (by kernel_rfl) (fun _ _ _ h => h) hS (.inl ⟨by rfl, ?_⟩) ?_
  rotate_left 1
  · intro w' hS'; go_simp; try with_reducible rfl
  simp only [Act.put, List.setIfInBounds_toArray, List.set_cons_succ, List.set_cons_zero, List.getElem_toArray, List.getElem_cons_succ, List.getElem_cons_zero]
  refine wpAnyM_take (i := 21) (v := ?_) rfl (by kernel_rfl) (by kernel_rfl) (by kernel_rfl) (by kernel_rfl) (by kernel_rfl) (fun _ _ _ h => h) hS (.inl ⟨by rfl, ?_⟩) ?_
  rotate_left 1
  · intro w' hS'; go_simp; try with_reducible rfl
  simp only [Act.put, List.setIfInBounds_toArray, List.set_cons_succ, List.set_cons_zero, List.getElem_toArray, List.getElem_cons_succ, List.getElem_cons_zero]
  refine wpAnyM_take (i := 22) (v := ?_) rfl (by kernel_rfl) (by kernel_rfl) (by kernel_rfl) (by kernel_rfl) (by kernel_rfl) (fun _ _ _ h => h) hS (.inl ⟨by rfl, ?_⟩) ?_
  rotate_left 1
  · intro w' hS'; go_simp; try with_reducible rfl
  simp only [Act.put, List.setIfInBounds_toArray, List.set_cons_succ, List.set_cons_zero, List.getElem_toArray, List.getElem_cons_succ, List.getElem_cons_zero]
  refine wpAnyM_take (i := 23) (v := ?_) rfl (by kernel_rfl) (by kernel_rfl) (by kernel_rfl) (by kernel_rfl) (by kernel_rfl) (fun _ _ _ h => h) hS (.inl ⟨by rfl, ?_⟩) ?_
  rotate_left 1
  · intro w' hS'; go_simp; try with_reducible rfl
  simp only [Act.put, List.setIfInBounds_toArray, List.set_cons_succ, List.set_cons_zero, List.getElem_toArray, List.getElem_cons_succ, List.getElem_cons_zero]
  refine wpAnyM_take (i := 25) (v := ?_) rfl (by kernel_rfl) (by kernel_rfl) (by kernel_rfl) (by kernel_rfl) (by kernel_rfl) (fun _ _ _ h => h) hS (.inl ⟨by rfl, ?_⟩) ?_
  rotate_left 1
  · intro w' hS'; go_simp; try with_reducible rfl
  simp only [Act.put, List.setIfInBounds_toArray, List.set_cons_succ, List.set_cons_zero, List.getElem_toArray, List.getElem_cons_succ, List.getElem_cons_zero]
  refine wpAnyM_take (i := 26) (v := ?_) rfl (by kernel_rfl) (by kernel_rfl) (by kernel_rfl) (by kernel_rfl) (by kernel_rfl) (fun _ _ _ h => h) hS (.inl ⟨by rfl, ?_⟩) ?_
  rotate_left 1
  · intro w' hS'; go_simp; try with_reducible rfl
  simp only [Act.put, List.setIfInBounds_toArray, List.set_cons_succ, List.set_cons_zero, List.getElem_toArray, List.getElem_cons_succ, List.getElem_cons_zero]
  refine wpAnyM_take (i := 27) (v := ?_) rfl (by kernel_rfl) (by kernel_rfl) (by kernel_rfl) (by kernel_rfl) (by kernel_rfl) (fun _ _ _ h => h) hS (.inl ⟨by rfl, ?_⟩) ?_
  rotate_left 1
  · intro w' hS'; go_simp; try with_reducible rfl
  simp only [Act.put, List.setIfInBounds_toArray, List.set_cons_succ, List.set_cons_zero, List.getElem_toArray, List.getElem_cons_succ, List.getElem_cons_zero]
  refine wpAnyM_take (i := 28) (v := ?_) rfl (by kernel_rfl) (by kernel_rfl) (by kernel_rfl) (by kernel_rfl) (by kernel_rfl) (fun _ _ _ h => h) hS (.inl ⟨by rfl, ?_⟩) ?_
  rotate_left 1
  · intro w' hS'; go_simp; try with_reducible rfl
  simp only [Act.put, List.setIfInBounds_toArray, List.set_cons_succ, List.set_cons_zero, List.getElem_toArray, List.getElem_cons_succ, List.getElem_cons_zero]
  clear k0 k1 k2 k3 k4 k5 k6
  refine wpAnyM_one (i := 24) (by kernel_rfl) rfl (by rfl) (fun K hK => ?_)
  go_simp
  refine (H1.out w.drew hS).mono ?_
  rintro e w1 ⟨D, E, rfl, oD, hb⟩
  have hq1 : w.heap.size ≤ w1.heap.size := hb.size
  have hS1 : Below w.heap.size w w1 := hS.trans hb
  replace oD : Own 2 w1 w.heap.size w1.heap.size (.slice D m.z2.length E) (abvL m.z2.length P m.z1) := oD
  clear hb
  refine hK _ _ (.inr hS1) ?_
  try simp only [Act.put, List.setIfInBounds_toArray, List.set_cons_succ, List.set_cons_zero, List.getElem_toArray, List.getElem_cons_succ, List.getElem_cons_zero]
  clear hK K
  refine wpAnyM_one (i := 29) (by kernel_rfl) rfl (by rfl) (fun K hK => ?_)
  go_simp
  refine (HB.out m A1 C1 A2 C2 A3 C3 w1).mono ?_
  rintro e w2 ⟨rfl, hb⟩
  have hq2 := hb.size
  have hS2 : Below w.heap.size w w2 := hS1.trans (hb.mono hq1)
  replace oD := oD.below hb
  clear hb
  refine hK _ _ (.inr hS2) ?_
  try simp only [Act.put, List.setIfInBounds_toArray, List.set_cons_succ, List.set_cons_zero, List.getElem_toArray, List.getElem_cons_succ, List.getElem_cons_zero]
  clear hK K
  refine wpAnyM_one (i := 30) (by kernel_rfl) rfl (by rfl) (fun K hK => ?_)
  go_simp
  refine (H2.out w2 D E hS2 oD.rd).mono ?_
  rintro e w3 ⟨F, G, rfl, oF, hb⟩
  have hq3 := hb.size
  have hS3 : Below w.heap.size w w3 := hS2.trans (hb.mono hS2.size)
  clear hb oD
  refine hK _ _ (.inr hS3) ?_
  try simp only [Act.put, List.setIfInBounds_toArray, List.set_cons_succ, List.set_cons_zero, List.getElem_toArray, List.getElem_cons_succ, List.getElem_cons_zero]
  clear hK K
  refine wpAnyM_take (i := 31) (v := ?_) rfl (by kernel_rfl) (by kernel_rfl) (by kernel_rfl) (by kernel_rfl) (by kernel_rfl) (fun _ _ _ h => h) hS3 (.inl ⟨by rfl, ?_⟩) ?_
  rotate_left 1
  · intro w' hS'; go_simp; try with_reducible rfl
  simp only [Act.put, List.setIfInBounds_toArray, List.set_cons_succ, List.set_cons_zero, List.getElem_toArray, List.getElem_cons_succ, List.getElem_cons_zero]
  refine wpAnyM_take (i := 32) (v := ?_) rfl (by kernel_rfl) (by kernel_rfl) (by kernel_rfl) (by kernel_rfl) (by kernel_rfl) (fun _ _ _ h => h) hS3 (.inl ⟨by rfl, ?_⟩) ?_
  rotate_left 1
  · intro w' hS'; go_simp; try with_reducible rfl
  simp only [Act.put, List.setIfInBounds_toArray, List.set_cons_succ, List.set_cons_zero, List.getElem_toArray, List.getElem_cons_succ, List.getElem_cons_zero]
  refine wpAnyM_pure (i := 33) (v := ?_) rfl (by kernel_rfl) (by kernel_rfl) (by kernel_rfl) (by kernel_rfl) (fun _ _ _ h => h) (.inr hS3) (.inl ⟨by rfl, ?_⟩) ?_
  rotate_left 1
  · intro w' hS'; go_simp; try with_reducible rfl
  simp only [Act.put, List.setIfInBounds_toArray, List.set_cons_succ, List.set_cons_zero, List.getElem_toArray, List.getElem_cons_succ, List.getElem_cons_zero]
  refine wpAnyM_pure (i := 34) (v := ?_) rfl (by kernel_rfl) (by kernel_rfl) (by kernel_rfl) (by kernel_rfl) (fun _ _ _ h => h) (.inr hS3) (.inl ⟨by rfl, ?_⟩) ?_
  rotate_left 1
  · intro w' hS'; go_simp; try with_reducible rfl
  simp only [Act.put, List.setIfInBounds_toArray, List.set_cons_succ, List.set_cons_zero, List.getElem_toArray, List.getElem_cons_succ, List.getElem_cons_zero]
  refine wpAnyM_pure (i := 35) (v := ?_) rfl (by kernel_rfl) (by kernel_rfl) (by kernel_rfl) (by kernel_rfl) (fun _ _ _ h => h) (.inr hS3) (.inl ⟨by rfl, ?_⟩) ?_
  rotate_left 1
  · intro w' hS'; go_simp; try with_reducible rfl
  simp only [Act.put, List.setIfInBounds_toArray, List.set_cons_succ, List.set_cons_zero, List.getElem_toArray, List.getElem_cons_succ, List.getElem_cons_zero]
  refine wpAnyM_pure (i := 36) (v := ?_) rfl (by kernel_rfl) (by kernel_rfl) (by kernel_rfl) (by kernel_rfl) (fun _ _ _ h => h) (.inr hS3) (.inl ⟨by rfl, ?_⟩) ?_
  rotate_left 1
  · intro w' hS'; go_simp; try with_reducible rfl
  simp only [Act.put, List.setIfInBounds_toArray, List.set_cons_succ, List.set_cons_zero, List.getElem_toArray, List.getElem_cons_succ, List.getElem_cons_zero]
  refine wpAnyM_pure (i := 37) (v := ?_) rfl (by kernel_rfl) (by kernel_rfl) (by kernel_rfl) (by kernel_rfl) (fun _ _ _ h => h) (.inr hS3) (.inl ⟨by rfl, ?_⟩) ?_
  rotate_left 1
  · intro w' hS'; go_simp; try with_reducible rfl
  simp only [Act.put, List.setIfInBounds_toArray, List.set_cons_succ, List.set_cons_zero, List.getElem_toArray, List.getElem_cons_succ, List.getElem_cons_zero]
  replace bx := bx.below hS3
  have c3 := bx.at_ 3 rfl
  have f3 := bx.thaw 3
  have c7 := bx.at_ 7 rfl
  have f7 := bx.thaw 7
  refine wpAnyM_one (i := 38) (by kernel_rfl) rfl (by rfl) (fun K hK => ?_)
  go_simp
  obtain ⟨w4, hw4⟩ : ∃ v, v = w3.setCell ⟨p, 3, none⟩ (.slice F m.z2.length G) := ⟨_, rfl⟩
  rw [← hw4]
  have bx4 : Bx w4 p 52 #[.int .i64 m.b1, .slice A1 m.z1.length C1, .int .i64 m.b2, .slice F m.z2.length G, .int .i64 m.b3, .slice A3 m.z3.length C3, .int .i64 m.p, .bool t] := by rw [hw4]; exact bx.set_ 3 _
  have ht4 : Touch p (p + 1) w3 w4 := by rw [hw4]; exact (Touch.refl _ _ _).setCell (by simp) (by simp) _
  refine hK _ _ (.inl rfl) ?_
  try simp only [Act.put, List.setIfInBounds_toArray, List.set_cons_succ, List.set_cons_zero, List.getElem_toArray, List.getElem_cons_succ, List.getElem_cons_zero]
  clear hK K hw4 c3 f3 c7 f7
  refine wpAnyM_pure (i := 39) (v := ?_) rfl (by kernel_rfl) (by kernel_rfl) (by kernel_rfl) (by kernel_rfl) (fun _ _ _ h => h) (.inl rfl) (.inl ⟨by rfl, ?_⟩) ?_
  rotate_left 1
  · intro w' hS'; go_simp; try with_reducible rfl
  simp only [Act.put, List.setIfInBounds_toArray, List.set_cons_succ, List.set_cons_zero, List.getElem_toArray, List.getElem_cons_succ, List.getElem_cons_zero]
  refine wpAnyM_pure (i := 40) (v := ?_) rfl (by kernel_rfl) (by kernel_rfl) (by kernel_rfl) (by kernel_rfl) (fun _ _ _ h => h) (.inl rfl) (.inl ⟨by rfl, ?_⟩) ?_
  rotate_left 1
  · intro w' hS'; go_simp; try with_reducible rfl
  simp only [Act.put, List.setIfInBounds_toArray, List.set_cons_succ, List.set_cons_zero, List.getElem_toArray, List.getElem_cons_succ, List.getElem_cons_zero]
  have c7 := bx4.at_ 7 rfl
  have f7 := bx4.thaw 7
  refine wpAnyM_one (i := 41) (by kernel_rfl) rfl (by rfl) (fun K hK => ?_)
  go_simp
  obtain ⟨w5, hw5⟩ : ∃ v, v = w4.setCell ⟨p, 7, none⟩ (.bool t2) := ⟨_, rfl⟩
  rw [← hw5]
  have bx5 : Bx w5 p 52 #[.int .i64 m.b1, .slice A1 m.z1.length C1, .int .i64 m.b2, .slice F m.z2.length G, .int .i64 m.b3, .slice A3 m.z3.length C3, .int .i64 m.p, .bool t2] := by rw [hw5]; exact bx4.set_ 7 _
  have ht5 : Touch p (p + 1) w4 w5 := by rw [hw5]; exact (Touch.refl _ _ _).setCell (by simp) (by simp) _
  replace ht5 := ht4.trans ht5
  refine hK _ _ (.inl rfl) ?_
  try simp only [Act.put, List.setIfInBounds_toArray, List.set_cons_succ, List.set_cons_zero, List.getElem_toArray, List.getElem_cons_succ, List.getElem_cons_zero]
  clear hK K hw5 c7 f7 bx4 bx ht4
  refine wpAnyM_done (by kernel_rfl) ?_ _
  replace o1 := (o1.below hS3).touch ht5 (by omega)
  replace o3 := (o3.below hS3).touch ht5 (by omega)
  replace oF := oF.touch ht5 (by omega)
  have hq5 := ht5.size
  have hbL : Below L w w5 := (hS3.mono (by omega)).trans (ht5.below hlp (by omega))
  have hs2 := hS2.size
  clear o2 hS hS1 hS2 hS3 ht5 H1 H2
  have k0 := kept_all (bx5.at_ 0 rfl)
  have k1 := kept_all (bx5.at_ 1 rfl)
  have k2 := kept_all (bx5.at_ 2 rfl)
  have k3 := kept_all (bx5.at_ 3 rfl)
  have k4 := kept_all (bx5.at_ 4 rfl)
  have k5 := kept_all (bx5.at_ 5 rfl)
  have k6 := kept_all (bx5.at_ 6 rfl)
  have hF := HF.out
  have hP := HPP.out
  have H1 : Hid (∀ v d e, Below w5.heap.size w5 v → Rd v d [1] → Calls Tryz.prog 88 #[.agg #[.int .i64 m.b1, .slice A1 m.z1.length C1, .int .i64 m.b2, .slice F m.z2.length G, .int .i64 m.b3, .slice A3 m.z3.length C3, .int .i64 m.p], .agg #[.int .i64 m.b3, .slice A3 m.z3.length C3], .slice d 1 e] v fun r w' => ∃ D E, r = .returned (.slice D m.z3.length E) ∧
      Own 2 w' v.heap.size w'.heap.size (.slice D m.z3.length E) (abvL m.z3.length P [1]) ∧ Below v.heap.size v w') :=
    Lib.hid fun v d e _ hd => above_any m A1 C1 F G A3 C3 m.b3 A3 m.z3.length C3 P d e [1] v hP hd (by simpa using hF.2.2.2.1) hF.2.2.1 (by simp)
  have H2 : Hid (∀ v D E, Below w5.heap.size w5 v → Rd v D (abvL m.z3.length P [1]) → Calls Tryz.prog 51 #[.slice A3 m.z3.length C3, .slice D m.z3.length E, .int .i64 m.b1] v (RowB X3 t3 m.z3.length v)) :=
    Lib.hid fun v D E hb hd => by
      rw [HHX3.out, HHT3.out]
      exact turnOn_any m.b1 A3 D C3 E m.z3 (abvL m.z3.length P [1]) v (o3.rd.below hb) hd hF.1 hF.2.1 hF.2.2.1 (abvL_len (by simpa using hF.2.2.2.1)) hF.2.2.2.2 (abvL_digs (by omega) (fun d hd => by simp at hd; subst hd; omega) _ _)
  clear hF hP
  go_upto_region 1 with fail
  refine wp_region_marked (fun w' => Below w5.heap.size w5 w') 32 (by kernel_rfl) ?_
  have hS : Below w5.heap.size w5 w5.drew := (Below.refl _ _).drew
  refine wpAnyM_take (i := 0) (v := ?_) rfl (by kernel_rfl) (by kernel_rfl) (by kernel_rfl) (by kernel_rfl) (by kernel_rfl) (fun _ _ _ h => h) hS (.inl ⟨by rfl, ?_⟩) ?_
  rotate_left 1
  · intro w' hS'; go_simp; try with_reducible rfl
  simp only [Act.put, List.setIfInBounds_toArray, List.set_cons_succ, List.set_cons_zero, List.getElem_toArray, List.getElem_cons_zero]
  refine wpAnyM_take (i := 1) (v := ?_) rfl (by kernel_rfl) (by kernel_rfl) (by kernel_rfl) (by kernel_rfl) (by kernel_rfl) (fun _ _ _ h => h) hS (.inl ⟨by rfl, ?_⟩) ?_
  rotate_left 1
  · intro w' hS'; go_simp; try with_reducible rfl
  simp only [Act.put, List.setIfInBounds_toArray, List.set_cons_succ, List.set_cons_zero, List.getElem_toArray, List.getElem_cons_succ, List.getElem_cons_zero]
  refine wpAnyM_take (i := 2) (v := ?_) rfl (by kernel_rfl) (by kernel_rfl) (by kernel_rfl) (by kernel_rfl) (by kernel_rfl) (fun _ _ _ h => h) hS (.inl ⟨by rfl, ?_⟩) ?_
  rotate_left 1
  · intro w' hS'; go_simp; try with_reducible rfl
  simp only [Act.put, List.setIfInBounds_toArray, List.set_cons_succ, List.set_cons_zero, List.getElem_toArray, List.getElem_cons_succ, List.getElem_cons_zero]
  refine wpAnyM_take (i := 3) (v := ?_) rfl (by kernel_rfl) (by kernel_rfl) (by kernel_rfl) (by kernel_rfl) (by kernel_rfl) (fun _ _ _ h => h) hS (.inl ⟨by rfl, ?_⟩) ?_
  rotate_left 1
  · intro w' hS'; go_simp; try with_reducible rfl
  simp only [Act.put, List.setIfInBounds_toArray, List.set_cons_succ, List.set_cons_zero, List.getElem_toArray, List.getElem_cons_succ, List.getElem_cons_zero]
  refine wpAnyM_take (i := 4) (v := ?_) rfl (by kernel_rfl) (by kernel_rfl) (by kernel_rfl) (by kernel_rfl) (by kernel_rfl) (fun _ _ _ h => h) hS (.inl ⟨by rfl, ?_⟩) ?_
  rotate_left 1
  · intro w' hS'; go_simp; try with_reducible rfl
  simp only [Act.put, List.setIfInBounds_toArray, List.set_cons_succ, List.set_cons_zero, List.getElem_toArray, List.getElem_cons_succ, List.getElem_cons_zero]
  refine wpAnyM_take (i := 5) (v := ?_) rfl (by kernel_rfl) (by kernel_rfl) (by kernel_rfl) (by kernel_rfl) (by kernel_rfl) (fun _ _ _ h => h) hS (.inl ⟨by rfl, ?_⟩) ?_
  rotate_left 1
  · intro w' hS'; go_simp; try with_reducible rfl
  simp only [Act.put, List.setIfInBounds_toArray, List.set_cons_succ, List.set_cons_zero, List.getElem_toArray, List.getElem_cons_succ, List.getElem_cons_zero]
  refine wpAnyM_take (i := 6) (v := ?_) rfl (by kernel_rfl) (by kernel_rfl) (by kernel_rfl) (by kernel_rfl) (by kernel_rfl) (fun _ _ _ h => h) hS (.inl ⟨by rfl, ?_⟩) ?_
  rotate_left 1
  · intro w' hS'; go_simp; try with_reducible rfl
  simp only [Act.put, List.setIfInBounds_toArray, List.set_cons_succ, List.set_cons_zero, List.getElem_toArray, List.getElem_cons_succ, List.getElem_cons_zero]
  refine wpAnyM_take (i := 7) (v := ?_) rfl (by kernel_rfl) (by kernel_rfl) (by kernel_rfl) (by kernel_rfl) (by kernel_rfl) (fun _ _ _ h => h) hS (.inl ⟨by rfl, ?_⟩) ?_
  rotate_left 1
  · intro w' hS'; go_simp; try with_reducible rfl
  simp only [Act.put, List.setIfInBounds_toArray, List.set_cons_succ, List.set_cons_zero, List.getElem_toArray, List.getElem_cons_succ, List.getElem_cons_zero]
  refine wpAnyM_take (i := 8) (v := ?_) rfl (by kernel_rfl) (by kernel_rfl) (by kernel_rfl) (by kernel_rfl) (by kernel_rfl) (fun _ _ _ h => h) hS (.inl ⟨by rfl, ?_⟩) ?_
  rotate_left 1
  · intro w' hS'; go_simp; try with_reducible rfl
  simp only [Act.put, List.setIfInBounds_toArray, List.set_cons_succ, List.set_cons_zero, List.getElem_toArray, List.getElem_cons_succ, List.getElem_cons_zero]
  refine wpAnyM_take (i := 9) (v := ?_) rfl (by kernel_rfl) (by kernel_rfl) (by kernel_rfl) (by kernel_rfl) (by kernel_rfl) (fun _ _ _ h => h) hS (.inl ⟨by rfl, ?_⟩) ?_
  rotate_left 1
  · intro w' hS'; go_simp; try with_reducible rfl
  simp only [Act.put, List.setIfInBounds_toArray, List.set_cons_succ, List.set_cons_zero, List.getElem_toArray, List.getElem_cons_succ, List.getElem_cons_zero]
  refine wpAnyM_take (i := 10) (v := ?_) rfl (by kernel_rfl) (by kernel_rfl) (by kernel_rfl) (by kernel_rfl) (by kernel_rfl) (fun _ _ _ h => h) hS (.inl ⟨by rfl, ?_⟩) ?_
  rotate_left 1
  · intro w' hS'; go_simp; try with_reducible rfl
  simp only [Act.put, List.setIfInBounds_toArray, List.set_cons_succ, List.set_cons_zero, List.getElem_toArray, List.getElem_cons_succ, List.getElem_cons_zero]
  refine wpAnyM_take (i := 11) (v := ?_) rfl (by kernel_rfl) (by kernel_rfl) (by kernel_rfl) (by kernel_rfl) (by kernel_rfl) (fun _ _ _ h => h) hS (.inl ⟨by rfl, ?_⟩) ?_
  rotate_left 1
  · intro w' hS'; go_simp; try with_reducible rfl
  simp only [Act.put, List.setIfInBounds_toArray, List.set_cons_succ, List.set_cons_zero, List.getElem_toArray, List.getElem_cons_succ, List.getElem_cons_zero]
  refine wpAnyM_take (i := 12) (v := ?_) rfl (by kernel_rfl) (by kernel_rfl) (by kernel_rfl) (by kernel_rfl) (by kernel_rfl) (fun _ _ _ h => h) hS (.inl ⟨by rfl, ?_⟩) ?_
  rotate_left 1
  · intro w' hS'; go_simp; try with_reducible rfl
  simp only [Act.put, List.setIfInBounds_toArray, List.set_cons_succ, List.set_cons_zero, List.getElem_toArray, List.getElem_cons_succ, List.getElem_cons_zero]
  refine wpAnyM_take (i := 13) (v := ?_) rfl (by kernel_rfl) (by kernel_rfl) (by kernel_rfl) (by kernel_rfl) (by kernel_rfl) (fun _ _ _ h => h) hS (.inl ⟨by rfl, ?_⟩) ?_
  rotate_left 1
  · intro w' hS'; go_simp; try with_reducible rfl
  simp only [Act.put, List.setIfInBounds_toArray, List.set_cons_succ, List.set_cons_zero, List.getElem_toArray, List.getElem_cons_succ, List.getElem_cons_zero]
  refine wpAnyM_take (i := 14) (v := ?_) rfl (by kernel_rfl) (by kernel_rfl) (by kernel_rfl) (by kernel_rfl) (by kernel_rfl) (fun _ _ _ h => h) hS (.inl ⟨by rfl, ?_⟩) ?_
  rotate_left 1
  · intro w' hS'; go_simp; try with_reducible rfl
  simp only [Act.put, List.setIfInBounds_toArray, List.set_cons_succ, List.set_cons_zero, List.getElem_toArray, List.getElem_cons_succ, List.getElem_cons_zero]
  refine wpAnyM_take (i := 15) (v := ?_) rfl (by kernel_rfl) (by kernel_rfl) (by kernel_rfl) (by kernel_rfl) (by kernel_rfl) (fun _ _ _ h => h) hS (.inl ⟨by rfl, ?_⟩) ?_
  rotate_left 1
  · intro w' hS'; go_simp; try with_reducible rfl
  simp only [Act.put, List.setIfInBounds_toArray, List.set_cons_succ, List.set_cons_zero, List.getElem_toArray, List.getElem_cons_succ, List.getElem_cons_zero]
  refine wpAnyM_take (i := 16) (v := ?_) rfl (by kernel_rfl) (by kernel_rfl) (by kernel_rfl) (by kernel_rfl) (by kernel_rfl) (fun _ _ _ h => h) hS (.inl ⟨by rfl, ?_⟩) ?_
  rotate_left 1
  · intro w' hS'; go_simp; try with_reducible rfl
  simp only [Act.put, List.setIfInBounds_toArray, List.set_cons_succ, List.set_cons_zero, List.getElem_toArray, List.getElem_cons_succ, List.getElem_cons_zero]
  refine wpAnyM_take (i := 19) (v := ?_) rfl (by kernel_rfl) (by kernel_rfl) (by kernel_rfl) (by kernel_rfl) (by kernel_rfl) (fun _ _ _ h => h) hS (.inl ⟨by rfl, ?_⟩) ?_
  rotate_left 1
  · intro w' hS'; go_simp; try with_reducible rfl
  simp only [Act.put, List.setIfInBounds_toArray, List.set_cons_succ, List.set_cons_zero, List.getElem_toArray, List.getElem_cons_succ, List.getElem_cons_zero]
  refine wpAnyM_take (i := 20) (v := ?_) rfl (by kernel_rfl) (by kernel_rfl) (by kernel_rfl) (by kernel_rfl) (by kernel_rfl) (fun _ _ _ h => h) hS (.inl ⟨by rfl, ?_⟩) ?_
  rotate_left 1
  · intro w' hS'; go_simp; try with_reducible rfl
  simp only [Act.put, List.setIfInBounds_toArray, List.set_cons_succ, List.set_cons_zero, List.getElem_toArray, List.getElem_cons_succ, List.getElem_cons_zero]
  refine wpAnyM_take (i := 21) (v := ?_) rfl (by kernel_rfl) (by kernel_rfl) (by kernel_rfl) (by kernel_rfl) (by kernel_rfl) (fun _ _ _ h => h) hS (.inl ⟨by rfl, ?_⟩) ?_
  rotate_left 1
  · intro w' hS'; go_simp; try with_reducible rfl
  simp only [Act.put, List.setIfInBounds_toArray, List.set_cons_succ, List.set_cons_zero, List.getElem_toArray, List.getElem_cons_succ, List.getElem_cons_zero]
  refine wpAnyM_take (i := 22) (v := ?_) rfl (by kernel_rfl) (by kernel_rfl) (by kernel_rfl) (by kernel_rfl) (by kernel_rfl) (fun _ _ _ h => h) hS (.inl ⟨by rfl, ?_⟩) ?_
  rotate_left 1
  · intro w' hS'; go_simp; try with_reducible rfl
  simp only [Act.put, List.setIfInBounds_toArray, List.set_cons_succ, List.set_cons_zero, List.getElem_toArray, List.getElem_cons_succ, List.getElem_cons_zero]
  clear k0 k1 k2 k3 k4 k5 k6
  refine wpAnyM_one (i := 17) (by kernel_rfl) rfl (by rfl) (fun K hK => ?_)
  go_simp
  obtain ⟨c, hc⟩ : ∃ c, c = w5.heap.size := ⟨_, rfl⟩
  obtain ⟨w6, hw6⟩ : ∃ v, v = w5.drew.alloc (.cells #[.int .i64 1] 2) := ⟨_, rfl⟩
  have hdig : Rd w6 (some ⟨c, 0, none⟩) [1] := by rw [hw6, hc]; exact rd_new1 w5.drew 1 _
  have hS6 : Below w5.heap.size w5 w6 := by rw [hw6]; exact hS.alloc (Nat.le_refl _) _
  first | rw [← hw6] | (rw [show (w5.alloc (.cells #[.int .i64 1] 2)).drew = w6 from hw6.symm])
  try rw [← hc]
  have hq6 := hS6.size
  clear hw6 hc
  refine hK _ _ (.inr hS6) ?_
  try simp only [Act.put, List.setIfInBounds_toArray, List.set_cons_succ, List.set_cons_zero, List.getElem_toArray, List.getElem_cons_succ, List.getElem_cons_zero]
  clear hK K
  refine wpAnyM_one (i := 18) (by kernel_rfl) rfl (by rfl) (fun K hK => ?_)
  go_simp
  refine (H1.out w6 _ _ hS6 hdig).mono ?_
  rintro e w7 ⟨D, E, rfl, oD, hb⟩
  have hq7 := hb.size
  have hS7 : Below w5.heap.size w5 w7 := hS6.trans (hb.mono hq6)
  clear hb
  refine hK _ _ (.inr hS7) ?_
  try simp only [Act.put, List.setIfInBounds_toArray, List.set_cons_succ, List.set_cons_zero, List.getElem_toArray, List.getElem_cons_succ, List.getElem_cons_zero]
  clear hK K
  refine wpAnyM_one (i := 23) (by kernel_rfl) rfl (by rfl) (fun K hK => ?_)
  go_simp
  refine (HB.out m A1 C1 F G A3 C3 w7).mono ?_
  rintro e w8 ⟨rfl, hb⟩
  have hq8 := hb.size
  have hS8 : Below w5.heap.size w5 w8 := hS7.trans (hb.mono hS7.size)
  replace oD := oD.below hb
  clear hb
  refine hK _ _ (.inr hS8) ?_
  try simp only [Act.put, List.setIfInBounds_toArray, List.set_cons_succ, List.set_cons_zero, List.getElem_toArray, List.getElem_cons_succ, List.getElem_cons_zero]
  clear hK K
  refine wpAnyM_one (i := 24) (by kernel_rfl) rfl (by rfl) (fun K hK => ?_)
  go_simp
  refine (H2.out w8 D E hS8 oD.rd).mono ?_
  rintro e w9 ⟨M, N, rfl, oM, hb⟩
  have hq9 := hb.size
  have hS9 : Below w5.heap.size w5 w9 := hS8.trans (hb.mono hS8.size)
  clear hb oD
  refine hK _ _ (.inr hS9) ?_
  try simp only [Act.put, List.setIfInBounds_toArray, List.set_cons_succ, List.set_cons_zero, List.getElem_toArray, List.getElem_cons_succ, List.getElem_cons_zero]
  clear hK K
  refine wpAnyM_take (i := 25) (v := ?_) rfl (by kernel_rfl) (by kernel_rfl) (by kernel_rfl) (by kernel_rfl) (by kernel_rfl) (fun _ _ _ h => h) hS9 (.inl ⟨by rfl, ?_⟩) ?_
  rotate_left 1
  · intro w' hS'; go_simp; try with_reducible rfl
  simp only [Act.put, List.setIfInBounds_toArray, List.set_cons_succ, List.set_cons_zero, List.getElem_toArray, List.getElem_cons_succ, List.getElem_cons_zero]
  refine wpAnyM_take (i := 26) (v := ?_) rfl (by kernel_rfl) (by kernel_rfl) (by kernel_rfl) (by kernel_rfl) (by kernel_rfl) (fun _ _ _ h => h) hS9 (.inl ⟨by rfl, ?_⟩) ?_
  rotate_left 1
  · intro w' hS'; go_simp; try with_reducible rfl
  simp only [Act.put, List.setIfInBounds_toArray, List.set_cons_succ, List.set_cons_zero, List.getElem_toArray, List.getElem_cons_succ, List.getElem_cons_zero]
  refine wpAnyM_pure (i := 27) (v := ?_) rfl (by kernel_rfl) (by kernel_rfl) (by kernel_rfl) (by kernel_rfl) (fun _ _ _ h => h) (.inr hS9) (.inl ⟨by rfl, ?_⟩) ?_
  rotate_left 1
  · intro w' hS'; go_simp; try with_reducible rfl
  simp only [Act.put, List.setIfInBounds_toArray, List.set_cons_succ, List.set_cons_zero, List.getElem_toArray, List.getElem_cons_succ, List.getElem_cons_zero]
  refine wpAnyM_pure (i := 28) (v := ?_) rfl (by kernel_rfl) (by kernel_rfl) (by kernel_rfl) (by kernel_rfl) (fun _ _ _ h => h) (.inr hS9) (.inl ⟨by rfl, ?_⟩) ?_
  rotate_left 1
  · intro w' hS'; go_simp; try with_reducible rfl
  simp only [Act.put, List.setIfInBounds_toArray, List.set_cons_succ, List.set_cons_zero, List.getElem_toArray, List.getElem_cons_succ, List.getElem_cons_zero]
  refine wpAnyM_pure (i := 29) (v := ?_) rfl (by kernel_rfl) (by kernel_rfl) (by kernel_rfl) (by kernel_rfl) (fun _ _ _ h => h) (.inr hS9) (.inl ⟨by rfl, ?_⟩) ?_
  rotate_left 1
  · intro w' hS'; go_simp; try with_reducible rfl
  simp only [Act.put, List.setIfInBounds_toArray, List.set_cons_succ, List.set_cons_zero, List.getElem_toArray, List.getElem_cons_succ, List.getElem_cons_zero]
  refine wpAnyM_pure (i := 30) (v := ?_) rfl (by kernel_rfl) (by kernel_rfl) (by kernel_rfl) (by kernel_rfl) (fun _ _ _ h => h) (.inr hS9) (.inl ⟨by rfl, ?_⟩) ?_
  rotate_left 1
  · intro w' hS'; go_simp; try with_reducible rfl
  simp only [Act.put, List.setIfInBounds_toArray, List.set_cons_succ, List.set_cons_zero, List.getElem_toArray, List.getElem_cons_succ, List.getElem_cons_zero]
  refine wpAnyM_pure (i := 31) (v := ?_) rfl (by kernel_rfl) (by kernel_rfl) (by kernel_rfl) (by kernel_rfl) (fun _ _ _ h => h) (.inr hS9) (.inl ⟨by rfl, ?_⟩) ?_
  rotate_left 1
  · intro w' hS'; go_simp; try with_reducible rfl
  simp only [Act.put, List.setIfInBounds_toArray, List.set_cons_succ, List.set_cons_zero, List.getElem_toArray, List.getElem_cons_succ, List.getElem_cons_zero]
  replace bx5 := bx5.below hS9
  have c5 := bx5.at_ 5 rfl
  have f5 := bx5.thaw 5
  refine wpAnyM_one (i := 32) (by kernel_rfl) rfl (by rfl) (fun K hK => ?_)
  go_simp
  obtain ⟨v4, hw4⟩ : ∃ v, v = w9.setCell ⟨p, 5, none⟩ (.slice M m.z3.length N) := ⟨_, rfl⟩
  rw [← hw4]
  have bx6 : Bx v4 p 52 #[.int .i64 m.b1, .slice A1 m.z1.length C1, .int .i64 m.b2, .slice F m.z2.length G, .int .i64 m.b3, .slice M m.z3.length N, .int .i64 m.p, .bool t2] := by rw [hw4]; exact bx5.set_ 5 _
  have ht4 : Touch p (p + 1) w9 v4 := by rw [hw4]; exact (Touch.refl _ _ _).setCell (by simp) (by simp) _
  refine hK _ _ (.inl rfl) ?_
  try simp only [Act.put, List.setIfInBounds_toArray, List.set_cons_succ, List.set_cons_zero, List.getElem_toArray, List.getElem_cons_succ, List.getElem_cons_zero]
  clear hK K hw4 c5 f5 bx5
  refine wpAnyM_done (by kernel_rfl) ?_ _
  have hsz5 : w3.heap.size ≤ w5.heap.size := hq5
  have hs8 := hS8.size
  replace o1 := (o1.below hS9).touch ht4 (by omega)
  replace oF := (oF.below hS9).touch ht4 (by omega)
  replace oM := oM.touch ht4 (by omega)
  have hq10 := ht4.size
  have hbF : Below L w v4 := (hbL.trans (hS9.mono (by omega))).trans (ht4.below hlp (by omega))
  have HW : Hid (WkE v4 L p (trnM m 1)) := Lib.hid (by
    rw [HT.out]
    refine ⟨A1, C1, F, G, M, N, ?_, hlp, l1, h1, _, _, _, _, o1, by rw [HX2.out]; exact oF, by rw [HX3.out]; exact oM, ?_⟩
    · rw [HX2.out, HX3.out]; exact bx6
    · omega)
  clear o1 o3 oF oM ht4 bx6 hS hS6 hS7 hS8 hS9 H1 H2
  go_wp2
  go_end0
  exact ⟨rfl, HW.out, hbF⟩

set_option maxRecDepth 100000 in
set_option maxHeartbeats 8000000 in
theorem crank_turnBack (L p : Nat) (m : Mac) (t : Bool) (A1 : Option Addr) (C1 : Nat) (A2 : Option Addr) (C2 : Nat) (A3 : Option Addr) (C3 : Nat) (w : World) (hk : Wk w L p m t A1 C1 A2 C2 A3 C3) (hm : macB m = true) :
    Calls Tryz.prog 50 #[.pointer (some ⟨p, 0, none⟩), .func (.func 52) #[] #[]] w fun e w' => e = .returned (.tuple #[]) ∧ WkE w' L p (trnM m (-1)) ∧ Below L w w' := by
  obtain ⟨e2, e3, b0, b1, n0, n12, n2, n3, n4, p0, p1, p2, d1, d2, d3⟩ := macB_facts hm
  obtain ⟨P, hP⟩ := Int.eq_ofNat_of_zero_le p0
  obtain ⟨l1, h1, l2, h2, l3, h3, o1, o2, o3, s⟩ := hk.ex
  have bx := hk.bx
  have hlp := hk.lp
  have hpl := bx.lt
  have HT := Lib.hid (trn_abv m (-1) P hP e2 e3)
  obtain ⟨X2, hX2⟩ : ∃ X, X = movZ m.b1 m.z2 (-valR m.b1 (abvL m.z2.length P m.z1)) := ⟨_, rfl⟩
  obtain ⟨t2, ht2⟩ : ∃ X, X = movO m.b1 m.z2 (-valR m.b1 (abvL m.z2.length P m.z1)) := ⟨_, rfl⟩
  obtain ⟨X3, hX3⟩ : ∃ X, X = movZ m.b1 m.z3 (-valR m.b1 (abvL m.z3.length P [1])) := ⟨_, rfl⟩
  obtain ⟨t3, ht3⟩ : ∃ X, X = movO m.b1 m.z3 (-valR m.b1 (abvL m.z3.length P [1])) := ⟨_, rfl⟩
  replace HT : Hid (trnM m (-1) = (⟨m.b1, m.z1, m.b2, X2, m.b3, X3, m.p⟩, t2)) := Lib.hid (by rw [HT.out, hX2, ht2, hX3]; simp only [Int.neg_mul, Int.one_mul])
  have HX2 := Lib.hid (show X2.length = m.z2.length by rw [hX2]; exact movZ_len _ _ _)
  have HX3 := Lib.hid (show X3.length = m.z3.length by rw [hX3]; exact movZ_len _ _ _)
  have H1 : Hid (∀ v, Below w.heap.size w v → Calls Tryz.prog 88 #[.agg #[.int .i64 m.b1, .slice A1 m.z1.length C1, .int .i64 m.b2, .slice A2 m.z2.length C2, .int .i64 m.b3, .slice A3 m.z3.length C3, .int .i64 m.p], .agg #[.int .i64 m.b2, .slice A2 m.z2.length C2], .slice A1 m.z1.length C1] v fun r w' => ∃ D E, r = .returned (.slice D m.z2.length E) ∧
      Own 2 w' v.heap.size w'.heap.size (.slice D m.z2.length E) (abvL m.z2.length P m.z1) ∧ Below v.heap.size v w') :=
    Lib.hid fun v hb => above_any m A1 C1 A2 C2 A3 C3 m.b2 A2 m.z2.length C2 P A1 C1 m.z1 v hP (o1.rd.below hb) (by omega) n2 n0
  have H2 : Hid (∀ v D E, Below w.heap.size w v → Rd v D (abvL m.z2.length P m.z1) → Calls Tryz.prog 52 #[.slice A2 m.z2.length C2, .slice D m.z2.length E, .int .i64 m.b1] v (RowB X2 t2 m.z2.length v)) :=
    Lib.hid fun v D E hb hd => by
      rw [hX2, ht2]
      exact turnBack_any m.b1 A2 D C2 E m.z2 (abvL m.z2.length P m.z1) v (o2.rd.below hb) hd b0 b1 n2 (abvL_len (by omega)) d2 (abvL_digs (by omega) d1 _ _)
  have HB := Lib.hid (fun (m : Mac) (A1 : Option Addr) (C1 : Nat) (A2 : Option Addr) (C2 : Nat) (A3 : Option Addr) (C3 : Nat) v => mBase_any m A1 C1 A2 C2 A3 C3 v)
  have k0 := kept_all (bx.at_ 0 rfl)
  have k1 := kept_all (bx.at_ 1 rfl)
  have k2 := kept_all (bx.at_ 2 rfl)
  have k3 := kept_all (bx.at_ 3 rfl)
  have k4 := kept_all (bx.at_ 4 rfl)
  have k5 := kept_all (bx.at_ 5 rfl)
  have k6 := kept_all (bx.at_ 6 rfl)
  have HF := Lib.hid (show 2 ≤ m.b1 ∧ m.b1 ≤ 16 ∧ m.z3.length ≤ 16 ∧ P + 1 ≤ m.z3.length ∧ DigsM m.b1 m.z3 from ⟨b0, b1, n4, by omega, d3⟩)
  have HHX3 := Lib.hid hX3
  have HHT3 := Lib.hid ht3
  have HPP := Lib.hid hP
  have e2' := Lib.hid e2
  clear e2 e3 b0 b1 n0 n12 n2 n3 n4 p0 p1 p2 d1 d2 d3 hP hX2 ht2 hX3 ht3 hk hm
  go_enter Tryz.func50, Tryz.ntmps50
  go_upto_region 0 with fail
  refine wp_region_marked (fun w' => Below w.heap.size w w') 38 (by kernel_rfl) ?_
  have hS : Below w.heap.size w w.drew := (Below.refl _ _).drew
  refine wpAnyM_take (i := 0) (v := ?_) rfl (by kernel_rfl) (by kernel_rfl) (by kernel_rfl) (by kernel_rfl) (by kernel_rfl) (fun _ _ _ h => h) hS (.inl ⟨by rfl, ?_⟩) ?_
  rotate_left 1
  · intro w' hS'; go_simp; try with_reducible rfl
  simp only [Act.put, List.setIfInBounds_toArray, List.set_cons_succ, List.set_cons_zero, List.getElem_toArray, List.getElem_cons_zero]
  refine wpAnyM_pure (i := 1) (v := ?_) rfl (by kernel_rfl) (by kernel_rfl) (by kernel_rfl) (by kernel_rfl) (fun _ _ _ h => h) (.inr hS) (.inl ⟨by rfl, ?_⟩) ?_
  rotate_left 1
  · intro w' hS'; go_simp; try with_reducible rfl
  simp only [Act.put, List.setIfInBounds_toArray, List.set_cons_succ, List.set_cons_zero, List.getElem_toArray, List.getElem_cons_succ, List.getElem_cons_zero]
  refine wpAnyM_take (i := 2) (v := ?_) rfl (by kernel_rfl) (by kernel_rfl) (by kernel_rfl) (by kernel_rfl) (by kernel_rfl) (fun _ _ _ h => h) hS (.inl ⟨by rfl, ?_⟩) ?_
  rotate_left 1
  · intro w' hS'; go_simp; try with_reducible rfl
  simp only [Act.put, List.setIfInBounds_toArray, List.set_cons_succ, List.set_cons_zero, List.getElem_toArray, List.getElem_cons_succ, List.getElem_cons_zero]
  refine wpAnyM_take (i := 3) (v := ?_) rfl (by kernel_rfl) (by kernel_rfl) (by kernel_rfl) (by kernel_rfl) (by kernel_rfl) (fun _ _ _ h => h) hS (.inl ⟨by rfl, ?_⟩) ?_
  rotate_left 1
  · intro w' hS'; go_simp; try with_reducible rfl
  simp only [Act.put, List.setIfInBounds_toArray, List.set_cons_succ, List.set_cons_zero, List.getElem_toArray, List.getElem_cons_succ, List.getElem_cons_zero]
  refine wpAnyM_take (i := 4) (v := ?_) rfl (by kernel_rfl) (by kernel_rfl) (by kernel_rfl) (by kernel_rfl) (by kernel_rfl) (fun _ _ _ h => h) hS (.inl ⟨by rfl, ?_⟩) ?_
  rotate_left 1
  · intro w' hS'; go_simp; try with_reducible rfl
  simp only [Act.put, List.setIfInBounds_toArray, List.set_cons_succ, List.set_cons_zero, List.getElem_toArray, List.getElem_cons_succ, List.getElem_cons_zero]
  refine wpAnyM_take (i := 5) (v := ?_) rfl (by kernel_rfl) (by kernel_rfl) (by kernel_rfl) (by kernel_rfl) (by kernel_rfl) (fun _ _ _ h => h) hS (.inl ⟨by rfl, ?_⟩) ?_
  rotate_left 1
  · intro w' hS'; go_simp; try with_reducible rfl
  simp only [Act.put, List.setIfInBounds_toArray, List.set_cons_succ, List.set_cons_zero, List.getElem_toArray, List.getElem_cons_succ, List.getElem_cons_zero]
  refine wpAnyM_take (i := 6) (v := ?_) rfl (by kernel_rfl) (by kernel_rfl) (by kernel_rfl) (by kernel_rfl) (by kernel_rfl) (fun _ _ _ h => h) hS (.inl ⟨by rfl, ?_⟩) ?_
  rotate_left 1
  · intro w' hS'; go_simp; try with_reducible rfl
  simp only [Act.put, List.setIfInBounds_toArray, List.set_cons_succ, List.set_cons_zero, List.getElem_toArray, List.getElem_cons_succ, List.getElem_cons_zero]
  refine wpAnyM_take (i := 7) (v := ?_) rfl (by kernel_rfl) (by kernel_rfl) (by kernel_rfl) (by kernel_rfl) (by kernel_rfl) (fun _ _ _ h => h) hS (.inl ⟨by rfl, ?_⟩) ?_
  rotate_left 1
  · intro w' hS'; go_simp; try with_reducible rfl
  simp only [Act.put, List.setIfInBounds_toArray, List.set_cons_succ, List.set_cons_zero, List.getElem_toArray, List.getElem_cons_succ, List.getElem_cons_zero]
  refine wpAnyM_take (i := 8) (v := ?_) rfl (by kernel_rfl) (by kernel_rfl) (by kernel_rfl) (by kernel_rfl) (by kernel_rfl) (fun _ _ _ h => h) hS (.inl ⟨by rfl, ?_⟩) ?_
  rotate_left 1
  · intro w' hS'; go_simp; try with_reducible rfl
  simp only [Act.put, List.setIfInBounds_toArray, List.set_cons_succ, List.set_cons_zero, List.getElem_toArray, List.getElem_cons_succ, List.getElem_cons_zero]
  refine wpAnyM_take (i := 9) (v := ?_) rfl (by kernel_rfl) (by kernel_rfl) (by kernel_rfl) (by kernel_rfl) (by kernel_rfl) (fun _ _ _ h => h) hS (.inl ⟨by rfl, ?_⟩) ?_
  rotate_left 1
  · intro w' hS'; go_simp; try with_reducible rfl
  simp only [Act.put, List.setIfInBounds_toArray, List.set_cons_succ, List.set_cons_zero, List.getElem_toArray, List.getElem_cons_succ, List.getElem_cons_zero]
  refine wpAnyM_take (i := 10) (v := ?_) rfl (by kernel_rfl) (by kernel_rfl) (by kernel_rfl) (by kernel_rfl) (by kernel_rfl) (fun _ _ _ h => h) hS (.inl ⟨by rfl, ?_⟩) ?_
  rotate_left 1
  · intro w' hS'; go_simp; try with_reducible rfl
  simp only [Act.put, List.setIfInBounds_toArray, List.set_cons_succ, List.set_cons_zero, List.getElem_toArray, List.getElem_cons_succ, List.getElem_cons_zero]
  refine wpAnyM_take (i := 11) (v := ?_) rfl (by kernel_rfl) (by kernel_rfl) (by kernel_rfl) (by kernel_rfl) (by kernel_rfl) (fun _ _ _ h => h) hS (.inl ⟨by rfl, ?_⟩) ?_
  rotate_left 1
  · intro w' hS'; go_simp; try with_reducible rfl
  simp only [Act.put, List.setIfInBounds_toArray, List.set_cons_succ, List.set_cons_zero, List.getElem_toArray, List.getElem_cons_succ, List.getElem_cons_zero]
  refine wpAnyM_take (i := 12) (v := ?_) rfl (by kernel_rfl) (by kernel_rfl) (by kernel_rfl) (by kernel_rfl) (by kernel_rfl) (fun _ _ _ h => h) hS (.inl ⟨by rfl, ?_⟩) ?_
  rotate_left 1
  · intro w' hS'; go_simp; try with_reducible rfl
  simp only [Act.put, List.setIfInBounds_toArray, List.set_cons_succ, List.set_cons_zero, List.getElem_toArray, List.getElem_cons_succ, List.getElem_cons_zero]
  refine wpAnyM_take (i := 13) (v := ?_) rfl (by kernel_rfl) (by kernel_rfl) (by kernel_rfl) (by kernel_rfl) (by kernel_rfl) (fun _ _ _ h => h) hS (.inl ⟨by rfl, ?_⟩) ?_
  rotate_left 1
  · intro w' hS'; go_simp; try with_reducible rfl
  simp only [Act.put, List.setIfInBounds_toArray, List.set_cons_succ, List.set_cons_zero, List.getElem_toArray, List.getElem_cons_succ, List.getElem_cons_zero]
  refine wpAnyM_take (i := 14) (v := ?_) rfl (by kernel_rfl) (by kernel_rfl) (by kernel_rfl) (by kernel_rfl) (by kernel_rfl) (fun _ _ _ h => h) hS (.inl ⟨by rfl, ?_⟩) ?_
  rotate_left 1
  · intro w' hS'; go_simp; try with_reducible rfl
  simp only [Act.put, List.setIfInBounds_toArray, List.set_cons_succ, List.set_cons_zero, List.getElem_toArray, List.getElem_cons_succ, List.getElem_cons_zero]
  refine wpAnyM_take (i := 15) (v := ?_) rfl (by kernel_rfl) (by kernel_rfl) (by kernel_rfl) (by kernel_rfl) (by kernel_rfl) (fun _ _ _ h => h) hS (.inl ⟨by rfl, ?_⟩) ?_
  rotate_left 1
  · intro w' hS'; go_simp; try with_reducible rfl
  simp only [Act.put, List.setIfInBounds_toArray, List.set_cons_succ, List.set_cons_zero, List.getElem_toArray, List.getElem_cons_succ, List.getElem_cons_zero]
  refine wpAnyM_take (i := 16) (v := ?_) rfl (by kernel_rfl) (by kernel_rfl) (by kernel_rfl) (by kernel_rfl) (by kernel_rfl) (fun _ _ _ h => h) hS (.inl ⟨by rfl, ?_⟩) ?_
  rotate_left 1
  · intro w' hS'; go_simp; try with_reducible rfl
  simp only [Act.put, List.setIfInBounds_toArray, List.set_cons_succ, List.set_cons_zero, List.getElem_toArray, List.getElem_cons_succ, List.getElem_cons_zero]
  refine wpAnyM_take (i := 17) (v := ?_) rfl (by kernel_rfl) (by kernel_rfl) (by kernel_rfl) (by kernel_rfl) (by kernel_rfl) (fun _ _ _ h => h) hS (.inl ⟨by rfl, ?_⟩) ?_
  rotate_left 1
  · intro w' hS'; go_simp; try with_reducible rfl
  simp only [Act.put, List.setIfInBounds_toArray, List.set_cons_succ, List.set_cons_zero, List.getElem_toArray, List.getElem_cons_succ, List.getElem_cons_zero]
  refine wpAnyM_take (i := 18) (v := ?_) rfl (by kernel_rfl) (by kernel_rfl) (by kernel_rfl) (by kernel_rfl) (by kernel_rfl) (fun _ _ _ h => h) hS (.inl ⟨by rfl, ?_⟩) ?_
  rotate_left 1
  · intro w' hS'; go_simp; try with_reducible rfl
  simp only [Act.put, List.setIfInBounds_toArray, List.set_cons_succ, List.set_cons_zero, List.getElem_toArray, List.getElem_cons_succ, List.getElem_cons_zero]
  refine wpAnyM_take (i := 19) (v := ?_) rfl (by kernel_rfl) (by kernel_rfl) (by kernel_rfl) (by kernel_rfl) (by kernel_rfl) (fun _ _ _ h => h) hS (.inl ⟨by rfl, ?_⟩) ?_
  rotate_left 1
  · intro w' hS'; go_simp; try with_reducible rfl
  simp only [Act.put, List.setIfInBounds_toArray, List.set_cons_succ, List.set_cons_zero, List.getElem_toArray, List.getElem_cons_succ, List.getElem_cons_zero]
  refine wpAnyM_take (i := 20) (v := ?_) rfl (by kernel_rfl) (by kernel_rfl) (by kernel_rfl) (by kernel_rfl) (by kernel_rfl) (fun _ _ _ h => h) hS (.inl ⟨by rfl, ?_⟩) ?_
  rotate_left 1
  · intro w' hS'; go_simp; try with_reducible rfl
  simp only [Act.put, List.setIfInBounds_toArray, List.set_cons_succ, List.set_cons_zero, List.getElem_toArray, List.getElem_cons_succ, List.getElem_cons_zero]
  refine wpAnyM_take (i := 21) (v := ?_) rfl (by kernel_rfl) (by kernel_rfl) (by kernel_rfl) (by kernel_rfl) (by kernel_rfl) (fun _ _ _ h => h) hS (.inl ⟨by rfl, ?_⟩) ?_
  rotate_left 1
  · intro w' hS'; go_simp; try with_reducible rfl
  simp only [Act.put, List.setIfInBounds_toArray, List.set_cons_succ, List.set_cons_zero, List.getElem_toArray, List.getElem_cons_succ, List.getElem_cons_zero]
  refine wpAnyM_take (i := 22) (v := ?_) rfl (by kernel_rfl) (by kernel_rfl) (by kernel_rfl) (by kernel_rfl) (by kernel_rfl) (fun _ _ _ h => h) hS (.inl ⟨by rfl, ?_⟩) ?_
  rotate_left 1
  · intro w' hS'; go_simp; try with_reducible rfl
  simp only [Act.put, List.setIfInBounds_toArray, List.set_cons_succ, List.set_cons_zero, List.getElem_toArray, List.getElem_cons_succ, List.getElem_cons_zero]
  refine wpAnyM_take (i := 23) (v := ?_) rfl (by kernel_rfl) (by kernel_rfl) (by kernel_rfl) (by kernel_rfl) (by kernel_rfl) (fun _ _ _ h => h) hS (.inl ⟨by rfl, ?_⟩) ?_
  rotate_left 1
  · intro w' hS'; go_simp; try with_reducible rfl
  simp only [Act.put, List.setIfInBounds_toArray, List.set_cons_succ, List.set_cons_zero, List.getElem_toArray, List.getElem_cons_succ, List.getElem_cons_zero]
  refine wpAnyM_take (i := 25) (v := ?_) rfl (by kernel_rfl) (by kernel_rfl) (by kernel_rfl) (by kernel_rfl) (by kernel_rfl) (fun _ _ _ h => h) hS (.inl ⟨by rfl, ?_⟩) ?_
  rotate_left 1
  · intro w' hS'; go_simp; try with_reducible rfl
  simp only [Act.put, List.setIfInBounds_toArray, List.set_cons_succ, List.set_cons_zero, List.getElem_toArray, List.getElem_cons_succ, List.getElem_cons_zero]
  refine wpAnyM_take (i := 26) (v := ?_) rfl (by kernel_rfl) (by kernel_rfl) (by kernel_rfl) (by kernel_rfl) (by kernel_rfl) (fun _ _ _ h => h) hS (.inl ⟨by rfl, ?_⟩) ?_
  rotate_left 1
  · intro w' hS'; go_simp; try with_reducible rfl
  simp only [Act.put, List.setIfInBounds_toArray, List.set_cons_succ, List.set_cons_zero, List.getElem_toArray, List.getElem_cons_succ, List.getElem_cons_zero]
  refine wpAnyM_take (i := 27) (v := ?_) rfl (by kernel_rfl) (by kernel_rfl) (by kernel_rfl) (by kernel_rfl) (by kernel_rfl) (fun _ _ _ h => h) hS (.inl ⟨by rfl, ?_⟩) ?_
  rotate_left 1
  · intro w' hS'; go_simp; try with_reducible rfl
  simp only [Act.put, List.setIfInBounds_toArray, List.set_cons_succ, List.set_cons_zero, List.getElem_toArray, List.getElem_cons_succ, List.getElem_cons_zero]
  refine wpAnyM_take (i := 28) (v := ?_) rfl (by kernel_rfl) (by kernel_rfl) (by kernel_rfl) (by kernel_rfl) (by kernel_rfl) (fun _ _ _ h => h) hS (.inl ⟨by rfl, ?_⟩) ?_
  rotate_left 1
  · intro w' hS'; go_simp; try with_reducible rfl
  simp only [Act.put, List.setIfInBounds_toArray, List.set_cons_succ, List.set_cons_zero, List.getElem_toArray, List.getElem_cons_succ, List.getElem_cons_zero]
  clear k0 k1 k2 k3 k4 k5 k6
  refine wpAnyM_one (i := 24) (by kernel_rfl) rfl (by rfl) (fun K hK => ?_)
  go_simp
  refine (H1.out w.drew hS).mono ?_
  rintro e w1 ⟨D, E, rfl, oD, hb⟩
  have hq1 : w.heap.size ≤ w1.heap.size := hb.size
  have hS1 : Below w.heap.size w w1 := hS.trans hb
  replace oD : Own 2 w1 w.heap.size w1.heap.size (.slice D m.z2.length E) (abvL m.z2.length P m.z1) := oD
  clear hb
  refine hK _ _ (.inr hS1) ?_
  try simp only [Act.put, List.setIfInBounds_toArray, List.set_cons_succ, List.set_cons_zero, List.getElem_toArray, List.getElem_cons_succ, List.getElem_cons_zero]
  clear hK K
  refine wpAnyM_one (i := 29) (by kernel_rfl) rfl (by rfl) (fun K hK => ?_)
  go_simp
  refine (HB.out m A1 C1 A2 C2 A3 C3 w1).mono ?_
  rintro e w2 ⟨rfl, hb⟩
  have hq2 := hb.size
  have hS2 : Below w.heap.size w w2 := hS1.trans (hb.mono hq1)
  replace oD := oD.below hb
  clear hb
  refine hK _ _ (.inr hS2) ?_
  try simp only [Act.put, List.setIfInBounds_toArray, List.set_cons_succ, List.set_cons_zero, List.getElem_toArray, List.getElem_cons_succ, List.getElem_cons_zero]
  clear hK K
  refine wpAnyM_one (i := 30) (by kernel_rfl) rfl (by rfl) (fun K hK => ?_)
  go_simp
  refine (H2.out w2 D E hS2 oD.rd).mono ?_
  rintro e w3 ⟨F, G, rfl, oF, hb⟩
  have hq3 := hb.size
  have hS3 : Below w.heap.size w w3 := hS2.trans (hb.mono hS2.size)
  clear hb oD
  refine hK _ _ (.inr hS3) ?_
  try simp only [Act.put, List.setIfInBounds_toArray, List.set_cons_succ, List.set_cons_zero, List.getElem_toArray, List.getElem_cons_succ, List.getElem_cons_zero]
  clear hK K
  refine wpAnyM_take (i := 31) (v := ?_) rfl (by kernel_rfl) (by kernel_rfl) (by kernel_rfl) (by kernel_rfl) (by kernel_rfl) (fun _ _ _ h => h) hS3 (.inl ⟨by rfl, ?_⟩) ?_
  rotate_left 1
  · intro w' hS'; go_simp; try with_reducible rfl
  simp only [Act.put, List.setIfInBounds_toArray, List.set_cons_succ, List.set_cons_zero, List.getElem_toArray, List.getElem_cons_succ, List.getElem_cons_zero]
  refine wpAnyM_take (i := 32) (v := ?_) rfl (by kernel_rfl) (by kernel_rfl) (by kernel_rfl) (by kernel_rfl) (by kernel_rfl) (fun _ _ _ h => h) hS3 (.inl ⟨by rfl, ?_⟩) ?_
  rotate_left 1
  · intro w' hS'; go_simp; try with_reducible rfl
  simp only [Act.put, List.setIfInBounds_toArray, List.set_cons_succ, List.set_cons_zero, List.getElem_toArray, List.getElem_cons_succ, List.getElem_cons_zero]
  refine wpAnyM_pure (i := 33) (v := ?_) rfl (by kernel_rfl) (by kernel_rfl) (by kernel_rfl) (by kernel_rfl) (fun _ _ _ h => h) (.inr hS3) (.inl ⟨by rfl, ?_⟩) ?_
  rotate_left 1
  · intro w' hS'; go_simp; try with_reducible rfl
  simp only [Act.put, List.setIfInBounds_toArray, List.set_cons_succ, List.set_cons_zero, List.getElem_toArray, List.getElem_cons_succ, List.getElem_cons_zero]
  refine wpAnyM_pure (i := 34) (v := ?_) rfl (by kernel_rfl) (by kernel_rfl) (by kernel_rfl) (by kernel_rfl) (fun _ _ _ h => h) (.inr hS3) (.inl ⟨by rfl, ?_⟩) ?_
  rotate_left 1
  · intro w' hS'; go_simp; try with_reducible rfl
  simp only [Act.put, List.setIfInBounds_toArray, List.set_cons_succ, List.set_cons_zero, List.getElem_toArray, List.getElem_cons_succ, List.getElem_cons_zero]
  refine wpAnyM_pure (i := 35) (v := ?_) rfl (by kernel_rfl) (by kernel_rfl) (by kernel_rfl) (by kernel_rfl) (fun _ _ _ h => h) (.inr hS3) (.inl ⟨by rfl, ?_⟩) ?_
  rotate_left 1
  · intro w' hS'; go_simp; try with_reducible rfl
  simp only [Act.put, List.setIfInBounds_toArray, List.set_cons_succ, List.set_cons_zero, List.getElem_toArray, List.getElem_cons_succ, List.getElem_cons_zero]
  refine wpAnyM_pure (i := 36) (v := ?_) rfl (by kernel_rfl) (by kernel_rfl) (by kernel_rfl) (by kernel_rfl) (fun _ _ _ h => h) (.inr hS3) (.inl ⟨by rfl, ?_⟩) ?_
  rotate_left 1
  · intro w' hS'; go_simp; try with_reducible rfl
  simp only [Act.put, List.setIfInBounds_toArray, List.set_cons_succ, List.set_cons_zero, List.getElem_toArray, List.getElem_cons_succ, List.getElem_cons_zero]
  refine wpAnyM_pure (i := 37) (v := ?_) rfl (by kernel_rfl) (by kernel_rfl) (by kernel_rfl) (by kernel_rfl) (fun _ _ _ h => h) (.inr hS3) (.inl ⟨by rfl, ?_⟩) ?_
  rotate_left 1
  · intro w' hS'; go_simp; try with_reducible rfl
  simp only [Act.put, List.setIfInBounds_toArray, List.set_cons_succ, List.set_cons_zero, List.getElem_toArray, List.getElem_cons_succ, List.getElem_cons_zero]
  replace bx := bx.below hS3
  have c3 := bx.at_ 3 rfl
  have f3 := bx.thaw 3
  have c7 := bx.at_ 7 rfl
  have f7 := bx.thaw 7
  refine wpAnyM_one (i := 38) (by kernel_rfl) rfl (by rfl) (fun K hK => ?_)
  go_simp
  obtain ⟨w4, hw4⟩ : ∃ v, v = w3.setCell ⟨p, 3, none⟩ (.slice F m.z2.length G) := ⟨_, rfl⟩
  rw [← hw4]
  have bx4 : Bx w4 p 52 #[.int .i64 m.b1, .slice A1 m.z1.length C1, .int .i64 m.b2, .slice F m.z2.length G, .int .i64 m.b3, .slice A3 m.z3.length C3, .int .i64 m.p, .bool t] := by rw [hw4]; exact bx.set_ 3 _
  have ht4 : Touch p (p + 1) w3 w4 := by rw [hw4]; exact (Touch.refl _ _ _).setCell (by simp) (by simp) _
  refine hK _ _ (.inl rfl) ?_
  try simp only [Act.put, List.setIfInBounds_toArray, List.set_cons_succ, List.set_cons_zero, List.getElem_toArray, List.getElem_cons_succ, List.getElem_cons_zero]
  clear hK K hw4 c3 f3 c7 f7
  refine wpAnyM_pure (i := 39) (v := ?_) rfl (by kernel_rfl) (by kernel_rfl) (by kernel_rfl) (by kernel_rfl) (fun _ _ _ h => h) (.inl rfl) (.inl ⟨by rfl, ?_⟩) ?_
  rotate_left 1
  · intro w' hS'; go_simp; try with_reducible rfl
  simp only [Act.put, List.setIfInBounds_toArray, List.set_cons_succ, List.set_cons_zero, List.getElem_toArray, List.getElem_cons_succ, List.getElem_cons_zero]
  refine wpAnyM_pure (i := 40) (v := ?_) rfl (by kernel_rfl) (by kernel_rfl) (by kernel_rfl) (by kernel_rfl) (fun _ _ _ h => h) (.inl rfl) (.inl ⟨by rfl, ?_⟩) ?_
  rotate_left 1
  · intro w' hS'; go_simp; try with_reducible rfl
  simp only [Act.put, List.setIfInBounds_toArray, List.set_cons_succ, List.set_cons_zero, List.getElem_toArray, List.getElem_cons_succ, List.getElem_cons_zero]
  have c7 := bx4.at_ 7 rfl
  have f7 := bx4.thaw 7
  refine wpAnyM_one (i := 41) (by kernel_rfl) rfl (by rfl) (fun K hK => ?_)
  go_simp
  obtain ⟨w5, hw5⟩ : ∃ v, v = w4.setCell ⟨p, 7, none⟩ (.bool t2) := ⟨_, rfl⟩
  rw [← hw5]
  have bx5 : Bx w5 p 52 #[.int .i64 m.b1, .slice A1 m.z1.length C1, .int .i64 m.b2, .slice F m.z2.length G, .int .i64 m.b3, .slice A3 m.z3.length C3, .int .i64 m.p, .bool t2] := by rw [hw5]; exact bx4.set_ 7 _
  have ht5 : Touch p (p + 1) w4 w5 := by rw [hw5]; exact (Touch.refl _ _ _).setCell (by simp) (by simp) _
  replace ht5 := ht4.trans ht5
  refine hK _ _ (.inl rfl) ?_
  try simp only [Act.put, List.setIfInBounds_toArray, List.set_cons_succ, List.set_cons_zero, List.getElem_toArray, List.getElem_cons_succ, List.getElem_cons_zero]
  clear hK K hw5 c7 f7 bx4 bx ht4
  refine wpAnyM_done (by kernel_rfl) ?_ _
  replace o1 := (o1.below hS3).touch ht5 (by omega)
  replace o3 := (o3.below hS3).touch ht5 (by omega)
  replace oF := oF.touch ht5 (by omega)
  have hq5 := ht5.size
  have hbL : Below L w w5 := (hS3.mono (by omega)).trans (ht5.below hlp (by omega))
  have hs2 := hS2.size
  clear o2 hS hS1 hS2 hS3 ht5 H1 H2
  have k0 := kept_all (bx5.at_ 0 rfl)
  have k1 := kept_all (bx5.at_ 1 rfl)
  have k2 := kept_all (bx5.at_ 2 rfl)
  have k3 := kept_all (bx5.at_ 3 rfl)
  have k4 := kept_all (bx5.at_ 4 rfl)
  have k5 := kept_all (bx5.at_ 5 rfl)
  have k6 := kept_all (bx5.at_ 6 rfl)
  have hF := HF.out
  have hP := HPP.out
  have H1 : Hid (∀ v d e, Below w5.heap.size w5 v → Rd v d [1] → Calls Tryz.prog 88 #[.agg #[.int .i64 m.b1, .slice A1 m.z1.length C1, .int .i64 m.b2, .slice F m.z2.length G, .int .i64 m.b3, .slice A3 m.z3.length C3, .int .i64 m.p], .agg #[.int .i64 m.b3, .slice A3 m.z3.length C3], .slice d 1 e] v fun r w' => ∃ D E, r = .returned (.slice D m.z3.length E) ∧
      Own 2 w' v.heap.size w'.heap.size (.slice D m.z3.length E) (abvL m.z3.length P [1]) ∧ Below v.heap.size v w') :=
    Lib.hid fun v d e _ hd => above_any m A1 C1 F G A3 C3 m.b3 A3 m.z3.length C3 P d e [1] v hP hd (by simpa using hF.2.2.2.1) hF.2.2.1 (by simp)
  have H2 : Hid (∀ v D E, Below w5.heap.size w5 v → Rd v D (abvL m.z3.length P [1]) → Calls Tryz.prog 52 #[.slice A3 m.z3.length C3, .slice D m.z3.length E, .int .i64 m.b1] v (RowB X3 t3 m.z3.length v)) :=
    Lib.hid fun v D E hb hd => by
      rw [HHX3.out, HHT3.out]
      exact turnBack_any m.b1 A3 D C3 E m.z3 (abvL m.z3.length P [1]) v (o3.rd.below hb) hd hF.1 hF.2.1 hF.2.2.1 (abvL_len (by simpa using hF.2.2.2.1)) hF.2.2.2.2 (abvL_digs (by omega) (fun d hd => by simp at hd; subst hd; omega) _ _)
  clear hF hP
  go_upto_region 1 with fail
  refine wp_region_marked (fun w' => Below w5.heap.size w5 w') 32 (by kernel_rfl) ?_
  have hS : Below w5.heap.size w5 w5.drew := (Below.refl _ _).drew
  refine wpAnyM_take (i := 0) (v := ?_) rfl (by kernel_rfl) (by kernel_rfl) (by kernel_rfl) (by kernel_rfl) (by kernel_rfl) (fun _ _ _ h => h) hS (.inl ⟨by rfl, ?_⟩) ?_
  rotate_left 1
  · intro w' hS'; go_simp; try with_reducible rfl
  simp only [Act.put, List.setIfInBounds_toArray, List.set_cons_succ, List.set_cons_zero, List.getElem_toArray, List.getElem_cons_zero]
  refine wpAnyM_take (i := 1) (v := ?_) rfl (by kernel_rfl) (by kernel_rfl) (by kernel_rfl) (by kernel_rfl) (by kernel_rfl) (fun _ _ _ h => h) hS (.inl ⟨by rfl, ?_⟩) ?_
  rotate_left 1
  · intro w' hS'; go_simp; try with_reducible rfl
  simp only [Act.put, List.setIfInBounds_toArray, List.set_cons_succ, List.set_cons_zero, List.getElem_toArray, List.getElem_cons_succ, List.getElem_cons_zero]
  refine wpAnyM_take (i := 2) (v := ?_) rfl (by kernel_rfl) (by kernel_rfl) (by kernel_rfl) (by kernel_rfl) (by kernel_rfl) (fun _ _ _ h => h) hS (.inl ⟨by rfl, ?_⟩) ?_
  rotate_left 1
  · intro w' hS'; go_simp; try with_reducible rfl
  simp only [Act.put, List.setIfInBounds_toArray, List.set_cons_succ, List.set_cons_zero, List.getElem_toArray, List.getElem_cons_succ, List.getElem_cons_zero]
  refine wpAnyM_take (i := 3) (v := ?_) rfl (by kernel_rfl) (by kernel_rfl) (by kernel_rfl) (by kernel_rfl) (by kernel_rfl) (fun _ _ _ h => h) hS (.inl ⟨by rfl, ?_⟩) ?_
  rotate_left 1
  · intro w' hS'; go_simp; try with_reducible rfl
  simp only [Act.put, List.setIfInBounds_toArray, List.set_cons_succ, List.set_cons_zero, List.getElem_toArray, List.getElem_cons_succ, List.getElem_cons_zero]
  refine wpAnyM_take (i := 4) (v := ?_) rfl (by kernel_rfl) (by kernel_rfl) (by kernel_rfl) (by kernel_rfl) (by kernel_rfl) (fun _ _ _ h => h) hS (.inl ⟨by rfl, ?_⟩) ?_
  rotate_left 1
  · intro w' hS'; go_simp; try with_reducible rfl
  simp only [Act.put, List.setIfInBounds_toArray, List.set_cons_succ, List.set_cons_zero, List.getElem_toArray, List.getElem_cons_succ, List.getElem_cons_zero]
  refine wpAnyM_take (i := 5) (v := ?_) rfl (by kernel_rfl) (by kernel_rfl) (by kernel_rfl) (by kernel_rfl) (by kernel_rfl) (fun _ _ _ h => h) hS (.inl ⟨by rfl, ?_⟩) ?_
  rotate_left 1
  · intro w' hS'; go_simp; try with_reducible rfl
  simp only [Act.put, List.setIfInBounds_toArray, List.set_cons_succ, List.set_cons_zero, List.getElem_toArray, List.getElem_cons_succ, List.getElem_cons_zero]
  refine wpAnyM_take (i := 6) (v := ?_) rfl (by kernel_rfl) (by kernel_rfl) (by kernel_rfl) (by kernel_rfl) (by kernel_rfl) (fun _ _ _ h => h) hS (.inl ⟨by rfl, ?_⟩) ?_
  rotate_left 1
  · intro w' hS'; go_simp; try with_reducible rfl
  simp only [Act.put, List.setIfInBounds_toArray, List.set_cons_succ, List.set_cons_zero, List.getElem_toArray, List.getElem_cons_succ, List.getElem_cons_zero]
  refine wpAnyM_take (i := 7) (v := ?_) rfl (by kernel_rfl) (by kernel_rfl) (by kernel_rfl) (by kernel_rfl) (by kernel_rfl) (fun _ _ _ h => h) hS (.inl ⟨by rfl, ?_⟩) ?_
  rotate_left 1
  · intro w' hS'; go_simp; try with_reducible rfl
  simp only [Act.put, List.setIfInBounds_toArray, List.set_cons_succ, List.set_cons_zero, List.getElem_toArray, List.getElem_cons_succ, List.getElem_cons_zero]
  refine wpAnyM_take (i := 8) (v := ?_) rfl (by kernel_rfl) (by kernel_rfl) (by kernel_rfl) (by kernel_rfl) (by kernel_rfl) (fun _ _ _ h => h) hS (.inl ⟨by rfl, ?_⟩) ?_
  rotate_left 1
  · intro w' hS'; go_simp; try with_reducible rfl
  simp only [Act.put, List.setIfInBounds_toArray, List.set_cons_succ, List.set_cons_zero, List.getElem_toArray, List.getElem_cons_succ, List.getElem_cons_zero]
  refine wpAnyM_take (i := 9) (v := ?_) rfl (by kernel_rfl) (by kernel_rfl) (by kernel_rfl) (by kernel_rfl) (by kernel_rfl) (fun _ _ _ h => h) hS (.inl ⟨by rfl, ?_⟩) ?_
  rotate_left 1
  · intro w' hS'; go_simp; try with_reducible rfl
  simp only [Act.put, List.setIfInBounds_toArray, List.set_cons_succ, List.set_cons_zero, List.getElem_toArray, List.getElem_cons_succ, List.getElem_cons_zero]
  refine wpAnyM_take (i := 10) (v := ?_) rfl (by kernel_rfl) (by kernel_rfl) (by kernel_rfl) (by kernel_rfl) (by kernel_rfl) (fun _ _ _ h => h) hS (.inl ⟨by rfl, ?_⟩) ?_
  rotate_left 1
  · intro w' hS'; go_simp; try with_reducible rfl
  simp only [Act.put, List.setIfInBounds_toArray, List.set_cons_succ, List.set_cons_zero, List.getElem_toArray, List.getElem_cons_succ, List.getElem_cons_zero]
  refine wpAnyM_take (i := 11) (v := ?_) rfl (by kernel_rfl) (by kernel_rfl) (by kernel_rfl) (by kernel_rfl) (by kernel_rfl) (fun _ _ _ h => h) hS (.inl ⟨by rfl, ?_⟩) ?_
  rotate_left 1
  · intro w' hS'; go_simp; try with_reducible rfl
  simp only [Act.put, List.setIfInBounds_toArray, List.set_cons_succ, List.set_cons_zero, List.getElem_toArray, List.getElem_cons_succ, List.getElem_cons_zero]
  refine wpAnyM_take (i := 12) (v := ?_) rfl (by kernel_rfl) (by kernel_rfl) (by kernel_rfl) (by kernel_rfl) (by kernel_rfl) (fun _ _ _ h => h) hS (.inl ⟨by rfl, ?_⟩) ?_
  rotate_left 1
  · intro w' hS'; go_simp; try with_reducible rfl
  simp only [Act.put, List.setIfInBounds_toArray, List.set_cons_succ, List.set_cons_zero, List.getElem_toArray, List.getElem_cons_succ, List.getElem_cons_zero]
  refine wpAnyM_take (i := 13) (v := ?_) rfl (by kernel_rfl) (by kernel_rfl) (by kernel_rfl) (by kernel_rfl) (by kernel_rfl) (fun _ _ _ h => h) hS (.inl ⟨by rfl, ?_⟩) ?_
  rotate_left 1
  · intro w' hS'; go_simp; try with_reducible rfl
  simp only [Act.put, List.setIfInBounds_toArray, List.set_cons_succ, List.set_cons_zero, List.getElem_toArray, List.getElem_cons_succ, List.getElem_cons_zero]
  refine wpAnyM_take (i := 14) (v := ?_) rfl (by kernel_rfl) (by kernel_rfl) (by kernel_rfl) (by kernel_rfl) (by kernel_rfl) (fun _ _ _ h => h) hS (.inl ⟨by rfl, ?_⟩) ?_
  rotate_left 1
  · intro w' hS'; go_simp; try with_reducible rfl
  simp only [Act.put, List.setIfInBounds_toArray, List.set_cons_succ, List.set_cons_zero, List.getElem_toArray, List.getElem_cons_succ, List.getElem_cons_zero]
  refine wpAnyM_take (i := 15) (v := ?_) rfl (by kernel_rfl) (by kernel_rfl) (by kernel_rfl) (by kernel_rfl) (by kernel_rfl) (fun _ _ _ h => h) hS (.inl ⟨by rfl, ?_⟩) ?_
  rotate_left 1
  · intro w' hS'; go_simp; try with_reducible rfl
  simp only [Act.put, List.setIfInBounds_toArray, List.set_cons_succ, List.set_cons_zero, List.getElem_toArray, List.getElem_cons_succ, List.getElem_cons_zero]
  refine wpAnyM_take (i := 16) (v := ?_) rfl (by kernel_rfl) (by kernel_rfl) (by kernel_rfl) (by kernel_rfl) (by kernel_rfl) (fun _ _ _ h => h) hS (.inl ⟨by rfl, ?_⟩) ?_
  rotate_left 1
  · intro w' hS'; go_simp; try with_reducible rfl
  simp only [Act.put, List.setIfInBounds_toArray, List.set_cons_succ, List.set_cons_zero, List.getElem_toArray, List.getElem_cons_succ, List.getElem_cons_zero]
  refine wpAnyM_take (i := 19) (v := ?_) rfl (by kernel_rfl) (by kernel_rfl) (by kernel_rfl) (by kernel_rfl) (by kernel_rfl) (fun _ _ _ h => h) hS (.inl ⟨by rfl, ?_⟩) ?_
  rotate_left 1
  · intro w' hS'; go_simp; try with_reducible rfl
  simp only [Act.put, List.setIfInBounds_toArray, List.set_cons_succ, List.set_cons_zero, List.getElem_toArray, List.getElem_cons_succ, List.getElem_cons_zero]
  refine wpAnyM_take (i := 20) (v := ?_) rfl (by kernel_rfl) (by kernel_rfl) (by kernel_rfl) (by kernel_rfl) (by kernel_rfl) (fun _ _ _ h => h) hS (.inl ⟨by rfl, ?_⟩) ?_
  rotate_left 1
  · intro w' hS'; go_simp; try with_reducible rfl
  simp only [Act.put, List.setIfInBounds_toArray, List.set_cons_succ, List.set_cons_zero, List.getElem_toArray, List.getElem_cons_succ, List.getElem_cons_zero]
  refine wpAnyM_take (i := 21) (v := ?_) rfl (by kernel_rfl) (by kernel_rfl) (by kernel_rfl) (by kernel_rfl) (by kernel_rfl) (fun _ _ _ h => h) hS (.inl ⟨by rfl, ?_⟩) ?_
  rotate_left 1
  · intro w' hS'; go_simp; try with_reducible rfl
  simp only [Act.put, List.setIfInBounds_toArray, List.set_cons_succ, List.set_cons_zero, List.getElem_toArray, List.getElem_cons_succ, List.getElem_cons_zero]
  refine wpAnyM_take (i := 22) (v := ?_) rfl (by kernel_rfl) (by kernel_rfl) (by kernel_rfl) (by kernel_rfl) (by kernel_rfl) (fun _ _ _ h => h) hS (.inl ⟨by rfl, ?_⟩) ?_
  rotate_left 1
  · intro w' hS'; go_simp; try with_reducible rfl
  simp only [Act.put, List.setIfInBounds_toArray, List.set_cons_succ, List.set_cons_zero, List.getElem_toArray, List.getElem_cons_succ, List.getElem_cons_zero]
  clear k0 k1 k2 k3 k4 k5 k6
  refine wpAnyM_one (i := 17) (by kernel_rfl) rfl (by rfl) (fun K hK => ?_)
  go_simp
  obtain ⟨c, hc⟩ : ∃ c, c = w5.heap.size := ⟨_, rfl⟩
  obtain ⟨w6, hw6⟩ : ∃ v, v = w5.drew.alloc (.cells #[.int .i64 1] 2) := ⟨_, rfl⟩
  have hdig : Rd w6 (some ⟨c, 0, none⟩) [1] := by rw [hw6, hc]; exact rd_new1 w5.drew 1 _
  have hS6 : Below w5.heap.size w5 w6 := by rw [hw6]; exact hS.alloc (Nat.le_refl _) _
  first | rw [← hw6] | (rw [show (w5.alloc (.cells #[.int .i64 1] 2)).drew = w6 from hw6.symm])
  try rw [← hc]
  have hq6 := hS6.size
  clear hw6 hc
  refine hK _ _ (.inr hS6) ?_
  try simp only [Act.put, List.setIfInBounds_toArray, List.set_cons_succ, List.set_cons_zero, List.getElem_toArray, List.getElem_cons_succ, List.getElem_cons_zero]
  clear hK K
  refine wpAnyM_one (i := 18) (by kernel_rfl) rfl (by rfl) (fun K hK => ?_)
  go_simp
  refine (H1.out w6 _ _ hS6 hdig).mono ?_
  rintro e w7 ⟨D, E, rfl, oD, hb⟩
  have hq7 := hb.size
  have hS7 : Below w5.heap.size w5 w7 := hS6.trans (hb.mono hq6)
  clear hb
  refine hK _ _ (.inr hS7) ?_
  try simp only [Act.put, List.setIfInBounds_toArray, List.set_cons_succ, List.set_cons_zero, List.getElem_toArray, List.getElem_cons_succ, List.getElem_cons_zero]
  clear hK K
  refine wpAnyM_one (i := 23) (by kernel_rfl) rfl (by rfl) (fun K hK => ?_)
  go_simp
  refine (HB.out m A1 C1 F G A3 C3 w7).mono ?_
  rintro e w8 ⟨rfl, hb⟩
  have hq8 := hb.size
  have hS8 : Below w5.heap.size w5 w8 := hS7.trans (hb.mono hS7.size)
  replace oD := oD.below hb
  clear hb
  refine hK _ _ (.inr hS8) ?_
  try simp only [Act.put, List.setIfInBounds_toArray, List.set_cons_succ, List.set_cons_zero, List.getElem_toArray, List.getElem_cons_succ, List.getElem_cons_zero]
  clear hK K
  refine wpAnyM_one (i := 24) (by kernel_rfl) rfl (by rfl) (fun K hK => ?_)
  go_simp
  refine (H2.out w8 D E hS8 oD.rd).mono ?_
  rintro e w9 ⟨M, N, rfl, oM, hb⟩
  have hq9 := hb.size
  have hS9 : Below w5.heap.size w5 w9 := hS8.trans (hb.mono hS8.size)
  clear hb oD
  refine hK _ _ (.inr hS9) ?_
  try simp only [Act.put, List.setIfInBounds_toArray, List.set_cons_succ, List.set_cons_zero, List.getElem_toArray, List.getElem_cons_succ, List.getElem_cons_zero]
  clear hK K
  refine wpAnyM_take (i := 25) (v := ?_) rfl (by kernel_rfl) (by kernel_rfl) (by kernel_rfl) (by kernel_rfl) (by kernel_rfl) (fun _ _ _ h => h) hS9 (.inl ⟨by rfl, ?_⟩) ?_
  rotate_left 1
  · intro w' hS'; go_simp; try with_reducible rfl
  simp only [Act.put, List.setIfInBounds_toArray, List.set_cons_succ, List.set_cons_zero, List.getElem_toArray, List.getElem_cons_succ, List.getElem_cons_zero]
  refine wpAnyM_take (i := 26) (v := ?_) rfl (by kernel_rfl) (by kernel_rfl) (by kernel_rfl) (by kernel_rfl) (by kernel_rfl) (fun _ _ _ h => h) hS9 (.inl ⟨by rfl, ?_⟩) ?_
  rotate_left 1
  · intro w' hS'; go_simp; try with_reducible rfl
  simp only [Act.put, List.setIfInBounds_toArray, List.set_cons_succ, List.set_cons_zero, List.getElem_toArray, List.getElem_cons_succ, List.getElem_cons_zero]
  refine wpAnyM_pure (i := 27) (v := ?_) rfl (by kernel_rfl) (by kernel_rfl) (by kernel_rfl) (by kernel_rfl) (fun _ _ _ h => h) (.inr hS9) (.inl ⟨by rfl, ?_⟩) ?_
  rotate_left 1
  · intro w' hS'; go_simp; try with_reducible rfl
  simp only [Act.put, List.setIfInBounds_toArray, List.set_cons_succ, List.set_cons_zero, List.getElem_toArray, List.getElem_cons_succ, List.getElem_cons_zero]
  refine wpAnyM_pure (i := 28) (v := ?_) rfl (by kernel_rfl) (by kernel_rfl) (by kernel_rfl) (by kernel_rfl) (fun _ _ _ h => h) (.inr hS9) (.inl ⟨by rfl, ?_⟩) ?_
  rotate_left 1
  · intro w' hS'; go_simp; try with_reducible rfl
  simp only [Act.put, List.setIfInBounds_toArray, List.set_cons_succ, List.set_cons_zero, List.getElem_toArray, List.getElem_cons_succ, List.getElem_cons_zero]
  refine wpAnyM_pure (i := 29) (v := ?_) rfl (by kernel_rfl) (by kernel_rfl) (by kernel_rfl) (by kernel_rfl) (fun _ _ _ h => h) (.inr hS9) (.inl ⟨by rfl, ?_⟩) ?_
  rotate_left 1
  · intro w' hS'; go_simp; try with_reducible rfl
  simp only [Act.put, List.setIfInBounds_toArray, List.set_cons_succ, List.set_cons_zero, List.getElem_toArray, List.getElem_cons_succ, List.getElem_cons_zero]
  refine wpAnyM_pure (i := 30) (v := ?_) rfl (by kernel_rfl) (by kernel_rfl) (by kernel_rfl) (by kernel_rfl) (fun _ _ _ h => h) (.inr hS9) (.inl ⟨by rfl, ?_⟩) ?_
  rotate_left 1
  · intro w' hS'; go_simp; try with_reducible rfl
  simp only [Act.put, List.setIfInBounds_toArray, List.set_cons_succ, List.set_cons_zero, List.getElem_toArray, List.getElem_cons_succ, List.getElem_cons_zero]
  refine wpAnyM_pure (i := 31) (v := ?_) rfl (by kernel_rfl) (by kernel_rfl) (by kernel_rfl) (by kernel_rfl) (fun _ _ _ h => h) (.inr hS9) (.inl ⟨by rfl, ?_⟩) ?_
  rotate_left 1
  · intro w' hS'; go_simp; try with_reducible rfl
  simp only [Act.put, List.setIfInBounds_toArray, List.set_cons_succ, List.set_cons_zero, List.getElem_toArray, List.getElem_cons_succ, List.getElem_cons_zero]
  replace bx5 := bx5.below hS9
  have c5 := bx5.at_ 5 rfl
  have f5 := bx5.thaw 5
  refine wpAnyM_one (i := 32) (by kernel_rfl) rfl (by rfl) (fun K hK => ?_)
  go_simp
  obtain ⟨v4, hw4⟩ : ∃ v, v = w9.setCell ⟨p, 5, none⟩ (.slice M m.z3.length N) := ⟨_, rfl⟩
  rw [← hw4]
  have bx6 : Bx v4 p 52 #[.int .i64 m.b1, .slice A1 m.z1.length C1, .int .i64 m.b2, .slice F m.z2.length G, .int .i64 m.b3, .slice M m.z3.length N, .int .i64 m.p, .bool t2] := by rw [hw4]; exact bx5.set_ 5 _
  have ht4 : Touch p (p + 1) w9 v4 := by rw [hw4]; exact (Touch.refl _ _ _).setCell (by simp) (by simp) _
  refine hK _ _ (.inl rfl) ?_
  try simp only [Act.put, List.setIfInBounds_toArray, List.set_cons_succ, List.set_cons_zero, List.getElem_toArray, List.getElem_cons_succ, List.getElem_cons_zero]
  clear hK K hw4 c5 f5 bx5
  refine wpAnyM_done (by kernel_rfl) ?_ _
  have hsz5 : w3.heap.size ≤ w5.heap.size := hq5
  have hs8 := hS8.size
  replace o1 := (o1.below hS9).touch ht4 (by omega)
  replace oF := (oF.below hS9).touch ht4 (by omega)
  replace oM := oM.touch ht4 (by omega)
  have hq10 := ht4.size
  have hbF : Below L w v4 := (hbL.trans (hS9.mono (by omega))).trans (ht4.below hlp (by omega))
  have HW : Hid (WkE v4 L p (trnM m (-1))) := Lib.hid (by
    rw [HT.out]
    refine ⟨A1, C1, F, G, M, N, ?_, hlp, l1, h1, _, _, _, _, o1, by rw [HX2.out]; exact oF, by rw [HX3.out]; exact oM, ?_⟩
    · rw [HX2.out, HX3.out]; exact bx6
    · omega)
  clear o1 o3 oF oM ht4 bx6 hS hS6 hS7 hS8 hS9 H1 H2
  go_wp2
  go_end0
  exact ⟨rfl, HW.out, hbF⟩
end Go.Proofs.YtlahobdopmdfmaaGreatDoor

/- DoM -/
namespace Go.Proofs.YtlahobdopmdfmaaGreatDoor
open Go.RowKit

theorem okB_digs {b : Int} {zs : List Int} (b0 : 2 ≤ b) (b1 : b ≤ 16) (n0 : 1 ≤ zs.length) (n1 : zs.length ≤ 16) (hd : DigsM b zs) (hf : b ^ zs.length - 1 ≤ 1000000000000) : okB b zs = true := by
  have hv := valR_lt (show 1 ≤ b by omega) hd
  have h3 : digitsB b zs = true := by rw [digitsB, decide_eq_true_eq]; exact hd
  simp only [okB, baseB, widthB, h3, Bool.and_true, Bool.and_eq_true, decide_eq_true_eq]
  omega
theorem digsM_zero {b : Int} (b0 : 1 ≤ b) (n : Nat) : DigsM b (List.replicate n 0) := by
  intro d hd; rw [List.mem_replicate] at hd; omega
theorem okB_zeros {b : Int} {zs : List Int} (h : okB b zs = true) : okB b (List.replicate zs.length 0) = true := by
  obtain ⟨b0, b1, n0, n1, hd, hv⟩ := okB_spec h
  have h3 : digitsB b (List.replicate zs.length 0) = true := by rw [digitsB, decide_eq_true_eq]; exact digsM_zero (by omega) _
  simp only [okB, baseB, widthB, h3, Bool.and_true, Bool.and_eq_true, decide_eq_true_eq, List.length_replicate, mval_zero]
  omega
/-- A stroke leads to a valid machine. -/
theorem doM_ok {m : Mac} (h : macB m = true) (k : Int) : macB (doM m k).1 = true := by
  obtain ⟨h1, h2, h3, e2, e3, f2, f3, hl, p0, p1⟩ := macB_spec h
  obtain ⟨_, _, b0, b1, n0, n12, n2, n3, n4, _, q1, q2, d1, d2, d3⟩ := macB_facts h
  have trn : ∀ s, macB (trnM m s).1 = true := by
    intro s
    have z2 := movZ_len m.b2 m.z2 (s * (unitM m * valR m.b1 m.z1))
    have z3 := movZ_len m.b3 m.z3 (s * unitM m)
    have g2 : okB m.b2 (movZ m.b2 m.z2 (s * (unitM m * valR m.b1 m.z1))) = true := okB_digs (by omega) (by omega) (by omega) (by omega) (movZ_digs (by omega) _ _) (by rw [z2, ← e2]; exact f2)
    have g3 : okB m.b3 (movZ m.b3 m.z3 (s * unitM m)) = true := okB_digs (by omega) (by omega) (by omega) (by omega) (movZ_digs (by omega) _ _) (by rw [z3, ← e3]; exact f3)
    unfold plcs at p1
    unfold macB
    rw [decide_eq_true_eq]
    simp only [trnM, plcs, z2, z3]
    exact ⟨h1, g2, g3, e2, e3, f2, f3, hl, p0, p1⟩
  have shf : ∀ s, macB (shfM m s).1 = true := by
    intro s
    unfold shfM
    split
    · rename_i hs
      unfold macB
      rw [decide_eq_true_eq]
      unfold plcs at hs ⊢
      dsimp only
      exact ⟨h1, h2, h3, e2, e3, f2, f3, hl, hs⟩
    · exact h
  unfold doM
  split
  · exact trn 1
  split
  · exact trn (-1)
  split
  · exact shf 1
  split
  · exact shf (-1)
  split
  · have g2 := okB_zeros h2
    have g3 := okB_zeros h3
    unfold plcs at p1
    unfold macB
    rw [decide_eq_true_eq]
    simp only [plcs, List.length_replicate]
    exact ⟨h1, g2, g3, e2, e3, f2, f3, hl, p0, p1⟩
  · have g1 := okB_zeros h1
    unfold plcs at p1
    unfold macB
    rw [decide_eq_true_eq]
    simp only [plcs, List.length_replicate]
    exact ⟨g1, h2, h3, e2, e3, f2, f3, hl, p0, p1⟩
theorem doM_len (m : Mac) (k : Int) : (doM m k).1.z1.length = m.z1.length ∧ (doM m k).1.z2.length = m.z2.length ∧ (doM m k).1.z3.length = m.z3.length := by
  unfold doM shfM trnM
  split
  · exact ⟨rfl, movZ_len _ _ _, movZ_len _ _ _⟩
  split
  · exact ⟨rfl, movZ_len _ _ _, movZ_len _ _ _⟩
  split
  · split <;> exact ⟨rfl, rfl, rfl⟩
  split
  · split <;> exact ⟨rfl, rfl, rfl⟩
  split <;> simp
end Go.Proofs.YtlahobdopmdfmaaGreatDoor

/- StkI -/
namespace Go.Proofs.YtlahobdopmdfmaaGreatDoor
open Go.RowKit

theorem zero_int64 : ∀ w, (zeroValue 2).run Tryz.prog w = .ok (.int .i64 0) w := by
  intro w
  have h := info_int64
  cases hi : Tryz.prog.info? 2 with
  | none => rw [hi] at h; cases h
  | some i =>
    rw [hi] at h
    simp only [Option.map_some, Option.some.injEq, Prod.mk.injEq] at h
    simp [zeroValue, typeInfo, hi, h.1]

theorem own_sets {t : TypeId} {lo hi g n c : Nat} : ∀ (k o : Nat) (w : World) (zs : List Int), Own t w lo hi (.slice (some ⟨g, 0, none⟩) n c) zs → o + k = zs.length →
    Own t (w.setCells g o (List.replicate k (.int .i64 0))) lo hi (.slice (some ⟨g, 0, none⟩) n c) (zs.take o ++ List.replicate k 0)
  | 0, o, w, zs, h, hl => by
    rw [List.replicate_zero, List.replicate_zero, List.append_nil, List.take_of_length_le (by omega)]; exact h
  | k + 1, o, w, zs, h, hl => by
    have ih := own_sets k (o + 1) (w.setCell ⟨g, o, none⟩ (.int .i64 0)) (zs.set o 0) (h.put o 0) (by rw [List.length_set]; omega)
    have e : (zs.set o 0).take (o + 1) ++ List.replicate k 0 = zs.take o ++ List.replicate (k + 1) 0 := by
      rw [List.replicate_succ, List.take_succ_eq_append_getElem (by rw [List.length_set]; omega), List.getElem_set_self, List.append_assoc, List.take_set_of_le (Nat.le_refl _)]
      rfl
    rw [e] at ih
    rw [List.replicate_succ]
    exact ih
theorem touch_sets {g : Nat} {v : Value} : ∀ (k o : Nat) (w : World), Touch g (g + 1) w (w.setCells g o (List.replicate k v))
  | 0, o, w => Touch.refl _ _ _
  | k + 1, o, w => by
    rw [List.replicate_succ]
    exact ((Touch.refl g (g + 1) w).setCell (p := ⟨g, o, none⟩) (Nat.le_refl _) (Nat.lt_succ_self _) v).trans (touch_sets k (o + 1) _)
/-- A row of one's own, cleared. -/
theorem clear_own {t : TypeId} {w : World} {lo hi n c : Nat} {A : Option Addr} {zs : List Int} (h : Own t w lo hi (.slice A n c) zs) (hn : n = zs.length) (h0 : 0 < zs.length) (ty : TypeId) :
    ∃ w' g, lo ≤ g ∧ g < hi ∧ (Builtin.clear_ #[24] ty #[.slice A n c]).run Tryz.prog w = .ok (.tuple #[]) w' ∧ Own t w' lo hi (.slice A n c) (List.replicate zs.length 0) ∧ Touch g (g + 1) w w' := by
  subst hn
  obtain ⟨g, rfl, h1, h2⟩ : ∃ p, A = some ⟨p, 0, none⟩ ∧ lo ≤ p ∧ p < hi := by
    rcases h.row.2 with ⟨_, h0'⟩ | ⟨g, cap, cur, hv, _⟩
    · omega
    · injection hv with hA
      subst hA
      have := h.lo_le (k := g) rfl
      exact ⟨g, rfl, this.1, this.2.1⟩
  refine ⟨_, g, h1, h2, Lib.run_clear_slice w _ _ ty _ Tryz.underlying24 zero_int64 rfl rfl g 0 zs.length c h0 (fun j hj => ?_) (fun j _ => ?_), ?_, touch_sets _ _ _⟩
  · rw [Nat.zero_add, h.get hj]; rfl
  · exact h.thaw _
  · have := own_sets zs.length 0 w zs h (by omega)
    simpa using this

theorem Wk.below {w w' : World} {L p : Nat} {m : Mac} {t : Bool} {A1 : Option Addr} {C1 : Nat} {A2 : Option Addr} {C2 : Nat} {A3 : Option Addr} {C3 : Nat} (h : Wk w L p m t A1 C1 A2 C2 A3 C3) (hb : Below w.heap.size w w') : Wk w' L p m t A1 C1 A2 C2 A3 C3 := by
  obtain ⟨l1, h1, l2, h2, l3, h3, o1, o2, o3, s⟩ := h.ex
  have := hb.size
  exact ⟨h.bx.below hb, h.lp, l1, h1, l2, h2, l3, h3, o1.below hb, o2.below hb, o3.below hb, by omega⟩
theorem Wk.bell {w : World} {L p : Nat} {m : Mac} {t : Bool} {A1 : Option Addr} {C1 : Nat} {A2 : Option Addr} {C2 : Nat} {A3 : Option Addr} {C3 : Nat} (h : Wk w L p m t A1 C1 A2 C2 A3 C3) (t' : Bool) : Wk (w.setCell ⟨p, 7, none⟩ (.bool t')) L p m t' A1 C1 A2 C2 A3 C3 := by
  obtain ⟨l1, h1, l2, h2, l3, h3, o1, o2, o3, s⟩ := h.ex
  exact ⟨h.bx.set_ 7 _, h.lp, l1, h1, l2, h2, l3, h3, o1.setCell (by simp; omega) _, o2.setCell (by simp; omega) _, o3.setCell (by simp; omega) _, by simpa using s⟩
theorem Wk.move {w : World} {L p : Nat} {m : Mac} {t : Bool} {A1 : Option Addr} {C1 : Nat} {A2 : Option Addr} {C2 : Nat} {A3 : Option Addr} {C3 : Nat} (h : Wk w L p m t A1 C1 A2 C2 A3 C3) (k : Int) : Wk (w.setCell ⟨p, 6, none⟩ (.int .i64 k)) L p ⟨m.b1, m.z1, m.b2, m.z2, m.b3, m.z3, k⟩ t A1 C1 A2 C2 A3 C3 := by
  obtain ⟨l1, h1, l2, h2, l3, h3, o1, o2, o3, s⟩ := h.ex
  exact ⟨h.bx.set_ 6 _, h.lp, l1, h1, l2, h2, l3, h3, o1.setCell (by simp; omega) _, o2.setCell (by simp; omega) _, o3.setCell (by simp; omega) _, by simpa using s⟩
theorem Wk.belowL {w : World} {L p : Nat} {m : Mac} {t : Bool} {A1 : Option Addr} {C1 : Nat} {A2 : Option Addr} {C2 : Nat} {A3 : Option Addr} {C3 : Nat} (h : Wk w L p m t A1 C1 A2 C2 A3 C3) (i : Nat) (v : Value) : Below L w (w.setCell ⟨p, i, none⟩ v) := (Below.mono (Below.refl _ _) (by have := h.lp; have := h.bx.lt; omega)).setCell h.lp _

set_option maxRecDepth 100000 in
set_option maxHeartbeats 2000000 in
theorem moveTo_any (L p : Nat) (m : Mac) (t : Bool) (A1 : Option Addr) (C1 : Nat) (A2 : Option Addr) (C2 : Nat) (A3 : Option Addr) (C3 : Nat) (k : Int) (w : World) (hk : Wk w L p m t A1 C1 A2 C2 A3 C3) (hl : m.z1.length ≤ 1000000000 ∧ m.z2.length ≤ 1000000000 ∧ m.z3.length ≤ 1000000000) :
    Calls Tryz.prog 53 #[.pointer (some ⟨p, 0, none⟩), .int .i64 k] w fun e w' => e = .returned (.tuple #[]) ∧
      WkE w' L p (if inB k 0 (plcs m - 1) = true then (⟨m.b1, m.z1, m.b2, m.z2, m.b3, m.z3, k⟩, t) else (m, true)) ∧ Below L w w' := by
  have HP := Lib.hid (hasPlace_any m A1 C1 A2 C2 A3 C3 k w hl)
  have bx := hk.bx
  have c0 := bx.at_ 0 rfl
  have c1 := bx.at_ 1 rfl
  have c2 := bx.at_ 2 rfl
  have c3 := bx.at_ 3 rfl
  have c4 := bx.at_ 4 rfl
  have c5 := bx.at_ 5 rfl
  have c6 := bx.at_ 6 rfl
  have hLs : L ≤ w.heap.size := by have := hk.lp; have := bx.lt; omega
  cases hq : inB k 0 (plcs m - 1) with
  | false =>
    rw [hq] at HP
    go_enter Tryz.func53, Tryz.ntmps53
    go_wp2_with fail
    refine HP.out.mono ?_
    rintro e w1 ⟨rfl, hb⟩
    have hk1 := hk.below hb
    have HW := Lib.hid (hk1.bell true)
    have HB := Lib.hid ((hb.mono hLs).trans (hk1.belowL 7 (.bool true)))
    have d7 := hk1.bx.at_ 7 rfl
    have f7 := hk1.bx.thaw 7
    clear c0 c1 c2 c3 c4 c5 c6 bx hk hk1 hb hq
    go_wp2
    first | go_end0 | refine bodyPost_ret (results_none (by first | rfl | kernel_rfl) _ _ _) rfl ?_
    exact ⟨rfl, ⟨_, _, _, _, _, _, HW.out⟩, HB.out⟩
  | true =>
    rw [hq] at HP
    go_enter Tryz.func53, Tryz.ntmps53
    go_wp2_with fail
    refine HP.out.mono ?_
    rintro e w1 ⟨rfl, hb⟩
    have hk1 := hk.below hb
    have HW := Lib.hid (hk1.move k)
    have HB := Lib.hid ((hb.mono hLs).trans (hk1.belowL 6 (.int .i64 k)))
    have d6 := hk1.bx.at_ 6 rfl
    have f6 := hk1.bx.thaw 6
    clear c0 c1 c2 c3 c4 c5 c6 bx hk hk1 hb hq
    go_wp2
    first | go_end0 | refine bodyPost_ret (results_none (by first | rfl | kernel_rfl) _ _ _) rfl ?_
    exact ⟨rfl, ⟨_, _, _, _, _, _, HW.out⟩, HB.out⟩

theorem below_trans {L : Nat} {a b c : World} (h : Below L a b) (k : Below L b c) : Below L a c := h.trans k

set_option maxRecDepth 100000 in
set_option maxHeartbeats 8000000 in
theorem stroke_any (L p : Nat) (m : Mac) (t : Bool) (A1 : Option Addr) (C1 : Nat) (A2 : Option Addr) (C2 : Nat) (A3 : Option Addr) (C3 : Nat) (k : Int) (w : World) (hk : Wk w L p m t A1 C1 A2 C2 A3 C3) (hm : macB m = true) (h1 : 1 ≤ k) (h6 : k ≤ 6) :
    Calls Tryz.prog 24 #[.pointer (some ⟨p, 0, none⟩), .int .i64 k] w fun e w' => e = .returned (.tuple #[]) ∧ WkE w' L p (doM m k) ∧ Below L w w' := by
  have d7 := hk.bx.at_ 7 rfl
  have f7 := hk.bx.thaw 7
  obtain ⟨e2, e3, b0, b1, n0, n12, n2, n3, n4, p0, p1, p2, d1, d2, d3⟩ := macB_facts hm
  have hl : m.z1.length ≤ 1000000000 ∧ m.z2.length ≤ 1000000000 ∧ m.z3.length ≤ 1000000000 := by omega
  clear e2 e3 b0 b1 n12 n2 n4 d1 d2 d3
  rcases (show k = 1 ∨ k = 2 ∨ k = 3 ∨ k = 4 ∨ k = 5 ∨ k = 6 by omega) with h | h | h | h | h | h
  all_goals
    subst h
    clear h1 h6
  · have HE := Lib.hid (show doM m 1 = trnM m 1 by simp [doM])
    go_enter Tryz.func24, Tryz.ntmps24
    go_upto_region 1 with fail
    obtain ⟨w1, hw1⟩ : ∃ v, v = w.setCell ⟨p, 7, none⟩ (.bool false) := ⟨_, rfl⟩
    try rw [← hw1]
    have hk1 : Wk w1 L p m false A1 C1 A2 C2 A3 C3 := by rw [hw1]; exact hk.bell false
    have hB1 : Below L w w1 := by rw [hw1]; exact hk.belowL 7 _
    clear hw1 hk d7 f7
    go_wp2_with fail
    refine (crank_turnOn L p m false A1 C1 A2 C2 A3 C3 w1 hk1 hm).mono ?_
    rintro e w2 ⟨rfl, hW, hb⟩
    go_wp2
    first | go_end0 | refine bodyPost_ret (results_none (by first | rfl | kernel_rfl) _ _ _) rfl ?_
    exact ⟨rfl, by rw [HE.out]; exact hW, hB1.trans hb⟩
  · have HE := Lib.hid (show doM m 2 = trnM m (-1) by simp [doM])
    go_enter Tryz.func24, Tryz.ntmps24
    go_upto_region 1 with fail
    obtain ⟨w1, hw1⟩ : ∃ v, v = w.setCell ⟨p, 7, none⟩ (.bool false) := ⟨_, rfl⟩
    try rw [← hw1]
    have hk1 : Wk w1 L p m false A1 C1 A2 C2 A3 C3 := by rw [hw1]; exact hk.bell false
    have hB1 : Below L w w1 := by rw [hw1]; exact hk.belowL 7 _
    clear hw1 hk d7 f7
    go_wp2_with fail
    refine (crank_turnBack L p m false A1 C1 A2 C2 A3 C3 w1 hk1 hm).mono ?_
    rintro e w2 ⟨rfl, hW, hb⟩
    go_wp2
    first | go_end0 | refine bodyPost_ret (results_none (by first | rfl | kernel_rfl) _ _ _) rfl ?_
    exact ⟨rfl, by rw [HE.out]; exact hW, hB1.trans hb⟩
  · have HE := Lib.hid (show doM m 3 = if inB (m.p + 1) 0 (plcs m - 1) = true then (⟨m.b1, m.z1, m.b2, m.z2, m.b3, m.z3, m.p + 1⟩, false) else (m, true) by
      rw [show doM m 3 = shfM m 1 by simp [doM], shfM, inB_eq, show m.p + 1 = m.p + 1 by omega]
      simp only [decide_eq_true_eq])
    have hw2 : IntKind.i64.wrap (m.p + 1) = m.p + 1 := IntWalk.i64_in _ (by omega)
    go_enter Tryz.func24, Tryz.ntmps24
    go_upto_region 1 with fail
    obtain ⟨w1, hw1⟩ : ∃ v, v = w.setCell ⟨p, 7, none⟩ (.bool false) := ⟨_, rfl⟩
    try rw [← hw1]
    have hk1 : Wk w1 L p m false A1 C1 A2 C2 A3 C3 := by rw [hw1]; exact hk.bell false
    have hB1 : Below L w w1 := by rw [hw1]; exact hk.belowL 7 _
    clear hw1 hk d7 f7
    have c6 := hk1.bx.at_ 6 rfl
    go_wp2_with fail
    refine (moveTo_any L p m false A1 C1 A2 C2 A3 C3 (m.p + 1) w1 hk1 hl).mono ?_
    rintro e w2 ⟨rfl, hW, hb⟩
    clear c6
    go_wp2
    first | go_end0 | refine bodyPost_ret (results_none (by first | rfl | kernel_rfl) _ _ _) rfl ?_
    exact ⟨rfl, by rw [HE.out]; exact hW, hB1.trans hb⟩
  · have HE := Lib.hid (show doM m 4 = if inB (m.p - 1) 0 (plcs m - 1) = true then (⟨m.b1, m.z1, m.b2, m.z2, m.b3, m.z3, m.p - 1⟩, false) else (m, true) by
      rw [show doM m 4 = shfM m (-1) by simp [doM], shfM, inB_eq, show m.p + (-1) = m.p - 1 by omega]
      simp only [decide_eq_true_eq])
    have hw2 : IntKind.i64.wrap (m.p - 1) = m.p - 1 := IntWalk.i64_in _ (by omega)
    go_enter Tryz.func24, Tryz.ntmps24
    go_upto_region 1 with fail
    obtain ⟨w1, hw1⟩ : ∃ v, v = w.setCell ⟨p, 7, none⟩ (.bool false) := ⟨_, rfl⟩
    try rw [← hw1]
    have hk1 : Wk w1 L p m false A1 C1 A2 C2 A3 C3 := by rw [hw1]; exact hk.bell false
    have hB1 : Below L w w1 := by rw [hw1]; exact hk.belowL 7 _
    clear hw1 hk d7 f7
    have c6 := hk1.bx.at_ 6 rfl
    go_wp2_with fail
    refine (moveTo_any L p m false A1 C1 A2 C2 A3 C3 (m.p - 1) w1 hk1 hl).mono ?_
    rintro e w2 ⟨rfl, hW, hb⟩
    clear c6
    go_wp2
    first | go_end0 | refine bodyPost_ret (results_none (by first | rfl | kernel_rfl) _ _ _) rfl ?_
    exact ⟨rfl, by rw [HE.out]; exact hW, hB1.trans hb⟩
  · have HE := Lib.hid (show doM m 5 = (⟨m.b1, m.z1, m.b2, List.replicate m.z2.length 0, m.b3, List.replicate m.z3.length 0, m.p⟩, false) by simp [doM])
    go_enter Tryz.func24, Tryz.ntmps24
    go_upto_region 1 with fail
    obtain ⟨w1, hw1⟩ : ∃ v, v = w.setCell ⟨p, 7, none⟩ (.bool false) := ⟨_, rfl⟩
    try rw [← hw1]
    have hk1 : Wk w1 L p m false A1 C1 A2 C2 A3 C3 := by rw [hw1]; exact hk.bell false
    have hB1 : Below L w w1 := by rw [hw1]; exact hk.belowL 7 _
    clear hw1 hk d7 f7
    obtain ⟨l1, h1, l2, h2, l3, h3, o1, o2, o3, s⟩ := hk1.ex
    obtain ⟨w2, g2, q1, q2, hr2, o2', ht2⟩ := clear_own o2 rfl (by omega) 0
    have o3' := o3.touch ht2 (by omega)
    obtain ⟨w3, g3, q3, q4, hr3, o3'', ht3⟩ := clear_own o3' rfl (by omega) 0
    have c3 := hk1.bx.at_ 3 rfl
    have bx2 := hk1.bx.touch ht2 (by omega)
    have c5 := bx2.at_ 5 rfl
    have bx3 := bx2.touch ht3 (by omega)
    have hz2 := ht2.size
    have hz3 := ht3.size
    have hlt := hk1.bx.lt
    have HB := Lib.hid ((hB1.trans (ht2.below (by omega) (by have := hk1.lp; omega))).trans (ht3.below (by omega) (by have := hk1.lp; omega)))
    have HW : Hid (WkE w3 L p (⟨m.b1, m.z1, m.b2, List.replicate m.z2.length 0, m.b3, List.replicate m.z3.length 0, m.p⟩, false)) := Lib.hid (by
      refine ⟨A1, C1, A2, C2, A3, C3, by simp only [List.length_replicate]; exact bx3, hk1.lp, l1, h1, l2, h2, l3, h3, (o1.touch ht2 (by omega)).touch ht3 (by omega), by simp only [List.length_replicate]; exact o2'.touch ht3 (by omega), by simp only [List.length_replicate]; exact o3'', by omega⟩)
    clear o1 o2 o3 o2' o3' o3'' ht2 ht3 bx2 bx3 hk1 s hB1
    go_wp2
    first | go_end0 | refine bodyPost_ret (results_none (by first | rfl | kernel_rfl) _ _ _) rfl ?_
    exact ⟨rfl, by rw [HE.out]; exact HW.out, HB.out⟩
  · have HE := Lib.hid (show doM m 6 = (⟨m.b1, List.replicate m.z1.length 0, m.b2, m.z2, m.b3, m.z3, m.p⟩, false) by simp [doM])
    go_enter Tryz.func24, Tryz.ntmps24
    go_upto_region 1 with fail
    obtain ⟨w1, hw1⟩ : ∃ v, v = w.setCell ⟨p, 7, none⟩ (.bool false) := ⟨_, rfl⟩
    try rw [← hw1]
    have hk1 : Wk w1 L p m false A1 C1 A2 C2 A3 C3 := by rw [hw1]; exact hk.bell false
    have hB1 : Below L w w1 := by rw [hw1]; exact hk.belowL 7 _
    clear hw1 hk d7 f7
    obtain ⟨l1, h1, l2, h2, l3, h3, o1, o2, o3, s⟩ := hk1.ex
    obtain ⟨w2, g2, q1, q2, hr2, o1', ht2⟩ := clear_own o1 rfl (by omega) 0
    have c1 := hk1.bx.at_ 1 rfl
    have bx2 := hk1.bx.touch ht2 (by omega)
    have hz2 := ht2.size
    have hlt := hk1.bx.lt
    have HB := Lib.hid (hB1.trans (ht2.below (by omega) (by have := hk1.lp; omega)))
    have HW : Hid (WkE w2 L p (⟨m.b1, List.replicate m.z1.length 0, m.b2, m.z2, m.b3, m.z3, m.p⟩, false)) := Lib.hid (by
      refine ⟨A1, C1, A2, C2, A3, C3, by simp only [List.length_replicate]; exact bx2, hk1.lp, l1, h1, l2, h2, l3, h3, by simp only [List.length_replicate]; exact o1', o2.touch ht2 (by omega), o3.touch ht2 (by omega), by omega⟩)
    clear o1 o2 o3 o1' ht2 bx2 hk1 s hB1
    go_wp2
    first | go_end0 | refine bodyPost_ret (results_none (by first | rfl | kernel_rfl) _ _ _) rfl ?_
    exact ⟨rfl, by rw [HE.out]; exact HW.out, HB.out⟩
end Go.Proofs.YtlahobdopmdfmaaGreatDoor

/- MdsI -/
namespace Go.Proofs.YtlahobdopmdfmaaGreatDoor
open Go.RowKit

/-- The code of strokes that are to be made. -/
def scR (m : Mac) (l : List Int) : Int := if macB m = true then (if rangeB 1 6 l = true then 0 else 2) else 1
theorem rangeB_str (l : List Int) : rangeB 1 6 l = strB l := by
  rw [Bool.eq_iff_iff, rangeB_true, strB, decide_eq_true_eq]
  constructor
  · intro h k hk; exact inB_true (h k hk)
  · intro h k hk; rw [inB_eq, decide_eq_true_eq]; exact h k hk

set_option maxHeartbeats 1000000 in
theorem areStrokes_any (a : Option Addr) (c : Nat) (zs : List Int) (w : World) (ha : Rd w a zs) :
    Calls Tryz.prog 34 #[.slice a zs.length c] w fun e w' => e = .returned (.bool (rangeB 1 6 zs)) ∧ w' = w := by
  go_enter Tryz.func34, Tryz.ntmps34
  go_wp2_with fail
  refine (within_any 1 6 a c zs w ha).mono ?_
  rintro e w1 ⟨rfl, hw⟩
  subst w1
  go_wp2
  go_ret
  exact ⟨rfl, rfl⟩

set_option maxRecDepth 100000 in
set_option maxHeartbeats 2000000 in
theorem strokesCode_any (m : Mac) (A1 : Option Addr) (C1 : Nat) (A2 : Option Addr) (C2 : Nat) (A3 : Option Addr) (C3 : Nat) (a : Option Addr) (c : Nat) (zs : List Int) (w : World) (h : Rd3 w A1 m.z1 A2 m.z2 A3 m.z3) (z : All64 m.z1 ∧ All64 m.z2 ∧ All64 m.z3) (y : I64 m.b1 ∧ I64 m.b2 ∧ I64 m.b3 ∧ I64 m.p) (hD : BellD w) (ha : Rd w a zs) :
    Calls Tryz.prog 22 #[.agg #[.int .i64 m.b1, .slice A1 m.z1.length C1, .int .i64 m.b2, .slice A2 m.z2.length C2, .int .i64 m.b3, .slice A3 m.z3.length C3, .int .i64 m.p], .slice a zs.length c] w fun e w' => e = .returned (.int .i64 (scR m zs)) ∧ Below w.heap.size w w' := by
  obtain ⟨u, hu⟩ : ∃ u, u = w.alloc (.cells #[.int .i64 m.b1, .slice A1 m.z1.length C1, .int .i64 m.b2, .slice A2 m.z2.length C2, .int .i64 m.b3, .slice A3 m.z3.length C3, .int .i64 m.p] 28) := ⟨_, rfl⟩
  have hbel : Below w.heap.size w u := by rw [hu]; exact (by repeat (first | exact Below.refl _ _ | refine Below.setCell ?_ (by first | omega | (simp <;> omega)) _ | refine Below.alloc ?_ (by first | omega | (simp <;> omega)) _ | refine Below.drew ?_))
  have HV := Lib.hid (implValidMachine m A1 C1 A2 C2 A3 C3 u (h.below hbel) z y (hD.below hbel))
  have HU := Lib.hid hu
  clear hu h z y hD
  cases hm : macB m with
  | false =>
    have HR := Lib.hid (show scR m zs = 1 by simp [scR, hm])
    rw [hm] at HV
    clear hm
    go_enter Tryz.func22, Tryz.ntmps22
    go_wp2_with fail
    rw [← HU.out]
    refine HV.out.mono ?_
    rintro e w1 ⟨rfl, hb⟩
    go_wp2
    go_ret
    exact ⟨ret_int HR.out.symm, hbel.trans (hb.mono hbel.size)⟩
  | true =>
    rw [hm] at HV
    cases hs : rangeB 1 6 zs
    all_goals
      have HR := Lib.hid (show scR m zs = if rangeB 1 6 zs = true then 0 else 2 by simp [scR, hm])
      rw [hs] at HR
      simp only [if_true, if_false, Bool.false_eq_true] at HR
      clear hm
      go_enter Tryz.func22, Tryz.ntmps22
      go_wp2_with fail
      rw [← HU.out]
      refine HV.out.mono ?_
      rintro e w1 ⟨rfl, hb⟩
      replace hbel := hbel.trans (hb.mono hbel.size)
      clear hb
      go_wp2_with fail
      refine (areStrokes_any a c zs w1 (ha.below hbel)).mono ?_
      rintro e w2 ⟨rfl, hw⟩
      subst w2
      rw [hs]
      clear hs
      go_wp2
      go_ret
      exact ⟨ret_int HR.out.symm, hbel⟩

set_option maxRecDepth 100000 in
set_option maxHeartbeats 2000000 in
theorem workingOf_any (m : Mac) (A1 : Option Addr) (C1 : Nat) (A2 : Option Addr) (C2 : Nat) (A3 : Option Addr) (C3 : Nat) (w : World) (h : Rd3 w A1 m.z1 A2 m.z2 A3 m.z3) (n1 : 0 < m.z1.length) (n2 : 0 < m.z2.length) (n3 : 0 < m.z3.length) :
    Calls Tryz.prog 23 #[.agg #[.int .i64 m.b1, .slice A1 m.z1.length C1, .int .i64 m.b2, .slice A2 m.z2.length C2, .int .i64 m.b3, .slice A3 m.z3.length C3, .int .i64 m.p]] w fun e w' => ∃ p, e = .returned (.pointer (some ⟨p, 0, none⟩)) ∧ WkE w' w.heap.size p (m, false) ∧ Below w.heap.size w w' := by
  obtain ⟨u, hu⟩ : ∃ u, u = w.alloc (.cells #[.int .i64 m.b1, .slice A1 m.z1.length C1, .int .i64 m.b2, .slice A2 m.z2.length C2, .int .i64 m.b3, .slice A3 m.z3.length C3, .int .i64 m.p] 28) := ⟨_, rfl⟩
  have hbel : Below w.heap.size w u := by rw [hu]; exact (by repeat (first | exact Below.refl _ _ | refine Below.setCell ?_ (by first | omega | (simp <;> omega)) _ | refine Below.alloc ?_ (by first | omega | (simp <;> omega)) _ | refine Below.drew ?_))
  have HC := Lib.hid (copied_any m A1 C1 A2 C2 A3 C3 u (h.below hbel) n1 n2 n3)
  have hz := hbel.size
  have HU := Lib.hid hu
  clear hu h n1 n2 n3
  go_enter Tryz.func23, Tryz.ntmps23
  go_wp2_with fail
  rw [← HU.out]
  refine HC.out.mono ?_
  rintro e w1 ⟨D1, E1, D2, E2, D3, E3, rfl, own, hb⟩
  have hz1 := hb.size
  replace hbel := hbel.trans (hb.mono hbel.size)
  clear hb
  have HW : Hid (WkE (w1.alloc (.cells #[.int .i64 m.b1, .slice D1 m.z1.length E1, .int .i64 m.b2, .slice D2 m.z2.length E2, .int .i64 m.b3, .slice D3 m.z3.length E3, .int .i64 m.p, .bool false] 52)) w.heap.size w1.heap.size (m, false)) := Lib.hid (by
    obtain ⟨l1, h1, l2, h2, l3, h3, o1, o2, o3, s⟩ := own.ex
    exact ⟨D1, E1, D2, E2, D3, E3, Bx.new _ _ _, by omega, l1, h1, l2, h2, l3, h3, o1.alloc _, o2.alloc _, o3.alloc _, by simp; omega⟩)
  have HB := Lib.hid (hbel.alloc hbel.size (.cells #[.int .i64 m.b1, .slice D1 m.z1.length E1, .int .i64 m.b2, .slice D2 m.z2.length E2, .int .i64 m.b3, .slice D3 m.z3.length E3, .int .i64 m.p, .bool false] 52))
  clear own
  go_wp2
  go_ret
  exact ⟨_, rfl, HW.out, HB.out⟩

/-- A machine of its own, a bool, a code. -/
def MacBC (R : Mac × Bool × Int) (w : World) (e : Ending) (w' : World) : Prop := ∃ (A1 : Option Addr) (C1 : Nat) (A2 : Option Addr) (C2 : Nat) (A3 : Option Addr) (C3 : Nat),
  e = .returned (.tuple #[.agg #[.int .i64 R.1.b1, .slice A1 R.1.z1.length C1, .int .i64 R.1.b2, .slice A2 R.1.z2.length C2, .int .i64 R.1.b3, .slice A3 R.1.z3.length C3, .int .i64 R.1.p], .bool R.2.1, .int .i64 R.2.2]) ∧ Own3 2 w' w.heap.size w'.heap.size (.slice A1 R.1.z1.length C1) R.1.z1 (.slice A2 R.1.z2.length C2) R.1.z2 (.slice A3 R.1.z3.length C3) R.1.z3 ∧ Below w.heap.size w w'
theorem macBC_err {R : Mac × Bool × Int} {c : Int} {w w' : World} {e : Ending} (h : R = (mac0, false, c)) (he : e = .returned (.tuple #[.agg #[.int .i64 0, .slice none 0 0, .int .i64 0, .slice none 0 0, .int .i64 0, .slice none 0 0, .int .i64 0], .bool false, .int .i64 c])) (hb : Below w.heap.size w w') : MacBC R w e w' := by
  subst h
  exact ⟨none, 0, none, 0, none, 0, he, own3_nil _ _ _ _ hb.size, hb⟩
theorem macBC_ok {R : Mac × Bool × Int} {m : Mac} {t : Bool} {w w' : World} {A1 : Option Addr} {C1 : Nat} {A2 : Option Addr} {C2 : Nat} {A3 : Option Addr} {C3 : Nat} {lo hi : Nat} {e : Ending} (h : R = (m, t, 0)) (he : e = .returned (.tuple #[.agg #[.int .i64 m.b1, .slice A1 m.z1.length C1, .int .i64 m.b2, .slice A2 m.z2.length C2, .int .i64 m.b3, .slice A3 m.z3.length C3, .int .i64 m.p], .bool t, .int .i64 0]))
    (ho : Own3 2 w' lo hi (.slice A1 m.z1.length C1) m.z1 (.slice A2 m.z2.length C2) m.z2 (.slice A3 m.z3.length C3) m.z3) (hl : w.heap.size ≤ lo) (hh : hi ≤ w'.heap.size) (hb : Below w.heap.size w w') : MacBC R w e w' := by
  subst h
  exact ⟨A1, C1, A2, C2, A3, C3, he, ho.wide hl hh, hb⟩
theorem Wk.own {w : World} {L p : Nat} {m : Mac} {t : Bool} {A1 : Option Addr} {C1 : Nat} {A2 : Option Addr} {C2 : Nat} {A3 : Option Addr} {C3 : Nat} (h : Wk w L p m t A1 C1 A2 C2 A3 C3) : Own3 2 w L w.heap.size (.slice A1 m.z1.length C1) m.z1 (.slice A2 m.z2.length C2) m.z2 (.slice A3 m.z3.length C3) m.z3 := by
  obtain ⟨l1, h1, l2, h2, l3, h3, o1, o2, o3, s⟩ := h.ex
  exact ⟨l1, h1, l2, h2, l3, h3, o1, o2, o3, by omega⟩

set_option maxRecDepth 100000 in
set_option maxHeartbeats 8000000 in
theorem implDoStroke (m : Mac) (A1 : Option Addr) (C1 : Nat) (A2 : Option Addr) (C2 : Nat) (A3 : Option Addr) (C3 : Nat) (k : Int) (w : World) (h : Rd3 w A1 m.z1 A2 m.z2 A3 m.z3) (z : All64 m.z1 ∧ All64 m.z2 ∧ All64 m.z3) (y : I64 m.b1 ∧ I64 m.b2 ∧ I64 m.b3 ∧ I64 m.p) (_ : I64 k) (hD : BellD w) :
    Calls Tryz.prog 8 #[.agg #[.int .i64 m.b1, .slice A1 m.z1.length C1, .int .i64 m.b2, .slice A2 m.z2.length C2, .int .i64 m.b3, .slice A3 m.z3.length C3, .int .i64 m.p], .int .i64 k] w (MacBC (dsR m k) w) := by
  have R := Tryz.results8
  have hlen := h.len
  obtain ⟨g, hg⟩ : ∃ g, g = w.heap.size := ⟨_, rfl⟩
  obtain ⟨u, hu⟩ : ∃ u, u = (w.alloc (.cells #[.int .i64 m.b1, .slice A1 m.z1.length C1, .int .i64 m.b2, .slice A2 m.z2.length C2, .int .i64 m.b3, .slice A3 m.z3.length C3, .int .i64 m.p] 28)).alloc (.cells #[.int .i64 0, .slice none 0 0, .int .i64 0, .slice none 0 0, .int .i64 0, .slice none 0 0, .int .i64 0] 28) := ⟨_, rfl⟩
  have hbel : Below w.heap.size w u := by rw [hu]; exact (by repeat (first | exact Below.refl _ _ | refine Below.setCell ?_ (by first | omega | (simp <;> omega)) _ | refine Below.alloc ?_ (by first | omega | (simp <;> omega)) _ | refine Below.drew ?_))
  have bm : Bx u g 28 #[.int .i64 m.b1, .slice A1 m.z1.length C1, .int .i64 m.b2, .slice A2 m.z2.length C2, .int .i64 m.b3, .slice A3 m.z3.length C3, .int .i64 m.p] := by rw [hu, hg]; exact (Bx.new _ _ _).alloc _
  have br : Bx u (g + 1) 28 #[.int .i64 0, .slice none 0 0, .int .i64 0, .slice none 0 0, .int .i64 0, .slice none 0 0, .int .i64 0] := by rw [hu, hg]; simpa using Bx.new (w.alloc (.cells #[.int .i64 m.b1, .slice A1 m.z1.length C1, .int .i64 m.b2, .slice A2 m.z2.length C2, .int .i64 m.b3, .slice A3 m.z3.length C3, .int .i64 m.p] 28)) #[.int .i64 0, .slice none 0 0, .int .i64 0, .slice none 0 0, .int .i64 0, .slice none 0 0, .int .i64 0] 28
  have hgu : g + 1 < u.heap.size := br.lt
  obtain ⟨u2, hu2⟩ : ∃ v, v = u.alloc (.cells #[.int .i64 k] 2) := ⟨_, rfl⟩
  have hb2 : Below u.heap.size u u2 := by rw [hu2]; exact (Below.refl _ _).alloc (Nat.le_refl _) _
  have hdig : Rd u2 (some ⟨u.heap.size, 0, none⟩) [k] := by rw [hu2]; exact rd_new1 u k _
  have hbel2 : Below w.heap.size w u2 := hbel.trans (hb2.mono hbel.size)
  have HC0 := strokesCode_any m A1 C1 A2 C2 A3 C3 (some ⟨u.heap.size, 0, none⟩) 1 [k] u2 (h.below hbel2) z y (hD.below hbel2) hdig
  rw [List.length_singleton] at HC0
  have HC := Lib.hid HC0
  clear HC0
  have HG := Lib.hid hg
  have HU := Lib.hid hu
  have HU2 := Lib.hid hu2
  have HBM := Lib.hid bm
  have bm2 := bm.below hb2
  have br2 := br.below hb2
  have hg2 : g + 1 < u2.heap.size := br2.lt
  have HX : Hid ((macB m = true ∧ 1 ≤ k ∧ k ≤ 6 ∧ scR m [k] = 0 ∧ dsR m k = ((doM m k).1, (doM m k).2, 0)) ∨ ∃ c, scR m [k] = c ∧ c ≠ 0 ∧ dsR m k = (mac0, false, c)) := Lib.hid (by
    unfold scR dsR
    rw [within1, inB_eq]
    by_cases hm : macB m = true
    · by_cases hk : 1 ≤ k ∧ k ≤ 6
      · exact .inl ⟨hm, hk.1, hk.2, by simp [hm, hk], by simp [hm, hk]⟩
      · exact .inr ⟨2, by simp [hm]; omega, by omega, by simp [hm]; omega⟩
    · exact .inr ⟨1, by simp [hm], by omega, by simp [hm]⟩)
  clear hu z y hD hu2 hdig bm br hb2 hgu
  rcases HX.out with ⟨hm, h1, h6, hc, HR⟩ | ⟨c, hc, hne, HR⟩
  · rw [hc] at HC
    obtain ⟨e2, e3, b0, b1, n0, n12, n2, n3, n4, p0, p1, p2, d1, d2, d3⟩ := macB_facts hm
    have HK := Lib.hid (fun (v : World) (hb : Below w.heap.size w v) => workingOf_any m A1 C1 A2 C2 A3 C3 v (h.below hb) (by omega) (by omega) (by omega))
    have HM := Lib.hid hm
    have HN := Lib.hid (show 1 ≤ k ∧ k ≤ 6 from ⟨h1, h6⟩)
    clear hc HX h e2 e3 b0 b1 n0 n12 n2 n3 n4 p0 p1 p2 d1 d2 d3 hm h1 h6
    go_enter Tryz.func8, Tryz.ntmps8
    go_upto_region 1 with fail
    rw [← HU.out, ← hg]
    clear hg
    have x0 := HBM.out.at_ 0 rfl
    have x1 := HBM.out.at_ 1 rfl
    have x2 := HBM.out.at_ 2 rfl
    have x3 := HBM.out.at_ 3 rfl
    have x4 := HBM.out.at_ 4 rfl
    have x5 := HBM.out.at_ 5 rfl
    have x6 := HBM.out.at_ 6 rfl
    go_wp2_with fail
    rw [← HU2.out]
    clear x0 x1 x2 x3 x4 x5 x6
    with_reducible refine HC.out.mono ?_
    rintro e w1 ⟨rfl, hb⟩
    have hz1 := hb.size
    replace br2 := br2.below hb
    replace bm2 := bm2.below hb
    replace hbel2 := hbel2.trans (hb.mono hbel2.size)
    clear hb
    have c0 := bm2.at_ 0 rfl
    have c1 := bm2.at_ 1 rfl
    have c2 := bm2.at_ 2 rfl
    have c3 := bm2.at_ 3 rfl
    have c4 := bm2.at_ 4 rfl
    have c5 := bm2.at_ 5 rfl
    have c6 := bm2.at_ 6 rfl
    go_wp2_with fail
    refine (HK.out w1 hbel2).mono ?_
    rintro e w2 ⟨p, rfl, ⟨D1, E1, D2, E2, D3, E3, hk⟩, hb⟩
    have hz2 := hb.size
    replace br2 := br2.below hb
    replace hbel2 := hbel2.trans (hb.mono hbel2.size)
    clear hb c0 c1 c2 c3 c4 c5 c6 bm2
    go_wp2_with fail
    refine (stroke_any w1.heap.size p m false D1 E1 D2 E2 D3 E3 k w2 hk HM.out HN.out.1 HN.out.2).mono ?_
    rintro e w3 ⟨rfl, ⟨F1, G1, F2, G2, F3, G3, hk3⟩, hb⟩
    have hz3 := hb.size
    replace br2 := br2.lo hb (by omega)
    replace hbel2 := hbel2.trans (hb.mono (by have := HG.out; omega))
    clear hb hk HC HK
    obtain ⟨m3, hm3⟩ : ∃ x, x = (doM m k).1 := ⟨_, rfl⟩
    obtain ⟨t3, ht3⟩ : ∃ x, x = (doM m k).2 := ⟨_, rfl⟩
    rw [← hm3, ← ht3] at hk3 HR
    clear hm3 ht3
    have bx := hk3.bx
    have hpL := hk3.lp
    go_upto_region 6 with fail
    refine wp_region_marked (fun w' => Bx w' p 52 #[.int .i64 m3.b1, .slice F1 m3.z1.length G1, .int .i64 m3.b2, .slice F2 m3.z2.length G2, .int .i64 m3.b3, .slice F3 m3.z3.length G3, .int .i64 m3.p, .bool t3]) 10 (by kernel_rfl) ?_
    have hS : Bx w3.drew p 52 #[.int .i64 m3.b1, .slice F1 m3.z1.length G1, .int .i64 m3.b2, .slice F2 m3.z2.length G2, .int .i64 m3.b3, .slice F3 m3.z3.length G3, .int .i64 m3.p, .bool t3] := bx
    have k0 : ∀ w', Bx w' p 52 #[.int .i64 m3.b1, .slice F1 m3.z1.length G1, .int .i64 m3.b2, .slice F2 m3.z2.length G2, .int .i64 m3.b3, .slice F3 m3.z3.length G3, .int .i64 m3.p, .bool t3] → w'.cell? ⟨p, 0, none⟩ = some (.int .i64 m3.b1) := fun _ h => h.at_ 0 rfl
    have k1 : ∀ w', Bx w' p 52 #[.int .i64 m3.b1, .slice F1 m3.z1.length G1, .int .i64 m3.b2, .slice F2 m3.z2.length G2, .int .i64 m3.b3, .slice F3 m3.z3.length G3, .int .i64 m3.p, .bool t3] → w'.cell? ⟨p, 1, none⟩ = some (.slice F1 m3.z1.length G1) := fun _ h => h.at_ 1 rfl
    have k2 : ∀ w', Bx w' p 52 #[.int .i64 m3.b1, .slice F1 m3.z1.length G1, .int .i64 m3.b2, .slice F2 m3.z2.length G2, .int .i64 m3.b3, .slice F3 m3.z3.length G3, .int .i64 m3.p, .bool t3] → w'.cell? ⟨p, 2, none⟩ = some (.int .i64 m3.b2) := fun _ h => h.at_ 2 rfl
    have k3 : ∀ w', Bx w' p 52 #[.int .i64 m3.b1, .slice F1 m3.z1.length G1, .int .i64 m3.b2, .slice F2 m3.z2.length G2, .int .i64 m3.b3, .slice F3 m3.z3.length G3, .int .i64 m3.p, .bool t3] → w'.cell? ⟨p, 3, none⟩ = some (.slice F2 m3.z2.length G2) := fun _ h => h.at_ 3 rfl
    have k4 : ∀ w', Bx w' p 52 #[.int .i64 m3.b1, .slice F1 m3.z1.length G1, .int .i64 m3.b2, .slice F2 m3.z2.length G2, .int .i64 m3.b3, .slice F3 m3.z3.length G3, .int .i64 m3.p, .bool t3] → w'.cell? ⟨p, 4, none⟩ = some (.int .i64 m3.b3) := fun _ h => h.at_ 4 rfl
    have k5 : ∀ w', Bx w' p 52 #[.int .i64 m3.b1, .slice F1 m3.z1.length G1, .int .i64 m3.b2, .slice F2 m3.z2.length G2, .int .i64 m3.b3, .slice F3 m3.z3.length G3, .int .i64 m3.p, .bool t3] → w'.cell? ⟨p, 5, none⟩ = some (.slice F3 m3.z3.length G3) := fun _ h => h.at_ 5 rfl
    have k6 : ∀ w', Bx w' p 52 #[.int .i64 m3.b1, .slice F1 m3.z1.length G1, .int .i64 m3.b2, .slice F2 m3.z2.length G2, .int .i64 m3.b3, .slice F3 m3.z3.length G3, .int .i64 m3.p, .bool t3] → w'.cell? ⟨p, 6, none⟩ = some (.int .i64 m3.p) := fun _ h => h.at_ 6 rfl
    have k7 : ∀ w', Bx w' p 52 #[.int .i64 m3.b1, .slice F1 m3.z1.length G1, .int .i64 m3.b2, .slice F2 m3.z2.length G2, .int .i64 m3.b3, .slice F3 m3.z3.length G3, .int .i64 m3.p, .bool t3] → w'.cell? ⟨p, 7, none⟩ = some (.bool t3) := fun _ h => h.at_ 7 rfl
    refine wpAnyM_take (i := 0) (v := ?_) rfl (by kernel_rfl) (by kernel_rfl) (by kernel_rfl) (by kernel_rfl) (by kernel_rfl) (fun _ _ _ h => h) hS (.inl ⟨by rfl, ?_⟩) ?_
    rotate_left 1
    · intro w' hS'; go_simp; try with_reducible rfl
    simp only [Act.put, List.setIfInBounds_toArray, List.set_cons_succ, List.set_cons_zero, List.getElem_toArray, List.getElem_cons_zero]
    refine wpAnyM_take (i := 1) (v := ?_) rfl (by kernel_rfl) (by kernel_rfl) (by kernel_rfl) (by kernel_rfl) (by kernel_rfl) (fun _ _ _ h => h) hS (.inl ⟨by rfl, ?_⟩) ?_
    rotate_left 1
    · intro w' hS'; go_simp; try with_reducible rfl
    simp only [Act.put, List.setIfInBounds_toArray, List.set_cons_succ, List.set_cons_zero, List.getElem_toArray, List.getElem_cons_succ, List.getElem_cons_zero]
    refine wpAnyM_take (i := 2) (v := ?_) rfl (by kernel_rfl) (by kernel_rfl) (by kernel_rfl) (by kernel_rfl) (by kernel_rfl) (fun _ _ _ h => h) hS (.inl ⟨by rfl, ?_⟩) ?_
    rotate_left 1
    · intro w' hS'; go_simp; try with_reducible rfl
    simp only [Act.put, List.setIfInBounds_toArray, List.set_cons_succ, List.set_cons_zero, List.getElem_toArray, List.getElem_cons_succ, List.getElem_cons_zero]
    refine wpAnyM_take (i := 3) (v := ?_) rfl (by kernel_rfl) (by kernel_rfl) (by kernel_rfl) (by kernel_rfl) (by kernel_rfl) (fun _ _ _ h => h) hS (.inl ⟨by rfl, ?_⟩) ?_
    rotate_left 1
    · intro w' hS'; go_simp; try with_reducible rfl
    simp only [Act.put, List.setIfInBounds_toArray, List.set_cons_succ, List.set_cons_zero, List.getElem_toArray, List.getElem_cons_succ, List.getElem_cons_zero]
    refine wpAnyM_take (i := 4) (v := ?_) rfl (by kernel_rfl) (by kernel_rfl) (by kernel_rfl) (by kernel_rfl) (by kernel_rfl) (fun _ _ _ h => h) hS (.inl ⟨by rfl, ?_⟩) ?_
    rotate_left 1
    · intro w' hS'; go_simp; try with_reducible rfl
    simp only [Act.put, List.setIfInBounds_toArray, List.set_cons_succ, List.set_cons_zero, List.getElem_toArray, List.getElem_cons_succ, List.getElem_cons_zero]
    refine wpAnyM_take (i := 5) (v := ?_) rfl (by kernel_rfl) (by kernel_rfl) (by kernel_rfl) (by kernel_rfl) (by kernel_rfl) (fun _ _ _ h => h) hS (.inl ⟨by rfl, ?_⟩) ?_
    rotate_left 1
    · intro w' hS'; go_simp; try with_reducible rfl
    simp only [Act.put, List.setIfInBounds_toArray, List.set_cons_succ, List.set_cons_zero, List.getElem_toArray, List.getElem_cons_succ, List.getElem_cons_zero]
    refine wpAnyM_take (i := 6) (v := ?_) rfl (by kernel_rfl) (by kernel_rfl) (by kernel_rfl) (by kernel_rfl) (by kernel_rfl) (fun _ _ _ h => h) hS (.inl ⟨by rfl, ?_⟩) ?_
    rotate_left 1
    · intro w' hS'; go_simp; try with_reducible rfl
    simp only [Act.put, List.setIfInBounds_toArray, List.set_cons_succ, List.set_cons_zero, List.getElem_toArray, List.getElem_cons_succ, List.getElem_cons_zero]
    refine wpAnyM_take (i := 7) (v := ?_) rfl (by kernel_rfl) (by kernel_rfl) (by kernel_rfl) (by kernel_rfl) (by kernel_rfl) (fun _ _ _ h => h) hS (.inl ⟨by rfl, ?_⟩) ?_
    rotate_left 1
    · intro w' hS'; go_simp; try with_reducible rfl
    simp only [Act.put, List.setIfInBounds_toArray, List.set_cons_succ, List.set_cons_zero, List.getElem_toArray, List.getElem_cons_succ, List.getElem_cons_zero]
    clear k0 k1 k2 k3 k4 k5 k6 k7
    have j0 := br2.at_ 0 rfl
    have j1 := br2.at_ 1 rfl
    have j2 := br2.at_ 2 rfl
    have j3 := br2.at_ 3 rfl
    have j4 := br2.at_ 4 rfl
    have j5 := br2.at_ 5 rfl
    have j6 := br2.at_ 6 rfl
    have f0 := br2.thaw 0
    have f1 := br2.thaw 1
    have f2 := br2.thaw 2
    have f3 := br2.thaw 3
    have f4 := br2.thaw 4
    have f5 := br2.thaw 5
    have f6 := br2.thaw 6
    have hl := br2.lt
    refine wpAnyM_one (i := 8) (by kernel_rfl) rfl (by rfl) (fun K hK => ?_)
    go_simp
    obtain ⟨w8, hw8⟩ : ∃ v, v = World.drew (((((((w3.setCell ⟨g + 1, 0, none⟩ (.int .i64 m3.b1)).setCell ⟨g + 1, 1, none⟩ (.slice F1 m3.z1.length G1)).setCell ⟨g + 1, 2, none⟩ (.int .i64 m3.b2)).setCell ⟨g + 1, 3, none⟩ (.slice F2 m3.z2.length G2)).setCell ⟨g + 1, 4, none⟩ (.int .i64 m3.b3)).setCell ⟨g + 1, 5, none⟩ (.slice F3 m3.z3.length G3)).setCell ⟨g + 1, 6, none⟩ (.int .i64 m3.p)) := ⟨_, rfl⟩
    rw [← hw8]
    have b9 : Bx w8 (g + 1) 28 #[.int .i64 m3.b1, .slice F1 m3.z1.length G1, .int .i64 m3.b2, .slice F2 m3.z2.length G2, .int .i64 m3.b3, .slice F3 m3.z3.length G3, .int .i64 m3.p] := by rw [hw8]; exact (bx_put7 br2).drew
    have t9 : Touch (g + 1) (g + 1 + 1) w3 w8 := by rw [hw8]; exact (touch_put7 _ _).drewN 1
    have hS8 : Bx w8 p 52 #[.int .i64 m3.b1, .slice F1 m3.z1.length G1, .int .i64 m3.b2, .slice F2 m3.z2.length G2, .int .i64 m3.b3, .slice F3 m3.z3.length G3, .int .i64 m3.p, .bool t3] := (show Bx w3 p 52 #[.int .i64 m3.b1, .slice F1 m3.z1.length G1, .int .i64 m3.b2, .slice F2 m3.z2.length G2, .int .i64 m3.b3, .slice F3 m3.z3.length G3, .int .i64 m3.p, .bool t3] from hS).touch t9 (by omega)
    have hO : Own3 2 w8 w1.heap.size w3.heap.size (.slice F1 m3.z1.length G1) m3.z1 (.slice F2 m3.z2.length G2) m3.z2 (.slice F3 m3.z3.length G3) m3.z3 := hk3.own.touch t9 (.inr (by omega))
    have hbF : Below w.heap.size w w8 := hbel2.trans (t9.below (by have := HG.out; omega) hbel2.size)
    have hz8 := t9.size
    clear hw8 j0 j1 j2 j3 j4 j5 j6 f0 f1 f2 f3 f4 f5 f6 hl hk3 t9 bx
    refine hK _ _ (.inr hS8) ?_
    try simp only [Act.put, List.setIfInBounds_toArray, List.set_cons_succ, List.set_cons_zero, List.getElem_toArray, List.getElem_cons_succ, List.getElem_cons_zero]
    clear hK K
    refine wpAnyM_one (i := 9) (by kernel_rfl) rfl (by rfl) (fun K hK => ?_)
    go_simp
    refine hK _ _ (.inr hS8) ?_
    try simp only [Act.put, List.setIfInBounds_toArray, List.set_cons_succ, List.set_cons_zero, List.getElem_toArray, List.getElem_cons_succ, List.getElem_cons_zero]
    clear hK K
    refine wpAnyM_one (i := 10) (by kernel_rfl) rfl (by rfl) (fun K hK => ?_)
    go_simp
    refine hK _ _ (.inl rfl) ?_
    try simp only [Act.put, List.setIfInBounds_toArray, List.set_cons_succ, List.set_cons_zero, List.getElem_toArray, List.getElem_cons_succ, List.getElem_cons_zero]
    clear hK K
    refine wpAnyM_done (by kernel_rfl) ?_ _
    have c0 := b9.at_ 0 rfl
    have c1 := b9.at_ 1 rfl
    have c2 := b9.at_ 2 rfl
    have c3 := b9.at_ 3 rfl
    have c4 := b9.at_ 4 rfl
    have c5 := b9.at_ 5 rfl
    have c6 := b9.at_ 6 rfl
    have HO := Lib.hid hO
    have HBF := Lib.hid hbF
    have HZ := Lib.hid (show w.heap.size ≤ w1.heap.size ∧ w3.heap.size ≤ w8.heap.size by have := HG.out; omega)
    clear hO hbF hS hS8 br2 b9 hz1 hz2 hz3 hz8
    go_wp2
    exact bodyPost_ret (v := .tuple #[.agg #[.int .i64 m3.b1, .slice F1 m3.z1.length G1, .int .i64 m3.b2, .slice F2 m3.z2.length G2, .int .i64 m3.b3, .slice F3 m3.z3.length G3, .int .i64 m3.p], .bool t3, .int .i64 0]) (by simp [results, go_sem, c0, c1, c2, c3, c4, c5, c6]) rfl
      (macBC_ok HR rfl HO.out HZ.out.1 HZ.out.2 HBF.out)
  · rw [hc] at HC
    have hnb : (c != 0) = true := by simp [hne]
    clear hc hne HX h
    go_enter Tryz.func8, Tryz.ntmps8
    go_upto_region 1 with fail
    rw [← HU.out, ← hg]
    clear hg
    have x0 := HBM.out.at_ 0 rfl
    have x1 := HBM.out.at_ 1 rfl
    have x2 := HBM.out.at_ 2 rfl
    have x3 := HBM.out.at_ 3 rfl
    have x4 := HBM.out.at_ 4 rfl
    have x5 := HBM.out.at_ 5 rfl
    have x6 := HBM.out.at_ 6 rfl
    go_wp2_with fail
    rw [← HU2.out]
    clear x0 x1 x2 x3 x4 x5 x6
    with_reducible refine HC.out.mono ?_
    rintro e w1 ⟨rfl, hb⟩
    replace br2 := br2.below hb
    replace hbel2 := hbel2.trans (hb.mono hbel2.size)
    clear hb bm2
    have r0 := br2.at_ 0 rfl
    have r1 := br2.at_ 1 rfl
    have r2 := br2.at_ 2 rfl
    have r3 := br2.at_ 3 rfl
    have r4 := br2.at_ 4 rfl
    have r5 := br2.at_ 5 rfl
    have r6 := br2.at_ 6 rfl
    have f0 := br2.thaw 0
    have f1 := br2.thaw 1
    have f2 := br2.thaw 2
    have f3 := br2.thaw 3
    have f4 := br2.thaw 4
    have f5 := br2.thaw 5
    have f6 := br2.thaw 6
    have hl := br2.lt
    go_wp2
    exact bodyPost_ret (v := .tuple #[.agg #[.int .i64 0, .slice none 0 0, .int .i64 0, .slice none 0 0, .int .i64 0, .slice none 0 0, .int .i64 0], .bool false, .int .i64 c]) (by simp [results, go_sem, r0, r1, r2, r3, r4, r5, r6]) rfl (macBC_err HR rfl (by have := HG.out; exact (by repeat (first | with_reducible exact hbel2 | with_reducible refine Below.setCell ?_ (by first | omega | (simp <;> omega)) _ | with_reducible refine Below.alloc ?_ (by first | omega | (simp <;> omega)) _ | with_reducible refine Below.drew ?_))))
end Go.Proofs.YtlahobdopmdfmaaGreatDoor

/- MdtI -/
namespace Go.Proofs.YtlahobdopmdfmaaGreatDoor
open Go.RowKit

/-- A machine of its own, a number, a code. -/
def MacIC (R : Mac × Int × Int) (w : World) (e : Ending) (w' : World) : Prop := ∃ (A1 : Option Addr) (C1 : Nat) (A2 : Option Addr) (C2 : Nat) (A3 : Option Addr) (C3 : Nat),
  e = .returned (.tuple #[.agg #[.int .i64 R.1.b1, .slice A1 R.1.z1.length C1, .int .i64 R.1.b2, .slice A2 R.1.z2.length C2, .int .i64 R.1.b3, .slice A3 R.1.z3.length C3, .int .i64 R.1.p], .int .i64 R.2.1, .int .i64 R.2.2]) ∧ Own3 2 w' w.heap.size w'.heap.size (.slice A1 R.1.z1.length C1) R.1.z1 (.slice A2 R.1.z2.length C2) R.1.z2 (.slice A3 R.1.z3.length C3) R.1.z3 ∧ Below w.heap.size w w'
theorem macIC_err {R : Mac × Int × Int} {c : Int} {w w' : World} {e : Ending} (h : R = (mac0, 0, c)) (he : e = .returned (.tuple #[.agg #[.int .i64 0, .slice none 0 0, .int .i64 0, .slice none 0 0, .int .i64 0, .slice none 0 0, .int .i64 0], .int .i64 0, .int .i64 c])) (hb : Below w.heap.size w w') : MacIC R w e w' := by
  subst h
  exact ⟨none, 0, none, 0, none, 0, he, own3_nil _ _ _ _ hb.size, hb⟩
theorem macIC_ok {R : Mac × Int × Int} {m : Mac} {t : Int} {w w' : World} {A1 : Option Addr} {C1 : Nat} {A2 : Option Addr} {C2 : Nat} {A3 : Option Addr} {C3 : Nat} {lo hi : Nat} {e : Ending} (h : R = (m, t, 0)) (he : e = .returned (.tuple #[.agg #[.int .i64 m.b1, .slice A1 m.z1.length C1, .int .i64 m.b2, .slice A2 m.z2.length C2, .int .i64 m.b3, .slice A3 m.z3.length C3, .int .i64 m.p], .int .i64 t, .int .i64 0]))
    (ho : Own3 2 w' lo hi (.slice A1 m.z1.length C1) m.z1 (.slice A2 m.z2.length C2) m.z2 (.slice A3 m.z3.length C3) m.z3) (hl : w.heap.size ≤ lo) (hh : hi ≤ w'.heap.size) (hb : Below w.heap.size w w') : MacIC R w e w' := by
  subst h
  exact ⟨A1, C1, A2, C2, A3, C3, he, ho.wide hl hh, hb⟩

/-- What is left when k strokes have been made without a bell. -/
def RunTo (m : Mac) (l : List Int) (k : Nat) (mk : Mac) : Prop := macB mk = true ∧ runM m l = ((runM mk (l.drop k)).1, (runM mk (l.drop k)).2 + k)
theorem runTo_zero {m : Mac} (h : macB m = true) (l : List Int) : RunTo m l 0 m := ⟨h, by simp⟩
theorem runTo_bell {m mk : Mac} {l : List Int} {k : Nat} (h : RunTo m l k mk) (hk : k < l.length) (hb : (doM mk (nth l k)).2 = true) : runM m l = ((doM mk (nth l k)).1, (k : Int) + 1) := by
  rw [h.2, drop_nth hk, runM, if_pos hb]; simp only [Prod.mk.injEq, true_and]; omega
theorem runTo_next {m mk : Mac} {l : List Int} {k : Nat} (h : RunTo m l k mk) (hk : k < l.length) (hb : (doM mk (nth l k)).2 = false) : RunTo m l (k + 1) (doM mk (nth l k)).1 := by
  refine ⟨doM_ok h.1 _, ?_⟩
  rw [h.2, drop_nth hk, runM, if_neg (by rw [hb]; simp)]
  simp only [Prod.mk.injEq, true_and]; omega
theorem runTo_end {m mk : Mac} {l : List Int} (h : RunTo m l l.length mk) : runM m l = (mk, (l.length : Int)) := by
  rw [h.2, List.drop_length, runM]; simp

end Go.Proofs.YtlahobdopmdfmaaGreatDoor

/- MmvS -/
namespace Go.Proofs.YtlahobdopmdfmaaGreatDoor
open Go.RowKit Go.BigFrame

set_option maxRecDepth 100000 in
set_option maxHeartbeats 8000000 in
theorem l10Move_any (p o : Nat) (B : Int) (A : Option Addr) (C : Nat) (zs : List Int) (x : Int) (w : World) (ha : Rd w A zs) (hp0 : w.cell? ⟨p, o, none⟩ = some (.int .i64 B)) (hp1 : w.cell? ⟨p, o + 1, none⟩ = some (.slice A zs.length C)) (h : accB B zs = true)
    (x0 : -1000000000001 ≤ x) (x1 : x ≤ 1000000000001) :
    Calls Tryz.prog 113 #[.pointer (some ⟨p, o, none⟩), .int .i64 x] w fun e w' => ∃ D E, e = .returned (.tuple #[.agg #[.int .i64 B, .slice D zs.length E], .bool (movO B zs x)]) ∧
      Own 2 w' w.heap.size w'.heap.size (.slice D zs.length E) (movZ B zs x) ∧ Below w.heap.size w w' := by
  have R := Tryz.results113
  have hpl : p < w.heap.size := World.block_lt_of_cell? _ _ hp0
  obtain ⟨hok, hf⟩ := accB_spec h
  obtain ⟨b0, b1, n0, n1, hd, hv⟩ := okB_spec hok
  have hlt := valR_lt (show 1 ≤ B by omega) hd
  have hpw := pow_mono' b0 n0
  rw [Int.pow_one] at hpw
  have HP := Lib.hid (fun v => l10Power_any B zs.length v (by omega) b1 n1)
  rw [capW_full hf] at HP
  have HV := Lib.hid (fun (v : World) (hb : Below w.heap.size w v) => l02Value_any B A C zs v (ha.below hb) b0 b1 hd)
  rw [capV_ok b0 hd hv] at HV
  have HZ := Lib.hid (show movZ B zs x = digsR B zs.length ((valR B zs + x) % B ^ zs.length) from rfl)
  have HO := Lib.hid (show movO B zs x = !(inB (valR B zs + x) 0 (B ^ zs.length - 1)) by rw [movO, inB_dec])
  obtain ⟨N, hN⟩ : ∃ N, N = B ^ zs.length := ⟨_, rfl⟩
  obtain ⟨V, hV⟩ : ∃ V, V = valR B zs := ⟨_, rfl⟩
  rw [← hN] at HP HZ HO hlt hpw hf
  rw [← hV] at HV HZ HO hlt hv
  obtain ⟨m1, m2, m3⟩ := mod_twiceS (n := V + x) (c := N) (by omega)
  have hm0 := Int.emod_nonneg (V + x) (show N ≠ 0 by omega)
  have hm1 := Int.emod_lt_of_pos (V + x) (show 0 < N by omega)
  obtain ⟨r, hr⟩ : ∃ r, (V + x).tmod N = r := ⟨_, rfl⟩
  obtain ⟨q, hq⟩ : ∃ q, q = (V + x) % N := ⟨_, rfl⟩
  rw [hr] at m1 m2 m3
  rw [← hq] at m3 hm0 hm1 HZ
  have hc0 : ¬ N = 0 := by omega
  have hws : IntKind.i64.wrap (V + x) = V + x := IntWalk.i64_in _ (by omega)
  have hw1 : IntKind.i64.wrap (r + N) = r + N := IntWalk.i64_in _ (by omega)
  have hw2 : wrap64 (r + N) = r + N := by unfold wrap64; omega
  have hw3 : IntKind.i64.wrap (N - 1) = N - 1 := IntWalk.i64_in _ (by omega)
  have HN := Lib.hid (fun v => specl02New_any B q zs.length v b0 b1 n1 hm0 (by omega))
  have HI := Lib.hid (fun v => l00In_any (V + x) 0 (N - 1) v)
  obtain ⟨t, ht⟩ : ∃ t, t = inB (V + x) 0 (N - 1) := ⟨_, rfl⟩
  rw [← ht] at HI HO
  have HL := Lib.hid (digsR_len B zs.length q)
  obtain ⟨Z, hZ⟩ : ∃ Z, Z = digsR B zs.length q := ⟨_, rfl⟩
  rw [← hZ] at HN HZ HL
  obtain ⟨k, hk⟩ : ∃ k, k = leftR B zs.length q := ⟨_, rfl⟩
  rw [← hk] at HN
  obtain ⟨g, hg⟩ : ∃ g, g = w.heap.size := ⟨_, rfl⟩
  obtain ⟨u, hu⟩ : ∃ u, u = w.alloc (.cells #[.int .i64 0, .slice none 0 0] 26) := ⟨_, rfl⟩
  have hbel : Below w.heap.size w u := by rw [hu]; exact (by repeat (first | exact Below.refl _ _ | refine Below.setCell ?_ (by first | omega | (simp <;> omega)) _ | refine Below.alloc ?_ (by first | omega | (simp <;> omega)) _ | refine Below.drew ?_))
  have br : Bx u g 26 #[.int .i64 0, .slice none 0 0] := by rw [hu, hg]; exact Bx.new _ _ _
  have hgu : g < u.heap.size := br.lt
  have hpg : p < g := by omega
  have HG := Lib.hid hg
  have HU := Lib.hid hu
  have c0 := kept hbel hp0
  have c1 := kept hbel hp1
  clear hu h hok hf b0 b1 n0 n1 hd hv hlt hpw hN hV hq hZ hk ha hp0 hp1 ht hm0 hm1 m1 m2 x0 x1
  go_enter Tryz.func113, Tryz.ntmps113
  go_upto_region 1 with fail
  rw [← HU.out, ← hg]
  clear hg
  go_wp2_with fail
  refine (HP.out u).mono ?_
  rintro e w1 ⟨rfl, hw⟩
  subst w1
  go_upto_region 3 with fail
  have k0 := kept_after c0
  have k1 := kept_after c1
  have HV2 := Lib.hid (fun (v : World) (hb : Below u.heap.size u v) => HV.out v (hbel.trans (hb.mono hbel.size)))
  refine wp_region_after (by kernel_rfl) (by kernel_rfl) ?_
  repeat (go_big_quiet_step ((go_at_call 110; exact calls_after ((HV2.out _ (After.ok _)).mono fun e w' ⟨x, y⟩ => ⟨x, (by rw [y]; exact Below.refl _ _)⟩))))
  refine wpQuiet_nil ?_
  intro uu
  clear k0 k1 HV2 HV
  obtain ⟨W, hW⟩ : ∃ W, W = uu.now := ⟨_, rfl⟩
  have hbW : Below u.heap.size u W := by rw [hW]; exact uu.ok
  rw [← hW]
  clear hW uu
  have hzW := hbW.size
  replace br := br.below hbW
  replace c0 := kept hbW c0
  replace c1 := kept hbW c1
  replace hbel := hbel.trans (hbW.mono hbel.size)
  clear hbW
  go_upto_region 4 with fail
  go_cut [9, 10] from 11 (fun sl9 sl10 wx => BoxReg W B Z sl9 wx ∧ sl10 = .int .i64 k)
  case first =>
    have k0 := kept_all c0
    have k1 := kept_all c1
    clear br
    go_region_held3 (fun w' => Below W.heap.size W w') (first | exact hk | exact (Below.refl _ _).drew | exact hk.alloc hk.size _ | exact (Below.refl _ _).drew.alloc (Nat.le_refl _) _ | exact (hk.alloc hk.size _).setCell hk.size _ | exact (hk.setCell bg.out _).setCell bg.out _)
      (first
      | (go_at_call 82; have qB := ‹Below W.heap.size W _›; ((with_reducible refine (HN.out ((W.alloc (.cells #[.int .i64 0, .slice none 0 0] 26)).drew)).mono ?_)); rintro e w3 ⟨D, E, rfl, own, hb⟩; have bz := ((Bx.new W #[.int .i64 0, .slice none 0 0] 26).drew); have bg : Hid (W.heap.size ≤ W.drew.heap.size) := Lib.hid (Nat.le_refl _); have bh := Lib.hid bz.lt; replace bz := bz.below hb; have bz0 := bz.at_ 0 rfl; have bf0 := bz.thaw 0; have bz1 := bz.at_ 1 rfl; have bf1 := bz.thaw 1; have hkU := qB; have hbU := hb; have hk := qB.trans (hb.mono qB.size))
      | (go_at_call 82; have qB := ‹Below W.heap.size W _›; ((with_reducible refine (HN.out W.drew).mono ?_)); rintro e w3 ⟨D, E, rfl, own, hb⟩; have hkU := qB; have hbU := hb; have hk := qB.trans (hb.mono qB.size)))
    all_goals (go_wp2_with fail; go_meet; case rel => (rw [← HL.out] at own ⊢; first | with_reducible exact ⟨boxReg_after hkU hbU own, rfl⟩ | with_reducible exact ⟨boxReg_before hkU hbU own bz bg bh, rfl⟩ | exact ⟨boxReg_after hkU hbU own, rfl⟩ | exact ⟨boxReg_before hkU hbU own bz bg bh, rfl⟩))
  case rest =>
  obtain ⟨⟨c, A', C', lo, hi, rfl, cq0, cq1, own, s1, s2, s3, s4, s5, hb⟩, rfl⟩ := hcut
  obtain ⟨w2, rfl⟩ : ∃ u, u = wc := ⟨_, rfl⟩
  have hz2 := hb.size
  replace br := br.below hb
  replace hbel := hbel.trans (hb.mono hbel.size)
  rw [HL.out] at cq1 own
  clear hb c0 c1 HN
  have hcg : ¬ c = g := by have := s3.out; omega
  have hgc : ¬ g = c := fun e => hcg e.symm
  go_upto_region 5 with fail
  refine wp_region_marked (fun w' => w'.cell? ⟨c, 0, none⟩ = some (.int .i64 B) ∧ w'.cell? ⟨c, 1, none⟩ = some (.slice A' zs.length C')) 7 (by kernel_rfl) ?_
  have hS : w2.drew.cell? ⟨c, 0, none⟩ = some (.int .i64 B) ∧ w2.drew.cell? ⟨c, 1, none⟩ = some (.slice A' zs.length C') := ⟨cq0, cq1⟩
  have k0 : ∀ w' : World, (w'.cell? ⟨c, 0, none⟩ = some (.int .i64 B) ∧ w'.cell? ⟨c, 1, none⟩ = some (.slice A' zs.length C')) → w'.cell? ⟨c, 0, none⟩ = some (.int .i64 B) := fun _ h => h.1
  have k1 : ∀ w' : World, (w'.cell? ⟨c, 0, none⟩ = some (.int .i64 B) ∧ w'.cell? ⟨c, 1, none⟩ = some (.slice A' zs.length C')) → w'.cell? ⟨c, 1, none⟩ = some (.slice A' zs.length C') := fun _ h => h.2
  refine wpAnyM_take (i := 0) (v := ?_) rfl (by kernel_rfl) (by kernel_rfl) (by kernel_rfl) (by kernel_rfl) (by kernel_rfl) (fun _ _ _ h => h) hS (.inl ⟨by rfl, ?_⟩) ?_
  rotate_left 1
  · intro w' hS'; go_simp; try with_reducible rfl
  simp only [Act.put, List.setIfInBounds_toArray, List.set_cons_succ, List.set_cons_zero, List.getElem_toArray, List.getElem_cons_zero]
  clear k0 k1
  refine wpAnyM_take (i := 1) (v := ?_) rfl (by kernel_rfl) (by kernel_rfl) (by kernel_rfl) (by kernel_rfl) (by kernel_rfl) (fun _ _ _ h => h) hS (.inl ⟨by rfl, ?_⟩) ?_
  rotate_left 1
  · intro w' hS'; go_simp; try with_reducible rfl
  simp only [Act.put, List.setIfInBounds_toArray, List.set_cons_succ, List.set_cons_zero, List.getElem_toArray, List.getElem_cons_succ, List.getElem_cons_zero]
  refine wpAnyM_take (i := 2) (v := ?_) rfl (by kernel_rfl) (by kernel_rfl) (by kernel_rfl) (by kernel_rfl) (by kernel_rfl) (fun _ _ _ h => h) hS (.inl ⟨by rfl, ?_⟩) ?_
  rotate_left 1
  · intro w' hS'; go_simp; try with_reducible rfl
  simp only [Act.put, List.setIfInBounds_toArray, List.set_cons_succ, List.set_cons_zero, List.getElem_toArray, List.getElem_cons_succ, List.getElem_cons_zero]
  refine wpAnyM_take (i := 3) (v := ?_) rfl (by kernel_rfl) (by kernel_rfl) (by kernel_rfl) (by kernel_rfl) (by kernel_rfl) (fun _ _ _ h => h) hS (.inl ⟨by rfl, ?_⟩) ?_
  rotate_left 1
  · intro w' hS'; go_simp; try with_reducible rfl
  simp only [Act.put, List.setIfInBounds_toArray, List.set_cons_succ, List.set_cons_zero, List.getElem_toArray, List.getElem_cons_succ, List.getElem_cons_zero]
  refine wpAnyM_one (i := 4) (by kernel_rfl) rfl (by rfl) (fun K hK => ?_)
  go_simp
  refine (HI.out w2.drew).mono ?_
  rintro e w3 ⟨rfl, hw⟩
  subst w3
  refine hK _ _ (.inr hS) ?_
  try simp only [Act.put, List.setIfInBounds_toArray, List.set_cons_succ, List.set_cons_zero, List.getElem_toArray, List.getElem_cons_succ, List.getElem_cons_zero]
  clear hK K
  refine wpAnyM_take (i := 5) (v := ?_) rfl (by kernel_rfl) (by kernel_rfl) (by kernel_rfl) (by kernel_rfl) (by kernel_rfl) (fun _ _ _ h => h) hS (.inl ⟨by rfl, ?_⟩) ?_
  rotate_left 1
  · intro w' hS'; go_simp; try with_reducible rfl
  simp only [Act.put, List.setIfInBounds_toArray, List.set_cons_succ, List.set_cons_zero, List.getElem_toArray, List.getElem_cons_succ, List.getElem_cons_zero]
  have r0 := br.at_ 0 rfl
  have r1 := br.at_ 1 rfl
  have f0 := br.thaw 0
  have f1 := br.thaw 1
  have hl := br.lt
  clear cq0 cq1
  refine wpAnyM_one (i := 6) (by kernel_rfl) rfl (by rfl) (fun K hK => ?_)
  go_simp
  obtain ⟨w8, hw8⟩ : ∃ v, v = World.drew ((w2.setCell ⟨g, 0, none⟩ (.int .i64 B)).setCell ⟨g, 1, none⟩ (.slice A' zs.length C')) := ⟨_, rfl⟩
  rw [← hw8]
  have b9 : Bx w8 g 26 #[.int .i64 B, .slice A' zs.length C'] := by rw [hw8]; exact ((br.set_ 0 _).set_ 1 _).drew
  have hS8 : w8.cell? ⟨c, 0, none⟩ = some (.int .i64 B) ∧ w8.cell? ⟨c, 1, none⟩ = some (.slice A' zs.length C') := by
    rw [hw8]
    exact ⟨cell_far (cell_far hS.1 (by simpa using hcg) _) (by simpa using hcg) _, cell_far (cell_far hS.2 (by simpa using hcg) _) (by simpa using hcg) _⟩
  have s2o := s2.out
  have o8 : Own 2 w8 lo hi (.slice A' zs.length C') Z := by rw [hw8]; exact ((own.setCell (.inl (by simp; omega)) _).setCell (.inl (by simp; omega)) _).drew
  have hb8 : Below w.heap.size w w8 := by rw [hw8]; have := HG.out; exact ((hbel.setCell (by simp; omega) _).setCell (by simp; omega) _).drew
  have hz8 : w8.heap.size = w2.heap.size := by rw [hw8]; simp
  clear hw8 r0 r1 f0 f1 hl br own
  refine hK _ _ (.inr hS8) ?_
  try simp only [Act.put, List.setIfInBounds_toArray, List.set_cons_succ, List.set_cons_zero, List.getElem_toArray, List.getElem_cons_succ, List.getElem_cons_zero]
  clear hK K
  refine wpAnyM_one (i := 7) (by kernel_rfl) rfl (by rfl) (fun K hK => ?_)
  go_simp
  refine hK _ _ (.inl rfl) ?_
  try simp only [Act.put, List.setIfInBounds_toArray, List.set_cons_succ, List.set_cons_zero, List.getElem_toArray, List.getElem_cons_succ, List.getElem_cons_zero]
  clear hK K
  refine wpAnyM_done (by kernel_rfl) ?_ _
  have r0 := b9.at_ 0 rfl
  have r1 := b9.at_ 1 rfl
  have HE := Lib.hid o8
  have HB := Lib.hid hb8
  have HS := Lib.hid (show w.heap.size ≤ lo ∧ hi ≤ w8.heap.size by have := HG.out; have := s5.out; omega)
  clear o8 hb8 hS hS8 s2o hz8 hbel
  go_wp2
  exact bodyPost_ret (v := .tuple #[.agg #[.int .i64 B, .slice A' zs.length C'], .bool (!t)]) (by simp [results, go_sem, r0, r1]) rfl
    ⟨A', C', by rw [HO.out], by rw [HZ.out]; exact HE.out.wide HS.out.1 HS.out.2, HB.out⟩
end Go.Proofs.YtlahobdopmdfmaaGreatDoor

/- MtnS -/
namespace Go.Proofs.YtlahobdopmdfmaaGreatDoor
open Go.RowKit Go.BigFrame

/-- A machine in the box p: its rows lie at L or behind it, apart from each other and from the box. -/
structure Wm (w : World) (L p : Nat) (m : Mac) (A1 : Option Addr) (C1 : Nat) (A2 : Option Addr) (C2 : Nat) (A3 : Option Addr) (C3 : Nat) : Prop where
  bx : Bx w p 28 #[.int .i64 m.b1, .slice A1 m.z1.length C1, .int .i64 m.b2, .slice A2 m.z2.length C2, .int .i64 m.b3, .slice A3 m.z3.length C3, .int .i64 m.p]
  lp : L ≤ p
  ex : ∃ l1 h1 l2 h2 l3 h3 : Nat, Own 2 w l1 h1 (.slice A1 m.z1.length C1) m.z1 ∧ Own 2 w l2 h2 (.slice A2 m.z2.length C2) m.z2 ∧ Own 2 w l3 h3 (.slice A3 m.z3.length C3) m.z3 ∧
    L ≤ l1 ∧ L ≤ l2 ∧ L ≤ l3 ∧ h1 ≤ w.heap.size ∧ h2 ≤ w.heap.size ∧ h3 ≤ w.heap.size ∧ (h1 ≤ l2 ∨ h2 ≤ l1) ∧ (h1 ≤ l3 ∨ h3 ≤ l1) ∧ (h2 ≤ l3 ∨ h3 ≤ l2) ∧ (p < l1 ∨ h1 ≤ p) ∧ (p < l2 ∨ h2 ≤ p) ∧ (p < l3 ∨ h3 ≤ p)
/-- The same, wherever its rows lie. -/
def WmE (w : World) (L p : Nat) (m : Mac) : Prop := ∃ (A1 : Option Addr) (C1 : Nat) (A2 : Option Addr) (C2 : Nat) (A3 : Option Addr) (C3 : Nat), Wm w L p m A1 C1 A2 C2 A3 C3
theorem Wm.below {w w' : World} {L p : Nat} {m : Mac} {A1 : Option Addr} {C1 : Nat} {A2 : Option Addr} {C2 : Nat} {A3 : Option Addr} {C3 : Nat} (h : Wm w L p m A1 C1 A2 C2 A3 C3) (hb : Below w.heap.size w w') : Wm w' L p m A1 C1 A2 C2 A3 C3 := by
  obtain ⟨l1, h1, l2, h2, l3, h3, o1, o2, o3, s⟩ := h.ex
  have := hb.size
  exact ⟨h.bx.below hb, h.lp, l1, h1, l2, h2, l3, h3, o1.below hb, o2.below hb, o3.below hb, by omega⟩
theorem Wm.move {w : World} {L p : Nat} {m : Mac} {A1 : Option Addr} {C1 : Nat} {A2 : Option Addr} {C2 : Nat} {A3 : Option Addr} {C3 : Nat} (h : Wm w L p m A1 C1 A2 C2 A3 C3) (k : Int) : Wm (w.setCell ⟨p, 6, none⟩ (.int .i64 k)) L p ⟨m.b1, m.z1, m.b2, m.z2, m.b3, m.z3, k⟩ A1 C1 A2 C2 A3 C3 := by
  obtain ⟨l1, h1, l2, h2, l3, h3, o1, o2, o3, s⟩ := h.ex
  exact ⟨h.bx.set_ 6 _, h.lp, l1, h1, l2, h2, l3, h3, o1.setCell (by simp; omega) _, o2.setCell (by simp; omega) _, o3.setCell (by simp; omega) _, by simpa using s⟩
theorem Wm.belowL {w : World} {L p : Nat} {m : Mac} {A1 : Option Addr} {C1 : Nat} {A2 : Option Addr} {C2 : Nat} {A3 : Option Addr} {C3 : Nat} (h : Wm w L p m A1 C1 A2 C2 A3 C3) (i : Nat) (v : Value) : Below L w (w.setCell ⟨p, i, none⟩ v) := (Below.mono (Below.refl _ _) (by have := h.lp; have := h.bx.lt; omega)).setCell h.lp _
theorem Wm.rd {w : World} {L p : Nat} {m : Mac} {A1 : Option Addr} {C1 : Nat} {A2 : Option Addr} {C2 : Nat} {A3 : Option Addr} {C3 : Nat} (h : Wm w L p m A1 C1 A2 C2 A3 C3) : Rd3 w A1 m.z1 A2 m.z2 A3 m.z3 := by
  obtain ⟨l1, h1, l2, h2, l3, h3, o1, o2, o3, s⟩ := h.ex
  exact ⟨o1.rd, o2.rd, o3.rd⟩
theorem Wm.own {w : World} {L p : Nat} {m : Mac} {A1 : Option Addr} {C1 : Nat} {A2 : Option Addr} {C2 : Nat} {A3 : Option Addr} {C3 : Nat} (h : Wm w L p m A1 C1 A2 C2 A3 C3) : Own3 2 w L w.heap.size (.slice A1 m.z1.length C1) m.z1 (.slice A2 m.z2.length C2) m.z2 (.slice A3 m.z3.length C3) m.z3 := by
  obtain ⟨l1, h1, l2, h2, l3, h3, o1, o2, o3, s⟩ := h.ex
  exact ⟨l1, h1, l2, h2, l3, h3, o1, o2, o3, by omega⟩

theorem unit_bd {m : Mac} (h : macB m = true) : 1 ≤ unitM m ∧ unitM m ≤ 1000000000001 ∧ 0 ≤ valR m.b1 m.z1 ∧ unitM m * valR m.b1 m.z1 ≤ 1000000000001 ∧ 0 ≤ unitM m * valR m.b1 m.z1 := by
  obtain ⟨_, _, _, _, _, f2, f3, _⟩ := macB_spec h
  obtain ⟨e2, e3, b0, b1, n0, n12, n2, n3, n4, p0, p1, p2, d1, d2, d3⟩ := macB_facts h
  have h1 := pow_pos' (show 1 ≤ m.b1 by omega) m.p.toNat
  have h2 := pow_mono' b0 (show m.p.toNat ≤ m.z3.length by omega)
  have hv := valR_lt (show 1 ≤ m.b1 by omega) d1
  have h3 := pow_mono' b0 (show m.p.toNat + m.z1.length ≤ m.z2.length by omega)
  rw [Int.pow_add] at h3
  have h4 : m.b1 ^ m.p.toNat * valR m.b1 m.z1 ≤ m.b1 ^ m.p.toNat * m.b1 ^ m.z1.length := Int.mul_le_mul_of_nonneg_left (by omega) (by omega)
  have h5 : 0 ≤ m.b1 ^ m.p.toNat * valR m.b1 m.z1 := Int.mul_nonneg (by omega) hv.1
  unfold unitM
  omega

set_option maxRecDepth 100000 in
set_option maxHeartbeats 8000000 in
theorem l10Turn_any (L p : Nat) (m : Mac) (A1 : Option Addr) (C1 : Nat) (A2 : Option Addr) (C2 : Nat) (A3 : Option Addr) (C3 : Nat) (s : Int) (w : World) (hk : Wm w L p m A1 C1 A2 C2 A3 C3) (hm : macB m = true) (hs : s = 1 ∨ s = -1) :
    Calls Tryz.prog 84 #[.pointer (some ⟨p, 0, none⟩), .int .i64 s] w fun e w' => e = .returned (.bool (trnM m s).2) ∧ WmE w' L p (trnM m s).1 ∧ Below L w w' := by
  have hacc := macB_acc hm
  obtain ⟨e2, e3, b0, b1, n0, n12, n2, n3, n4, p0, p1, p2, d1, d2, d3⟩ := macB_facts hm
  have hok := okB_spec (macB_spec hm).1
  obtain ⟨U1, U2, V0, UV1, UV0⟩ := unit_bd hm
  obtain ⟨P, hP⟩ := Int.eq_ofNat_of_zero_le p0
  have HU : Hid (unitM m = m.b1 ^ P) := Lib.hid (by rw [unitM, hP]; rfl)
  have HPw := Lib.hid (fun v => l10Power_any m.b1 P v (by omega) b1 (by omega))
  rw [capW_full (by have := HU.out; omega), ← HU.out] at HPw
  have HT := Lib.hid (show trnM m s = (⟨m.b1, m.z1, m.b2, movZ m.b2 m.z2 (s * unitM m * valR m.b1 m.z1), m.b3, movZ m.b3 m.z3 (s * unitM m), m.p⟩, movO m.b2 m.z2 (s * unitM m * valR m.b1 m.z1)) by rw [trnM, Int.mul_assoc])
  obtain ⟨U, hU⟩ : ∃ U, U = unitM m := ⟨_, rfl⟩
  obtain ⟨V, hV⟩ : ∃ V, V = valR m.b1 m.z1 := ⟨_, rfl⟩
  have HV := Lib.hid (fun (v : World) (hr : Rd v A1 m.z1) => l02Value_any m.b1 A1 C1 m.z1 v hr b0 b1 d1)
  rw [capV_ok b0 d1 hok.2.2.2.2.2, ← hV] at HV
  rw [← hU] at HPw HT U1 U2 UV1 UV0
  rw [← hV] at HT V0 UV1 UV0
  have hy : -1000000000001 ≤ s * U ∧ s * U ≤ 1000000000001 := by rcases hs with rfl | rfl <;> omega
  have hx : -1000000000001 ≤ s * U * V ∧ s * U * V ≤ 1000000000001 := by rw [Int.mul_assoc]; rcases hs with rfl | rfl <;> omega
  have hw1 : IntKind.i64.wrap (s * U) = s * U := IntWalk.i64_in _ (by omega)
  have hw2 : IntKind.i64.wrap (s * U * V) = s * U * V := IntWalk.i64_in _ (by omega)
  have hw3 : wrap64 (s * U) = s * U := by unfold wrap64; omega
  have hw4 : wrap64 (s * U * V) = s * U * V := by unfold wrap64; omega
  obtain ⟨y, hyd⟩ : ∃ y, s * U = y := ⟨_, rfl⟩
  rw [hyd] at HT hy hx hw1 hw2 hw3 hw4
  obtain ⟨x, hxd⟩ : ∃ x, y * V = x := ⟨_, rfl⟩
  rw [hxd] at HT hx hw2 hw4
  have HM2 := Lib.hid (fun (v : World) (h : Wm v L p m A1 C1 A2 C2 A3 C3) => l10Move_any p 2 m.b2 A2 C2 m.z2 x v h.rd.y (h.bx.at_ 2 rfl) (h.bx.at_ 3 rfl) hacc.1 hx.1 hx.2)
  have HM3 := Lib.hid (fun (v : World) (h : Wm v L p m A1 C1 A2 C2 A3 C3) => l10Move_any p 4 m.b3 A3 C3 m.z3 y v h.rd.z (h.bx.at_ 4 rfl) (h.bx.at_ 5 rfl) hacc.2 hy.1 hy.2)
  have HL2 := Lib.hid (movZ_len m.b2 m.z2 x)
  have HL3 := Lib.hid (movZ_len m.b3 m.z3 y)
  obtain ⟨X2, hX2⟩ : ∃ X, X = movZ m.b2 m.z2 x := ⟨_, rfl⟩
  obtain ⟨X3, hX3⟩ : ∃ X, X = movZ m.b3 m.z3 y := ⟨_, rfl⟩
  obtain ⟨t, ht⟩ : ∃ t, t = movO m.b2 m.z2 x := ⟨_, rfl⟩
  rw [← hX2, ← ht] at HM2
  rw [← hX3] at HM3
  rw [← hX2, ← hX3, ← ht] at HT
  rw [← hX2] at HL2
  rw [← hX3] at HL3
  rw [HT.out]
  clear e2 e3 b0 b1 n0 n12 n2 n3 n4 p0 p1 p2 d1 d2 d3 hok hU hV U1 U2 V0 UV1 UV0 hX2 hX3 ht hx hy hs hacc hm HU
  have HP2 := Lib.hid hP
  have k0 := kept_after (hk.bx.at_ 0 rfl)
  have k6 := kept_after (hk.bx.at_ 6 rfl)
  rw [hP] at k6
  clear hP
  go_enter Tryz.func84, Tryz.ntmps84
  go_upto_region 1 with fail
  refine wp_region_after (by kernel_rfl) (by kernel_rfl) ?_
  repeat (go_big_quiet_step ((go_at_call 111; exact calls_after ((HPw.out _).mono fun e w' ⟨x, y⟩ => ⟨x, (by rw [y]; exact Below.refl _ _)⟩))))
  refine wpQuiet_nil ?_
  intro uu
  clear k0 k6
  obtain ⟨W, hW⟩ : ∃ W, W = uu.now := ⟨_, rfl⟩
  have hbW : Below w.heap.size w W := by rw [hW]; exact uu.ok
  rw [← hW]
  clear hW uu
  have hLs : L ≤ w.heap.size := by have := hk.lp; have := hk.bx.lt; omega
  replace hk := hk.below hbW
  have hpW := Lib.hid (show p < W.heap.size from hk.bx.lt)
  obtain ⟨l1, h1, l2, h2, l3, h3, o1, o2, o3, s⟩ := hk.ex
  clear o2 o3
  replace hbW : Below L w W := hbW.mono hLs
  go_upto_region 2 with fail
  go_cut [6, 7] from 10 (fun sl6 sl7 wx => BoxReg W m.b2 X2 sl6 wx ∧ sl7 = .bool t)
  case first =>
    have k0 := kept_all (hk.bx.at_ 0 rfl)
    have k1 := kept_all (hk.bx.at_ 1 rfl)
    go_region_held3 (fun w' => Below W.heap.size W w') (first | exact hk' | exact (Below.refl _ _).drew | exact hk'.alloc hk'.size _ | exact (Below.refl _ _).drew.alloc (Nat.le_refl _) _ | exact (hk'.alloc hk'.size _).setCell hk'.size _ | exact (hk'.setCell bg.out _).setCell bg.out _)
      (first
      | (go_at_call 110; have qB := ‹Below W.heap.size W _›; ((with_reducible refine (HV.out ((W.alloc (.cells #[.int .i64 0, .slice none 0 0] 26)).drew) (hk.rd.x.below qB)).mono ?_)); rintro e v1 ⟨rfl, hv1⟩; subst v1; have bz := ((Bx.new W #[.int .i64 0, .slice none 0 0] 26).drew); have bg : Hid (W.heap.size ≤ W.drew.heap.size) := Lib.hid (Nat.le_refl _); have hk' := qB)
      | (go_at_call 110; have qB := ‹Below W.heap.size W _›; ((with_reducible refine (HV.out W.drew (hk.rd.x.below qB)).mono ?_)); rintro e v1 ⟨rfl, hv1⟩; subst v1; have hk' := qB)
      | (go_at_call 113; have qB := ‹Below W.heap.size W _›; ((with_reducible refine (HM2.out ((W.alloc (.cells #[.int .i64 0, .slice none 0 0] 26)).drew) (hk.below qB)).mono ?_)); rintro e w3 ⟨D, E, rfl, own, hb⟩; have bz := ((Bx.new W #[.int .i64 0, .slice none 0 0] 26).drew); have bg : Hid (W.heap.size ≤ W.drew.heap.size) := Lib.hid (Nat.le_refl _); have bh := Lib.hid bz.lt; replace bz := bz.below hb; have bz0 := bz.at_ 0 rfl; have bf0 := bz.thaw 0; have bz1 := bz.at_ 1 rfl; have bf1 := bz.thaw 1; have hkU := qB; have hbU := hb; have hk' := qB.trans (hb.mono qB.size))
      | (go_at_call 113; have qB := ‹Below W.heap.size W _›; ((with_reducible refine (HM2.out W.drew (hk.below qB)).mono ?_)); rintro e w3 ⟨D, E, rfl, own, hb⟩; have hkU := qB; have hbU := hb; have hk' := qB.trans (hb.mono qB.size)))
    all_goals (go_wp2_with fail; go_meet; case rel => (rw [← HL2.out] at own ⊢; first | with_reducible exact ⟨boxReg_after hkU hbU own, rfl⟩ | with_reducible exact ⟨boxReg_before hkU hbU own bz bg bh, rfl⟩ | exact ⟨boxReg_after hkU hbU own, rfl⟩ | exact ⟨boxReg_before hkU hbU own bz bg bh, rfl⟩))
  case rest =>
  obtain ⟨⟨c, A', C', lo, hi, rfl, cq0, cq1, own, s1, s2, s3, s4, s5, hb⟩, rfl⟩ := hcut
  obtain ⟨w2, rfl⟩ : ∃ u, u = wc := ⟨_, rfl⟩
  have hz2 := hb.size
  replace hk := hk.below hb
  replace o1 := o1.below hb
  replace hbW : Below L w w2 := hbW.trans (hb.mono (by have := hbW.size; omega))
  rw [HL2.out] at cq1 own
  clear hb HM2 HV HPw
  go_wp2_with fail
  refine (HM3.out w2 hk).mono ?_
  rintro e w3 ⟨D, E, rfl, own3, hb⟩
  have hz3 := hb.size
  have hcw : c < w2.heap.size := s4.out
  replace hk := hk.below hb
  replace o1 := o1.below hb
  replace hbW : Below L w w3 := hbW.trans (hb.mono (by have := hbW.size; omega))
  replace cq0 := kept hb cq0
  replace cq1 := kept hb cq1
  replace own := own.below hb
  clear hb HM3
  go_upto_region 4 with fail
  obtain ⟨d, hd⟩ : ∃ d, d = w3.heap.size := ⟨_, rfl⟩
  obtain ⟨V4, hV⟩ : ∃ V4, V4 = w3.alloc (.cells #[.int .i64 m.b3, .slice D m.z3.length E] 26) := ⟨_, rfl⟩
  try rw [← hd, ← hV]
  have bd : Bx V4 d 26 #[.int .i64 m.b3, .slice D m.z3.length E] := by rw [hV, hd]; exact Bx.new _ _ _
  have hb : Below w3.heap.size w3 V4 := by rw [hV]; exact (Below.refl _ _).alloc (Nat.le_refl _) _
  have hz4 := hb.size
  replace hk := hk.below hb
  replace o1 := o1.below hb
  replace hbW : Below L w V4 := hbW.trans (hb.mono (by have := hbW.size; omega))
  replace cq0 := kept hb cq0
  replace cq1 := kept hb cq1
  replace own := own.below hb
  replace own3 := own3.below hb
  have hpl := hpW.out
  have hd3 : w3.heap.size ≤ d := by omega
  clear hb hV hd
  have bx := hk.bx
  have hlp := hk.lp
  have p2 := bx.at_ 2 rfl
  have p3 := bx.at_ 3 rfl
  have f2 := bx.thaw 2
  have f3 := bx.thaw 3
  go_upto_region 5 with fail
  obtain ⟨V5, hV⟩ : ∃ V5, V5 = (V4.setCell ⟨p, 2, none⟩ (.int .i64 m.b2)).setCell ⟨p, 3, none⟩ (.slice A' m.z2.length C') := ⟨_, rfl⟩
  try rw [← hV]
  have hpd : ¬ p = d := by omega
  have bx5 : Bx V5 p 28 #[.int .i64 m.b1, .slice A1 m.z1.length C1, .int .i64 m.b2, .slice A' m.z2.length C', .int .i64 m.b3, .slice A3 m.z3.length C3, .int .i64 m.p] := by rw [hV]; exact (bx.set_ 2 _).set_ 3 _
  have bd5 : Bx V5 d 26 #[.int .i64 m.b3, .slice D m.z3.length E] := by rw [hV]; exact (bd.far (by simp; omega) _).far (by simp; omega) _
  have ht5 : Touch p (p + 1) V4 V5 := by rw [hV]; exact ((Touch.refl _ _ _).setCell (by simp) (by simp) _).setCell (by simp) (by simp) _
  have hbW5 : Below L w V5 := hbW.trans (ht5.below hlp (by have := hbW.size; omega))
  have s2o := s2.out
  have s5o := s5.out
  replace o1 := o1.touch ht5 (by omega)
  replace own := own.touch ht5 (by omega)
  replace own3 := own3.touch ht5 (by omega)
  have hz5 := ht5.size
  clear hV p2 p3 f2 f3 bx bd cq0 cq1 hk ht5 hbW
  have d0 := bd5.at_ 0 rfl
  have d1 := bd5.at_ 1 rfl
  have p4 := bx5.at_ 4 rfl
  have p5 := bx5.at_ 5 rfl
  have f4 := bx5.thaw 4
  have f5 := bx5.thaw 5
  go_upto_region 6 with fail
  obtain ⟨V6, hV⟩ : ∃ V6, V6 = (V5.setCell ⟨p, 4, none⟩ (.int .i64 m.b3)).setCell ⟨p, 5, none⟩ (.slice D m.z3.length E) := ⟨_, rfl⟩
  try rw [← hV]
  have bx6 : Bx V6 p 28 #[.int .i64 m.b1, .slice A1 m.z1.length C1, .int .i64 m.b2, .slice A' m.z2.length C', .int .i64 m.b3, .slice D m.z3.length E, .int .i64 m.p] := by rw [hV]; exact (bx5.set_ 4 _).set_ 5 _
  have ht6 : Touch p (p + 1) V5 V6 := by rw [hV]; exact ((Touch.refl _ _ _).setCell (by simp) (by simp) _).setCell (by simp) (by simp) _
  have hbW6 : Below L w V6 := hbW5.trans (ht6.below hlp (by have := hbW5.size; omega))
  replace o1 := o1.touch ht6 (by omega)
  replace own := own.touch ht6 (by omega)
  replace own3 := own3.touch ht6 (by omega)
  have hz6 := ht6.size
  have HB := Lib.hid hbW6
  have HW : Hid (WmE V6 L p ⟨m.b1, m.z1, m.b2, X2, m.b3, X3, m.p⟩) := Lib.hid (by
    refine ⟨A1, C1, A', C', D, E, by simp only [HL2.out, HL3.out]; exact bx6, hlp, l1, h1, lo, hi, _, _, o1, by simp only [HL2.out]; exact own, by simp only [HL3.out]; exact own3, ?_⟩
    omega)
  clear hV bx5 bd5 d0 d1 p4 p5 f4 f5 o1 own own3 ht6 hbW5 hbW6 bx6
  go_wp2
  go_ret
  exact ⟨rfl, HW.out, HB.out⟩
end Go.Proofs.YtlahobdopmdfmaaGreatDoor

/- MdoS -/
namespace Go.Proofs.YtlahobdopmdfmaaGreatDoor
open Go.RowKit Go.BigFrame

set_option maxRecDepth 100000 in
set_option maxHeartbeats 4000000 in
theorem l10Shift_any (L p : Nat) (m : Mac) (A1 : Option Addr) (C1 : Nat) (A2 : Option Addr) (C2 : Nat) (A3 : Option Addr) (C3 : Nat) (s : Int) (w : World) (hk : Wm w L p m A1 C1 A2 C2 A3 C3) (hm : macB m = true) (hs : s = 1 ∨ s = -1) :
    Calls Tryz.prog 85 #[.pointer (some ⟨p, 0, none⟩), .int .i64 s] w fun e w' => e = .returned (.bool (shfM m s).2) ∧ WmE w' L p (shfM m s).1 ∧ Below L w w' := by
  obtain ⟨e2, e3, b0, b1, n0, n12, n2, n3, n4, p0, p1, p2, d1, d2, d3⟩ := macB_facts hm
  have hl : m.z1.length ≤ 1000000000 ∧ m.z2.length ≤ 1000000000 ∧ m.z3.length ≤ 1000000000 := by omega
  have hpb : -1000000000 ≤ plcs m ∧ plcs m ≤ 1000000000 := by unfold plcs; omega
  have HS : Hid (shfM m s = if inB (m.p + s) 0 (plcs m - 1) = true then (⟨m.b1, m.z1, m.b2, m.z2, m.b3, m.z3, m.p + s⟩, false) else (m, true)) := Lib.hid (by
    rw [shfM, inB_dec]; simp only [decide_eq_true_eq])
  have HP := Lib.hid (fun (v : World) (hb : Below w.heap.size w v) => l10Places_any p m A1 C1 A2 C2 A3 C3 v (hk.bx.below hb) hl)
  have hw1 : IntKind.i64.wrap (m.p + s) = m.p + s := IntWalk.i64_in _ (by rcases hs with rfl | rfl <;> omega)
  have HI := Lib.hid (fun v => l00In_b (m.p + s) 0 (plcs m - 1) v)
  obtain ⟨q, hq⟩ : ∃ q, q = plcs m := ⟨_, rfl⟩
  rw [← hq] at HP HI HS hpb
  have hw2 : IntKind.i64.wrap (q - 1) = q - 1 := IntWalk.i64_in _ (by omega)
  obtain ⟨y, hy⟩ : ∃ y, m.p + s = y := ⟨_, rfl⟩
  rw [hy] at HI HS hw1
  have k6 := kept_after (hk.bx.at_ 6 rfl)
  have hLs : L ≤ w.heap.size := by have := hk.lp; have := hk.bx.lt; omega
  clear e2 e3 b0 b1 n0 n12 n2 n3 n4 p0 p1 p2 d1 d2 d3 hq hs hl
  cases hi : inB y 0 (q - 1)
  all_goals
    rw [hi] at HI HS
    simp only [Bool.false_eq_true, if_false, if_true] at HS
    rw [HS.out]
    clear hi
    go_enter Tryz.func85, Tryz.ntmps85
    go_upto_region 1 with fail
    refine wp_region_after (by kernel_rfl) (by kernel_rfl) ?_
    repeat (go_big_quiet_step (first | (go_at_call 47; with_reducible exact calls_after (HP.out _ (After.ok _))) | (go_at_call 72; with_reducible exact calls_after (HI.out _))))
    refine wpQuiet_nil ?_
    intro uu
    clear k6
    obtain ⟨W, hW⟩ : ∃ W, W = uu.now := ⟨_, rfl⟩
    have hbW : Below w.heap.size w W := by rw [hW]; exact uu.ok
    rw [← hW]
    clear hW uu
    replace hk := hk.below hbW
    replace hbW : Below L w W := hbW.mono hLs
  · go_wp2
    go_ret
    exact ⟨rfl, ⟨_, _, _, _, _, _, hk⟩, hbW⟩
  · have c6 := hk.bx.at_ 6 rfl
    have f6 := hk.bx.thaw 6
    have HW := Lib.hid (hk.move y)
    have HB := Lib.hid (hbW.trans (hk.belowL 6 (.int .i64 y)))
    clear hk hbW
    go_wp2
    go_ret
    exact ⟨rfl, ⟨_, _, _, _, _, _, HW.out⟩, HB.out⟩

theorem zeros_set {zs : List Int} {k : Nat} (h : k < zs.length) : (List.replicate k 0 ++ zs.drop k).set k 0 = List.replicate (k + 1) 0 ++ zs.drop (k + 1) := by
  rw [List.set_append_right _ _ (by simp), List.length_replicate, Nat.sub_self, List.drop_eq_getElem_cons h, List.set_cons_zero, List.replicate_succ', List.append_assoc]
  rfl

set_option maxRecDepth 100000 in
set_option maxHeartbeats 4000000 in
theorem l10Zero_any (p o lo hi : Nat) (A : Option Addr) (C : Nat) (zs : List Int) (w : World) (hp1 : w.cell? ⟨p, o + 1, none⟩ = some (.slice A zs.length C)) (ho : Own 2 w lo hi (.slice A zs.length C) zs) (h0 : 0 < zs.length) (hl : zs.length ≤ 16) (hap : p < lo ∨ hi ≤ p) :
    Calls Tryz.prog 86 #[.pointer (some ⟨p, o, none⟩)] w fun e w' => e = .returned (.tuple #[]) ∧ ∃ g, lo ≤ g ∧ g < hi ∧ Own 2 w' lo hi (.slice A zs.length C) (List.replicate zs.length 0) ∧ Touch g (g + 1) w w' := by
  obtain ⟨g, rfl, hg1, hg2⟩ := own_firstS ho h0
  go_enter Tryz.func86, Tryz.ntmps86
  go_wp2_with fail
  go_loopw [2] (fun i wr => ∃ k : Nat, k ≤ zs.length ∧ i = .int .i64 (k : Int) ∧ Own 2 wr lo hi (.slice (some ⟨g, 0, none⟩) zs.length C) (List.replicate k 0 ++ zs.drop k) ∧ Touch g (g + 1) w wr) (fun i _ => zs.length - (intOf i).toNat)
  case atStart => exact ⟨0, Nat.zero_le _, rfl, by simpa using ho, Touch.refl _ _ _⟩
  case round =>
    obtain ⟨k, hk, rfl, hown, htou⟩ := hrel
    have c1 := keptT htou hp1 (by omega)
    by_cases hlt : k < zs.length
    · have hget := hown.get (j := k) (by simp; omega)
      have hthaw := hown.thaw k
      have HP := Lib.hid (zeros_set hlt ▸ hown.put k 0)
      have HT := Lib.hid (htou.setCell (p := ⟨g, k, none⟩) (Nat.le_refl _) (Nat.lt_succ_self _) (.int .i64 0))
      clear hown htou
      go_wp2
      go_roundw
      case rel => exact ⟨k + 1, by omega, by go_num, HP.out, HT.out⟩
      case measure => (simp [intOf]) <;> omega
    · obtain rfl : k = zs.length := by omega
      rw [List.drop_length, List.append_nil] at hown
      go_wp2
      go_end0
      exact ⟨rfl, g, hg1, hg2, hown, htou⟩

set_option maxRecDepth 100000 in
set_option maxHeartbeats 4000000 in
theorem l10Do_any (L p : Nat) (m : Mac) (A1 : Option Addr) (C1 : Nat) (A2 : Option Addr) (C2 : Nat) (A3 : Option Addr) (C3 : Nat) (k : Int) (w : World) (hk : Wm w L p m A1 C1 A2 C2 A3 C3) (hm : macB m = true) (h1 : 1 ≤ k) (h6 : k ≤ 6) :
    Calls Tryz.prog 48 #[.pointer (some ⟨p, 0, none⟩), .int .i64 k] w fun e w' => e = .returned (.bool (doM m k).2) ∧ WmE w' L p (doM m k).1 ∧ Below L w w' := by
  obtain ⟨e2, e3, b0, b1, n0, n12, n2, n3, n4, p0, p1, p2, d1, d2, d3⟩ := macB_facts hm
  clear e2 e3 b0 b1 p0 p1 p2 d1 d2 d3
  rcases (show k = 1 ∨ k = 2 ∨ k = 3 ∨ k = 4 ∨ k = 5 ∨ k = 6 by omega) with h | h | h | h | h | h
  all_goals
    subst h
    clear h1 h6
  · have HE := Lib.hid (show doM m 1 = trnM m 1 by simp [doM])
    go_enter Tryz.func48, Tryz.ntmps48
    go_wp2_with fail
    refine (l10Turn_any L p m A1 C1 A2 C2 A3 C3 1 w hk hm (by simp)).mono ?_
    rintro e w2 ⟨rfl, hW, hb⟩
    go_wp2
    go_ret
    exact ⟨by rw [HE.out]; rfl, by rw [HE.out]; exact hW, hb⟩
  · have HE := Lib.hid (show doM m 2 = trnM m (-1) by simp [doM])
    go_enter Tryz.func48, Tryz.ntmps48
    go_wp2_with fail
    refine (l10Turn_any L p m A1 C1 A2 C2 A3 C3 (-1) w hk hm (by simp)).mono ?_
    rintro e w2 ⟨rfl, hW, hb⟩
    go_wp2
    go_ret
    exact ⟨by rw [HE.out]; rfl, by rw [HE.out]; exact hW, hb⟩
  · have HE := Lib.hid (show doM m 3 = shfM m 1 by simp [doM])
    go_enter Tryz.func48, Tryz.ntmps48
    go_wp2_with fail
    refine (l10Shift_any L p m A1 C1 A2 C2 A3 C3 1 w hk hm (by simp)).mono ?_
    rintro e w2 ⟨rfl, hW, hb⟩
    go_wp2
    go_ret
    exact ⟨by rw [HE.out]; rfl, by rw [HE.out]; exact hW, hb⟩
  · have HE := Lib.hid (show doM m 4 = shfM m (-1) by simp [doM])
    go_enter Tryz.func48, Tryz.ntmps48
    go_wp2_with fail
    refine (l10Shift_any L p m A1 C1 A2 C2 A3 C3 (-1) w hk hm (by simp)).mono ?_
    rintro e w2 ⟨rfl, hW, hb⟩
    go_wp2
    go_ret
    exact ⟨by rw [HE.out]; rfl, by rw [HE.out]; exact hW, hb⟩
  · have HE := Lib.hid (show doM m 5 = (⟨m.b1, m.z1, m.b2, List.replicate m.z2.length 0, m.b3, List.replicate m.z3.length 0, m.p⟩, false) by simp [doM])
    obtain ⟨l1, h1, l2, h2, l3, h3, o1, o2, o3, s⟩ := hk.ex
    have hlp := hk.lp
    have bx := hk.bx
    have hlt := bx.lt
    go_enter Tryz.func48, Tryz.ntmps48
    go_wp2_with fail
    refine (l10Zero_any p 2 l2 h2 A2 C2 m.z2 w (bx.at_ 3 rfl) o2 (by omega) n2 (by omega)).mono ?_
    rintro e w2 ⟨rfl, g2, q1, q2, o2', ht2⟩
    replace bx := bx.touch ht2 (by omega)
    replace o1 := o1.touch ht2 (by omega)
    replace o3 := o3.touch ht2 (by omega)
    have hz2 := ht2.size
    go_wp2_with fail
    refine (l10Zero_any p 4 l3 h3 A3 C3 m.z3 w2 (bx.at_ 5 rfl) o3 (by omega) n4 (by omega)).mono ?_
    rintro e w3 ⟨rfl, g3, q3, q4, o3', ht3⟩
    replace bx := bx.touch ht3 (by omega)
    replace o1 := o1.touch ht3 (by omega)
    replace o2' := o2'.touch ht3 (by omega)
    have hz3 := ht3.size
    have HB : Hid (Below L w w3) := Lib.hid ((ht2.below (by omega) (by omega)).trans (ht3.below (by omega) (by omega)))
    have HW : Hid (WmE w3 L p ⟨m.b1, m.z1, m.b2, List.replicate m.z2.length 0, m.b3, List.replicate m.z3.length 0, m.p⟩) := Lib.hid (by
      refine ⟨A1, C1, A2, C2, A3, C3, by simp only [List.length_replicate]; exact bx, hlp, l1, h1, l2, h2, l3, h3, o1, by simp only [List.length_replicate]; exact o2', by simp only [List.length_replicate]; exact o3', by omega⟩)
    clear bx o1 o2 o2' o3 o3' ht2 ht3 hk
    go_wp2
    go_ret
    exact ⟨by rw [HE.out]; rfl, by rw [HE.out]; exact HW.out, HB.out⟩
  · have HE := Lib.hid (show doM m 6 = (⟨m.b1, List.replicate m.z1.length 0, m.b2, m.z2, m.b3, m.z3, m.p⟩, false) by simp [doM])
    obtain ⟨l1, h1, l2, h2, l3, h3, o1, o2, o3, s⟩ := hk.ex
    have hlp := hk.lp
    have bx := hk.bx
    have hlt := bx.lt
    go_enter Tryz.func48, Tryz.ntmps48
    go_wp2_with fail
    refine (l10Zero_any p 0 l1 h1 A1 C1 m.z1 w (bx.at_ 1 rfl) o1 (by omega) (by omega) (by omega)).mono ?_
    rintro e w2 ⟨rfl, g2, q1, q2, o1', ht2⟩
    replace bx := bx.touch ht2 (by omega)
    replace o2 := o2.touch ht2 (by omega)
    replace o3 := o3.touch ht2 (by omega)
    have hz2 := ht2.size
    have HB : Hid (Below L w w2) := Lib.hid (ht2.below (by omega) (by omega))
    have HW : Hid (WmE w2 L p ⟨m.b1, List.replicate m.z1.length 0, m.b2, m.z2, m.b3, m.z3, m.p⟩) := Lib.hid (by
      refine ⟨A1, C1, A2, C2, A3, C3, by simp only [List.length_replicate]; exact bx, hlp, l1, h1, l2, h2, l3, h3, by simp only [List.length_replicate]; exact o1', o2, o3, by omega⟩)
    clear bx o1 o1' o2 o3 ht2 hk
    go_wp2
    go_ret
    exact ⟨by rw [HE.out]; rfl, by rw [HE.out]; exact HW.out, HB.out⟩
end Go.Proofs.YtlahobdopmdfmaaGreatDoor

/- MdsS -/
namespace Go.Proofs.YtlahobdopmdfmaaGreatDoor
open Go.RowKit

end Go.Proofs.YtlahobdopmdfmaaGreatDoor

/- MdrS -/
namespace Go.Proofs.YtlahobdopmdfmaaGreatDoor
open Go.RowKit

theorem strB_of {l : List Int} (h : ∀ j, j < l.length → inB (nth l j) 1 6 = true) : strB l = true := by
  rw [strB, decide_eq_true_eq]
  intro x hx
  obtain ⟨j, hj, rfl⟩ := List.getElem_of_mem hx
  have := inB_true (h j hj)
  rwa [nth_get hj] at this
theorem strB_not {l : List Int} {j : Nat} (hj : j < l.length) (h : inB (nth l j) 1 6 = false) : strB l = false := by
  rw [strB, decide_eq_false_iff_not]
  intro hs
  have := hs _ (List.getElem_mem hj)
  rw [← nth_get hj] at this
  rw [inB_dec, decide_eq_false_iff_not] at h
  exact h this

end Go.Proofs.YtlahobdopmdfmaaGreatDoor

/- StkM -/
namespace Go.Proofs.YtlahobdopmdfmaaGreatDoor
open Go.RowKit

theorem mov_back {b : Int} (b0 : 2 ≤ b) {zs : List Int} (hd : DigsM b zs) (x y : Int) (h : y = -x) : movZ b (movZ b zs x) y = zs := by
  subst h
  have hv := valR_lt (show 1 ≤ b by omega) hd
  have hb := digsR_back (show 1 ≤ b by omega) hd
  rw [movZ, movZ_len, movZ_val (by omega), Int.emod_add_emod, show valR b zs + x + -x = valR b zs by omega, Int.emod_eq_of_lt hv.1 hv.2]
  exact hb
theorem trn_back {m : Mac} (hm : macB m = true) (s : Int) : (trnM (trnM m s).1 (-s)).1 = m := by
  obtain ⟨e2, e3, b0, b1, n0, n12, n2, n3, n4, p0, p1, p2, d1, d2, d3⟩ := macB_facts hm
  rw [← e2] at d2
  rw [← e3] at d3
  have h2 := mov_back (b := m.b2) (by omega) d2 (s * (unitM m * valR m.b1 m.z1)) (-s * (unitM m * valR m.b1 m.z1)) (by rw [Int.neg_mul])
  have h3 := mov_back (b := m.b3) (by omega) d3 (s * unitM m) (-s * unitM m) (by rw [Int.neg_mul])
  show (⟨m.b1, m.z1, m.b2, movZ m.b2 (movZ m.b2 m.z2 (s * (unitM m * valR m.b1 m.z1))) (-s * (unitM m * valR m.b1 m.z1)), m.b3, movZ m.b3 (movZ m.b3 m.z3 (s * unitM m)) (-s * unitM m), m.p⟩ : Mac) = m
  rw [h2, h3]
theorem shf_back {m : Mac} (hm : macB m = true) (s : Int) : ((shfM m s).2 = true → (shfM m s).1 = m) ∧ ((shfM m s).2 = false → (shfM (shfM m s).1 (-s)).1 = m) := by
  obtain ⟨_, _, _, _, _, _, _, _, p0, p1⟩ := macB_spec hm
  by_cases h : 0 ≤ m.p + s ∧ m.p + s ≤ plcs m - 1
  · have e : shfM m s = (⟨m.b1, m.z1, m.b2, m.z2, m.b3, m.z3, m.p + s⟩, false) := by unfold shfM; rw [if_pos h]
    rw [e]
    refine ⟨fun h => (by cases h), fun _ => ?_⟩
    have e2 : plcs ⟨m.b1, m.z1, m.b2, m.z2, m.b3, m.z3, m.p + s⟩ = plcs m := rfl
    unfold shfM
    rw [if_pos (by rw [e2]; show 0 ≤ m.p + s + -s ∧ m.p + s + -s ≤ _; omega)]
    show (⟨m.b1, m.z1, m.b2, m.z2, m.b3, m.z3, m.p + s + -s⟩ : Mac) = m
    rw [show m.p + s + -s = m.p by omega]
  · have e : shfM m s = (m, true) := by unfold shfM; rw [if_neg h]
    rw [e]
    exact ⟨fun _ => rfl, fun h => (by cases h)⟩
/-- The stroke back. -/
theorem stroke_back {m : Mac} (hm : macB m = true) {k : Int} (h1 : 1 ≤ k) (h4 : k ≤ 4) :
    ∃ k' : Int, sbR k = (k', 0) ∧ sbR k' = (k, 0) ∧ 1 ≤ k' ∧ k' ≤ 4 ∧ (if (doM m k).2 = true ∧ 2 < k then (doM m k).1 = m else (doM (doM m k).1 k').1 = m) := by
  rcases (show k = 1 ∨ k = 2 ∨ k = 3 ∨ k = 4 by omega) with h | h | h | h <;> subst h
  · refine ⟨2, by decide, by decide, by decide, by decide, ?_⟩
    rw [if_neg (by omega)]
    exact trn_back hm 1
  · refine ⟨1, by decide, by decide, by decide, by decide, ?_⟩
    rw [if_neg (by omega)]
    exact trn_back hm (-1)
  · refine ⟨4, by decide, by decide, by decide, by decide, ?_⟩
    have h := shf_back hm 1
    rw [show doM m 3 = shfM m 1 by simp [doM], show doM (shfM m 1).1 4 = shfM (shfM m 1).1 (-1) by simp [doM]]
    cases hc : (shfM m 1).2 with
    | true => rw [if_pos ⟨rfl, by decide⟩]; exact h.1 hc
    | false => rw [if_neg (fun h => by cases h.1)]; exact h.2 hc
  · refine ⟨3, by decide, by decide, by decide, by decide, ?_⟩
    have h := shf_back hm (-1)
    rw [show (- -1 : Int) = 1 from rfl] at h
    rw [show doM m 4 = shfM m (-1) by simp [doM], show doM (shfM m (-1)).1 3 = shfM (shfM m (-1)).1 1 by simp [doM]]
    cases hc : (shfM m (-1)).2 with
    | true => rw [if_pos ⟨rfl, by decide⟩]; exact h.1 hc
    | false => rw [if_neg (fun h => by cases h.1)]; exact h.2 hc
end Go.Proofs.YtlahobdopmdfmaaGreatDoor

/- Src -/
namespace Go.Proofs.YtlahobdopmdfmaaGreatDoor
open Go.RowKit

/-- The cells from this address on read as bytes. -/
structure RdU (w : World) (a : Option Addr) (zs : List Int) : Prop where
  len : zs.length ≤ 1000000000
  le : ∀ i, 0 ≤ nth zs i ∧ nth zs i ≤ 255
  cells : zs ≠ [] → ∃ b off, a = some ⟨b, off, none⟩ ∧ ∀ i, i < zs.length → w.cell? ⟨b, off + i, none⟩ = some (.int .u8 (nth zs i))
theorem RdU.at_ {w : World} {a : Option Addr} {zs : List Int} (h : RdU w a zs) {k : Nat} (hk : k < zs.length) :
    ∃ b off, a = some ⟨b, off, none⟩ ∧ w.cell? ⟨b, off + k, none⟩ = some (.int .u8 (nth zs k)) := by
  obtain ⟨b, off, rfl, hc⟩ := h.cells (by rintro rfl; simp at hk)
  exact ⟨b, off, rfl, hc k hk⟩
/-- What a source reads stays where it is, outside what is touched. -/
def Far (a : Option Addr) (g : Nat) : Prop := ∀ b off, a = some ⟨b, off, none⟩ → b < g
theorem RdU.lo {w w' : World} {a : Option Addr} {zs : List Int} {L : Nat} (h : RdU w a zs) (hb : Below L w w') (hf : Far a L) : RdU w' a zs := by
  refine ⟨h.len, h.le, fun hne => ?_⟩
  obtain ⟨b, off, rfl, hc⟩ := h.cells hne
  exact ⟨b, off, rfl, fun i hi => (hb.cell (p := ⟨b, off + i, none⟩) (hf b off rfl)).trans (hc i hi)⟩
theorem RdU.below {w w' : World} {a : Option Addr} {zs : List Int} (h : RdU w a zs) (hb : Below w.heap.size w w') : RdU w' a zs := by
  refine ⟨h.len, h.le, fun hne => ?_⟩
  obtain ⟨b, off, rfl, hc⟩ := h.cells hne
  exact ⟨b, off, rfl, fun i hi => (hb.cell (p := ⟨b, off + i, none⟩) (World.block_lt_of_cell? _ _ (hc i hi))).trans (hc i hi)⟩
theorem RdU.far {w : World} {a : Option Addr} {zs : List Int} (h : RdU w a zs) (hz : zs ≠ []) : Far a w.heap.size := by
  intro b off e
  obtain ⟨b', off', e', hc⟩ := h.cells hz
  rw [e] at e'
  injection e' with e'
  injection e' with e1 e2
  subst e1 e2
  have := hc 0 (List.length_pos_iff.2 hz)
  exact World.block_lt_of_cell? _ _ this

/-- Block g is a source that has given at most K numbers. -/
def Src (w : World) (g K : Nat) : Prop := ∃ a zs c k s, RdU w a zs ∧ (zs ≠ [] → Far a g) ∧ Bx w g 79 #[.slice a zs.length c, .int .i64 (k : Nat), .int .u64 s] ∧ k ≤ K
theorem Src.touch {w w' : World} {g K lo hi : Nat} (h : Src w g K) (ht : Touch lo hi w w') (hd : g < lo) : Src w' g K := by
  obtain ⟨a, zs, c, k, s, h1, h2, h3, h4⟩ := h
  refine ⟨a, zs, c, k, s, ⟨h1.len, h1.le, fun hne => ?_⟩, h2, h3.touch ht (.inl hd), h4⟩
  obtain ⟨b, off, rfl, hc⟩ := h1.cells hne
  have := h2 hne b off rfl
  exact ⟨b, off, rfl, fun i hi => keptT ht (hc i hi) (.inl (by omega))⟩
theorem Src.lo {w w' : World} {g K L : Nat} (h : Src w g K) (ht : Below L w w') (hd : g < L) : Src w' g K :=
  h.touch (lo := L) (hi := w'.heap.size + w.heap.size) ⟨ht.os, ht.tape, ht.output, ht.size, fun k _ ho => ht.block k (by omega)⟩ hd
theorem Src.lt {w : World} {g K : Nat} (h : Src w g K) : g < w.heap.size := by
  obtain ⟨_, _, _, _, _, _, _, h3, _⟩ := h
  exact h3.lt
theorem Src.mono {w : World} {g K M : Nat} (h : Src w g K) (hm : K ≤ M) : Src w g M := by
  obtain ⟨a, zs, c, k, s, h1, h2, h3, h4⟩ := h
  exact ⟨a, zs, c, k, s, h1, h2, h3, by omega⟩

theorem from_any (a : Option Addr) (zs : List Int) (c : Nat) (w : World) (h : RdU w a zs) :
    Calls Tryz.prog 21 #[.slice a zs.length c] w fun e w' => ∃ g, e = .returned (.pointer (some ⟨g, 0, none⟩)) ∧ w.heap.size ≤ g ∧ Src w' g 0 ∧ Below w.heap.size w w' := by
  go_enter Tryz.func21, Tryz.ntmps21
  go_wp2
  refine bodyPost_ret (v := .pointer (some ⟨w.heap.size, 0, none⟩)) (by simp [results, Tryz.results21, go_sem]) rfl ?_
  have hb : Below w.heap.size w (w.alloc (.cells #[.slice a zs.length c, .int .i64 0, .int .u64 0] 79)) := (by repeat (first | exact Below.refl _ _ | refine Below.setCell ?_ (by first | omega | (simp <;> omega)) _ | refine Below.alloc ?_ (by first | omega | (simp <;> omega)) _ | refine Below.drew ?_))
  exact ⟨_, rfl, Nat.le_refl _, ⟨a, zs, c, 0, 0, h.below hb, fun hz => h.far hz, Bx.new _ _ _, Nat.le_refl _⟩, hb⟩

theorem wrap_u64_small (n : Int) (h₀ : 0 ≤ n) (h₁ : n < 2 ^ 63) : IntKind.u64.wrap n = n := by rw [IntKind.wrap_u64]; omega
/-- The bits 40 .. 47 of a seed. -/
theorem seed_bits (s : Int) : ∃ z : Int, wrap64 (bits .and .u64 (IntKind.u64.wrap s / 1099511627776) 255) = z ∧ 0 ≤ z ∧ z ≤ 255 := by
  have h0 : 0 ≤ IntKind.u64.wrap s / 1099511627776 ∧ IntKind.u64.wrap s / 1099511627776 < 16777216 := by rw [IntKind.wrap_u64]; omega
  have h := bits_mask .u64 63 (by decide) wrap_u64_small 8 (by decide) (IntKind.u64.wrap s / 1099511627776) h0.1 (by omega)
  have e : ((2 : Int) ^ 8 - 1) = 255 := by decide
  have e2 : ((2 : Int) ^ 8) = 256 := by decide
  rw [e, e2] at h
  rw [h]
  refine ⟨_, rfl, ?_⟩
  have : wrap64 (IntKind.u64.wrap s / 1099511627776 % 256) = IntKind.u64.wrap s / 1099511627776 % 256 := by
    first
      | exact IntWalk.i64_in (IntKind.u64.wrap s / 1099511627776 % 256) (by omega)
      | exact (by unfold wrap64; omega)
  omega
theorem src_end {w : World} {g k K n m : Nat} {a : Option Addr} {zs : List Int} {c : Nat} {s t : Int} (h1 : RdU w a zs) (h2 : zs ≠ [] → Far a g) (h3 : Bx w g 79 #[.slice a zs.length c, .int .i64 (k : Nat), .int .u64 s]) (h4 : k ≤ K) :
    Src ((((w.drewN n).setCell ⟨g, 1, none⟩ (.int .i64 ((k : Int) + 1))).setCell ⟨g, 2, none⟩ (.int .u64 t)).drewN m) g (K + 1) ∧
    Touch g (g + 1) w ((((w.drewN n).setCell ⟨g, 1, none⟩ (.int .i64 ((k : Int) + 1))).setCell ⟨g, 2, none⟩ (.int .u64 t)).drewN m) := by
  have ht : Touch g (g + 1) w ((((w.drewN n).setCell ⟨g, 1, none⟩ (.int .i64 ((k : Int) + 1))).setCell ⟨g, 2, none⟩ (.int .u64 t)).drewN m) :=
    (((Touch.refl _ _ _).drewN n).setCell (by simp) (by simp) _).setCell (by simp) (by simp) _ |>.drewN m
  refine ⟨⟨a, zs, c, k + 1, t, ⟨h1.len, h1.le, fun hne => ?_⟩, h2, ?_, by omega⟩, ht⟩
  · obtain ⟨b, off, rfl, hc⟩ := h1.cells hne
    have := h2 hne b off rfl
    exact ⟨b, off, rfl, fun i hi => keptT ht (hc i hi) (.inl (by omega))⟩
  · simpa using (((h3.drewN n).set_ 1 (.int .i64 ((k : Int) + 1))).set_ 2 (.int .u64 t)).drewN m

theorem next_any (g K : Nat) (w : World) (h : Src w g K) (hK : K ≤ 1000000) :
    Calls Tryz.prog 81 #[.pointer (some ⟨g, 0, none⟩)] w fun e w' => ∃ z : Int, e = .returned (.int .i64 z) ∧ 0 ≤ z ∧ z ≤ 255 ∧ Src w' g (K + 1) ∧ Touch g (g + 1) w w' := by
  obtain ⟨a, zs, c, k, s, h1, h2, h3, h4⟩ := h
  have hlen := h1.len
  have hsz := h3.lt
  have c0 : w.cell? ⟨g, 0, none⟩ = some (.slice a zs.length c) := h3.at_ 0 rfl
  have c1 : w.cell? ⟨g, 1, none⟩ = some (.int .i64 (k : Nat)) := h3.at_ 1 rfl
  have c2 : w.cell? ⟨g, 2, none⟩ = some (.int .u64 s) := h3.at_ 2 rfl
  have f1 := h3.thaw 1
  have f2 := h3.thaw 2
  have v1 : IntKind.i64.wrap ((k : Int) + 1) = (k : Int) + 1 := IntWalk.i64_in _ (by omega)
  by_cases hlt : k < zs.length
  · obtain ⟨b, off, rfl, hc⟩ := h1.at_ hlt
    have hz := h1.le k
    have hlt' : ¬ zs.length < k + 1 := by omega
    go_enter Tryz.func81, Tryz.ntmps81
    go_wp2_with fail
    go_quiet (fail)
    go_wp2_with fail
    go_quiet (fail)
    go_wp2_with fail
    go_quiet (fail)
    go_wp2_with fail
    refine bodyPost_ret (v := .int .i64 (nth zs k)) (by simp [results, Tryz.results81, go_sem]) rfl ?_
    exact ⟨_, rfl, hz.1, hz.2, src_end h1 h2 h3 h4⟩
  · have hlt2 : ¬ k + 1 ≤ zs.length := by omega
    go_enter Tryz.func81, Tryz.ntmps81
    go_wp2_with fail
    go_quiet (fail)
    go_wp2_with fail
    go_quiet (fail)
    go_wp2_with fail
    obtain ⟨z, hz, z0, z1⟩ := seed_bits (IntKind.u64.wrap (IntKind.u64.wrap (s * 6364136223846793005)) + 1442695040888963407)
    rw [hz]
    refine bodyPost_ret (v := .int .i64 z) (by simp [results, Tryz.results81, go_sem]) rfl ?_
    exact ⟨_, rfl, z0, z1, src_end h1 h2 h3 h4⟩

theorem pick_any (g K : Nat) (n : Int) (w : World) (h : Src w g K) (hK : K ≤ 900000) (hn : n ≤ 10000) :
    Calls Tryz.prog 43 #[.pointer (some ⟨g, 0, none⟩), .int .i64 n] w fun e w' => ∃ z : Int, e = .returned (.int .i64 z) ∧ 0 ≤ z ∧ z ≤ max 0 (n - 1) ∧ Src w' g (K + 2) ∧ Touch g (g + 1) w w' := by
  by_cases h1 : n ≤ 1
  · go_enter Tryz.func43, Tryz.ntmps43
    go_wp2
    refine bodyPost_ret (v := .int .i64 0) (by simp [results, Tryz.results43, go_sem]) rfl ?_
    exact ⟨0, rfl, by omega, by omega, h.mono (by omega), Touch.refl _ _ _⟩
  · by_cases h2 : 200 < n
    · go_enter Tryz.func43, Tryz.ntmps43
      go_wp2_with fail
      refine (next_any g K w h (by omega)).mono ?_
      rintro e w1 ⟨x, rfl, x0, x1, hs1, ht1⟩
      have v1 : IntKind.i64.wrap (x * 256) = x * 256 := IntWalk.i64_in _ (by omega)
      go_wp2_with fail
      refine (next_any g (K + 1) w1 hs1 (by omega)).mono ?_
      rintro e w2 ⟨y, rfl, y0, y1, hs2, ht2⟩
      have v2 : IntKind.i64.wrap (x * 256 + y) = x * 256 + y := IntWalk.i64_in _ (by omega)
      go_wp2_with fail
      refine bodyPost_ret (v := .int .i64 ((x * 256 + y) % n)) (by simp [results, Tryz.results43, go_sem]) rfl ?_
      exact ⟨_, rfl, Int.emod_nonneg _ (by omega), by have := Int.emod_lt_of_pos (x * 256 + y) (b := n) (by omega); omega, hs2, ht1.trans ht2⟩
    · go_enter Tryz.func43, Tryz.ntmps43
      go_wp2_with fail
      refine (next_any g K w h (by omega)).mono ?_
      rintro e w1 ⟨x, rfl, x0, x1, hs1, ht1⟩
      go_wp2_with fail
      refine bodyPost_ret (v := .int .i64 (x % n)) (by simp [results, Tryz.results43, go_sem]) rfl ?_
      exact ⟨_, rfl, Int.emod_nonneg _ (by omega), by have := Int.emod_lt_of_pos x (b := n) (by omega); omega, hs1.mono (by omega), ht1⟩
end Go.Proofs.YtlahobdopmdfmaaGreatDoor

/- DrawO -/
namespace Go.Proofs.YtlahobdopmdfmaaGreatDoor
open Go.RowKit

theorem one_any (g K : Nat) (n : Int) (w : World) (h : Src w g K) (hK : K ≤ 900000) (hn : n ≤ 10000) :
    Calls Tryz.prog 46 #[.pointer (some ⟨g, 0, none⟩), .int .i64 n] w fun e w' => ∃ z : Bool, e = .returned (.bool z) ∧ Src w' g (K + 2) ∧ Touch g (g + 1) w w' := by
  go_enter Tryz.func46, Tryz.ntmps46
  go_wp2_with fail
  refine (pick_any g K n w h hK hn).mono ?_
  rintro e w1 ⟨x, rfl, x0, x1, hs1, ht1⟩
  go_wp2_with fail
  exact bodyPost_ret (v := .bool (x == 0)) (by simp [results, Tryz.results46, go_sem]) rfl ⟨_, rfl, hs1, ht1⟩
end Go.Proofs.YtlahobdopmdfmaaGreatDoor

/- AppAt -/
namespace Go.Proofs.YtlahobdopmdfmaaGreatDoor
open Go.RowKit

section
variable {P : Program} {ops : Array Oper} {rest : List Oper} {o : Oper} {a : Act} {Q : Exit → Act → World → Prop} {w : World}
theorem wp_appAt {K : Act → World → Prop} (s x : Operand) (t e : TypeId) (ho : o.op = .call { callee := .builtin .append, args := #[s, x], argTypes := #[t, t] })
    (ht : P.underlying t = some (.slice e)) (hinfo : (P.info? e).map (fun i => (i.zero, i.size, i.bytes)) = some (some (.int .i64 0), 1, 8)) {g n : Nat} {A : Option Addr} {C : Nat} {zs : List Int}
    (hs : a.eval s = .slice A n C) (hown : Own e w g (g + 1) (.slice A n C) zs) (hl : zs.length = n)
    (ad : Addr) (c : Nat) (z : Int) (hx : a.eval x = .slice (some ad) 1 c) (hc : w.cell? (ad.add 0) = some (.int .i64 z)) (hn : n < 1000000000) (hlo : g ≤ w.heap.size)
    (h : ∀ g' C' w', g' = g ∨ g' = w.heap.size → Own e w' g' (g' + 1) (.slice (some ⟨g', 0, none⟩) (n + 1) C') (zs ++ [z]) → Touch g (g + 1) w w' → K (a.put o.dst (.slice (some ⟨g', 0, none⟩) (n + 1) C')) w') :
    o.wp P a w K Q := by
  obtain ⟨i, hi1, hi2, hi3, hi4⟩ := info_parts hinfo
  have row := hown.row
  rw [hl] at row
  obtain ⟨v', w', hr, h2, h3, _, h5⟩ := run_append_own_at (P := P) w g t o.type e i _ 1 8 ht hi1 hi2 hi3 hi4 rfl (by omega) _ n _ row ad 1 c [.int .i64 z] rfl (by
    intro j v hj
    match j, hj with
    | 0, hj => simp at hj; subst hj; exact hc) (by intro u hu; simp at hu; subst hu; rfl) (by unfold maxLen; omega) (by omega) hlo
  unfold Oper.wp execOp
  simp only [ho, resolve, invoke, builtin, Sem.run_bind, Sem.run_pure, Result.andThen_ok, List.map_toArray, List.map_cons, List.map_nil, hs, hx, hr]
  rcases h2.2 with ⟨_, h0⟩ | ⟨g', cap, cur, hv, hg, r⟩
  · omega
  · subst hv
    have hk : g' = g ∨ g' = w.heap.size := by
      rcases h5 with h5 | h5
      · rw [show (Value.slice (some ⟨g', 0, none⟩) (n + 1) cap).ownBlock = some g' from rfl] at h5
        have := hown.lo_le h5.symm
        exact .inl (by omega)
      · rw [show (Value.slice (some ⟨g', 0, none⟩) (n + 1) cap).ownBlock = some g' from rfl] at h5
        injection h5 with h5
        exact .inr h5
    have hT : Touch g (g + 1) w w' := ⟨h3.os, h3.tape, h3.output, h3.size, fun k hk' ho' => h3.block k hk' (by
      intro he
      have := hown.lo_le he.symm
      omega)⟩
    refine h g' cap w' hk ⟨⟨by simp [hl], .inr ⟨g', cap, cur, by simp [hl], Nat.le_refl _, ?_⟩⟩, ?_, by simp; omega⟩ hT
    · simpa [hl] using r
    · intro k hk'
      simp [Value.ownBlock] at hk'
      omega
theorem wpList_appAt (hgd : o.guard = none) (s x : Operand) (t e : TypeId) (ho : o.op = .call { callee := .builtin .append, args := #[s, x], argTypes := #[t, t] })
    (ht : P.underlying t = some (.slice e)) (hinfo : (P.info? e).map (fun i => (i.zero, i.size, i.bytes)) = some (some (.int .i64 0), 1, 8)) {g n : Nat} {A : Option Addr} {C : Nat} {zs : List Int}
    (hs : a.eval s = .slice A n C) (hown : Own e w g (g + 1) (.slice A n C) zs) (hl : zs.length = n)
    (ad : Addr) (c : Nat) (z : Int) (hx : a.eval x = .slice (some ad) 1 c) (hc : w.cell? (ad.add 0) = some (.int .i64 z)) (hn : n < 1000000000) (hlo : g ≤ w.heap.size)
    (h : ∀ g' C' w', g' = g ∨ g' = w.heap.size → Own e w' g' (g' + 1) (.slice (some ⟨g', 0, none⟩) (n + 1) C') (zs ++ [z]) → Touch g (g + 1) w w' → wpList P ops Q rest (a.put o.dst (.slice (some ⟨g', 0, none⟩) (n + 1) C')) w') :
    wpList P ops Q (o :: rest) a w :=
  wpList_plain hgd fun _ hK => wp_appAt s x t e ho ht hinfo hs hown hl ad c z hx hc hn hlo fun g' C' w' h0 h1 h2 => hK _ _ (h g' C' w' h0 h1 h2)
end
end Go.Proofs.YtlahobdopmdfmaaGreatDoor

/- OrdC -/
namespace Go.Proofs.YtlahobdopmdfmaaGreatDoor
open Go

section
variable {P : Program} {ops : Array Oper} {Q : Exit → Act → World → Prop} {md : Region.Mode} {S : World → Prop} {m : Nat}

/-- What is listed waits for nothing that is not. -/
def Shut (md : Region.Mode) (ops : Array Oper) (listed : Array Bool) : Prop := ∀ (k : Nat) (o : Oper), ops[k]? = some o → listed.getD k false = true → ∀ e ∈ o.after, Region.binds md e = true → listed.getD e.on false = true
def shutB (md : Region.Mode) (ops : Array Oper) (listed : Array Bool) : Bool :=
  (List.range ops.size).all fun k => match ops[k]? with
    | some o => !(listed.getD k false) || o.after.all fun e => !(Region.binds md e) || listed.getD e.on false
    | none => true
theorem shutB_spec {listed : Array Bool} (h : shutB md ops listed = true) : Shut md ops listed := by
  intro k o ho hl e he hb
  unfold shutB at h
  rw [List.all_eq_true] at h
  have hk : k < ops.size := by
    rcases Nat.lt_or_ge k ops.size with h' | h'
    · exact h'
    · rw [Array.getElem?_eq_none h'] at ho; cases ho
  have := h k (List.mem_range.2 hk)
  rw [ho] at this
  dsimp only at this
  rw [hl, Bool.not_true, Bool.false_or, ← Array.all_toList, List.all_eq_true] at this
  have := this e (by simpa using he)
  rwa [hb, Bool.not_true, Bool.false_or] at this
theorem Shut.ready {listed : Array Bool} (h : Shut md ops listed) {j : Nat} (hj : j ∈ Region.ready md ops listed) : Shut md ops (listed.setIfInBounds j true) := by
  obtain ⟨_, oj, hoj, hall⟩ := mem_ready.1 hj
  have up : ∀ k, listed.getD k false = true → (listed.setIfInBounds j true).getD k false = true := by
    intro k hk
    by_cases hjk : j = k
    · subst hjk
      rcases Nat.lt_or_ge j listed.size with h' | h'
      · simp [h']
      · simp [Array.getElem?_eq_none h'] at hk
    · rw [getD_set_ne false hjk]; exact hk
  intro k o ho hl e he hb
  by_cases hjk : j = k
  · subst hjk
    rw [hoj] at ho
    obtain rfl : oj = o := by injection ho
    exact up _ (hall e he hb)
  · rw [getD_set_ne false hjk] at hl
    exact up _ (h k o ho hl e he hb)

/-- Does number m wait for number i, maybe by way of others (n steps at most)? -/
def awaits (md : Region.Mode) (ops : Array Oper) : Nat → Nat → Nat → Bool
  | 0, _, _ => false
  | n + 1, m, i => match ops[m]? with
    | some o => o.after.any fun e => Region.binds md e && (e.on == i || awaits md ops n e.on i)
    | none => false
theorem awaits_spec {i : Nat} {listed : Array Bool} (h : Shut md ops listed) : ∀ (n m : Nat), awaits md ops n m i = true → (∀ o, ops[m]? = some o → ∀ e ∈ o.after, Region.binds md e = true → listed.getD e.on false = true) → listed.getD i false = true
  | 0, _, h0, _ => by simp [awaits] at h0
  | n + 1, m, h0, hm => by
    unfold awaits at h0
    cases ho : ops[m]? with
    | none => rw [ho] at h0; cases h0
    | some o =>
      rw [ho] at h0
      dsimp only at h0
      rw [← Array.any_toList, List.any_eq_true] at h0
      obtain ⟨e, he, h1⟩ := h0
      rw [Bool.and_eq_true, Bool.or_eq_true, beq_iff_eq] at h1
      have hl := hm o ho e (by simpa using he) h1.1
      rcases h1.2 with h2 | h2
      · rw [← h2]; exact hl
      · exact awaits_spec h n e.on h2 fun o' ho' e' he' hb' => h e.on o' ho' hl e' he' hb'

theorem wpAnyM_firstC {i : Nat} {oi : Oper} {v : Value} (hi : ops[i]? = some oi) (hsel : ∀ (j : Nat) (o : Oper) cs b, ops[j]? = some o → o.op ≠ .select cs b)
    (hQ : ∀ c a w, Q (.panic c) (a.put oi.dst v) w → Q (.panic c) a w) (hwait : ∀ listed, Shut md ops listed → listed.getD i false = false → m ∉ Region.ready md ops listed) :
    ∀ (fuel : Nat) (listed : Array Bool) (a : Act) (w : World), Shut md ops listed →
      (∀ j oj, ops[j]? = some oj → j ≠ i → listed.getD j true = false → (∀ e ∈ oj.after, Region.binds md e = true → e.on ≠ i) → oi.apart ops oj = true) →
      i ∈ Region.ready md ops listed → listed.getD m true = false → YieldsIf P ops S oi v a → S w →
      wpAnyM P md ops Q S m fuel (listed.setIfInBounds i true) (a.put oi.dst v) w → wpAnyM P md ops Q S m (fuel + 1) listed a w := by
  intro fuel
  induction fuel with
  | zero =>
    intro listed a w _ _ hr _ hy hS H
    refine ⟨fun h => (by rw [h] at hr; cases hr), fun j hj => ?_⟩
    by_cases hji : j = i
    · subst hji; exact hy.wpOp hi hS ⟨.inr hS, H⟩
    · have := ready_mono hj hji
      rw [H.1] at this
      cases this
  | succ fuel ih =>
    intro listed a w hsh hfree hr hmu hy hS H
    refine ⟨fun h => (by rw [h] at hr; cases hr), fun j hj => ?_⟩
    by_cases hji : j = i
    · subst hji; exact hy.wpOp hi hS ⟨.inr hS, H⟩
    · have h1 := H.2 j (ready_mono hj hji)
      obtain ⟨hjun, oj, hoj, hall⟩ := mem_ready.1 hj
      have iun' : listed.getD i true = false := (mem_ready.1 hr).1
      have iun : listed.getD i false = false := by
        rcases Nat.lt_or_ge i listed.size with h' | h'
        · simp [h'] at iun' ⊢; exact iun'
        · simp [Array.getElem?_eq_none h']
      have hjm : j ≠ m := by rintro rfl; exact hwait listed hsh iun hj
      have him : i ≠ m := by rintro rfl; exact hwait listed hsh iun hr
      have hnot : ∀ e ∈ oj.after, Region.binds md e = true → e.on ≠ i := fun e he hb heq => by
        have h1 := hall e he hb
        rw [heq, iun] at h1
        cases h1
      have h2 := wpOp_putIf hoj (hfree j oj hoj hji hjun hnot) (fun cs b => hsel i oi cs b hi) (fun cs b => hsel j oj cs b hoj) hQ hy h1
      have hfree' : ∀ k ok, ops[k]? = some ok → k ≠ i → (listed.setIfInBounds j true).getD k true = false →
          (∀ e ∈ ok.after, Region.binds md e = true → e.on ≠ i) → oi.apart ops ok = true := fun k ok hk hki hun hno => by
        refine hfree k ok hk hki ?_ hno
        by_cases hjk : j = k
        · subst hjk; exact hjun
        · rw [getD_set_ne true hjk] at hun; exact hun
      have hmj : (listed.setIfInBounds j true).getD m true = false := by rw [getD_set_ne true hjm]; exact hmu
      have hmi : ((listed.setIfInBounds i true).setIfInBounds j true).getD m true = false := by
        rw [getD_set_ne true hjm, getD_set_ne true him]; exact hmu
      refine wpOp_mono (fun a' w' h3 => ?_) h2
      obtain ⟨h4, h5, h6⟩ := h3
      have hS' : S w' := by
        rcases h5 with h5 | h5
        · rw [hmi] at h5; cases h5
        · exact h5
      refine ⟨.inr hS', ih (listed.setIfInBounds j true) a' w' (hsh.ready hj) hfree' (ready_mono hr (Ne.symm hji)) hmj h4 hS' ?_⟩
      rw [Array.setIfInBounds_comm _ _ hji]
      exact h6

/-- Number i is taken first. -/
theorem wpAnyM_takeC {i : Nat} {oi : Oper} {v : Value} {fuel : Nat} {listed : Array Bool} {a : Act} {w : World} (n : Nat) (hi : ops[i]? = some oi)
    (hs : Region.noSelect ops = true) (hf : Region.free md ops listed i = true) (hr : (Region.ready md ops listed).contains i = true) (hwm : awaits md ops n m i = true) (hsh : shutB md ops listed = true) (hm : listed.getD m true = false)
    (hQ : ∀ c a w, Q (.panic c) (a.put oi.dst v) w → Q (.panic c) a w) (hS : S w) (hy : YieldsIf P ops S oi v a)
    (h : wpAnyM P md ops Q S m fuel (listed.setIfInBounds i true) (a.put oi.dst v) w) : wpAnyM P md ops Q S m (fuel + 1) listed a w :=
  wpAnyM_firstC hi (Region.noSelect_spec hs) hQ (fun _ hsh' hun hmr => by
    obtain ⟨_, om, hom, hall⟩ := mem_ready.1 hmr
    have := awaits_spec hsh' n m hwm (fun o ho e he hb => by
      rw [hom] at ho
      obtain rfl : om = o := by injection ho
      exact hall e he hb)
    rw [hun] at this; cases this) fuel listed a w (shutB_spec hsh) (Region.free_spec hi hf) (by simpa using hr) hm hy hS h
end
end Go.Proofs.YtlahobdopmdfmaaGreatDoor

/- DrawR -/
namespace Go.Proofs.YtlahobdopmdfmaaGreatDoor
open Go.RowKit

/-- Digits of a base. -/
def DigsOf (b : Int) (ds : List Int) : Prop := ∀ d ∈ ds, 0 ≤ d ∧ d < b
theorem digsOf_nil (b : Int) : DigsOf b [] := fun d hd => by cases hd
set_option maxHeartbeats 4000000 in
theorem drawDigits_any (s K : Nat) (b : Int) (n : Nat) (w : World) (h : Src w s K) (hK : K ≤ 800000) (b0 : 2 ≤ b) (b1 : b ≤ 16) (hn : n ≤ 100) :
    Calls Tryz.prog 45 #[.pointer (some ⟨s, 0, none⟩), .int .i64 b, .int .i64 (n : Nat)] w fun e w' => ∃ ds A C, e = .returned (.slice A n C) ∧ List.length ds = n ∧ DigsOf b ds ∧
      Own 2 w' w.heap.size w'.heap.size (.slice A n C) ds ∧ Touch s (s + 1) w w' ∧ Src w' s (K + 4 * n) := by
  have hs := h.lt
  obtain ⟨G, hG⟩ : ∃ G, G = w.heap.size := ⟨_, rfl⟩
  obtain ⟨u, hu⟩ : ∃ u, u = w.alloc (.cells #[] 2) := ⟨_, rfl⟩
  have hbu : Below w.heap.size w u := by rw [hu]; exact (by repeat (first | exact Below.refl _ _ | refine Below.setCell ?_ (by first | omega | (simp <;> omega)) _ | refine Below.alloc ?_ (by first | omega | (simp <;> omega)) _ | refine Below.drew ?_))
  have hsu : u.heap.size = G + 1 := by rw [hu, hG]; simp
  have oq : Own 2 u G (G + 1) (.slice (some ⟨G, 0, none⟩) 0 0) [] := by
    rw [hu, hG]
    exact own_of_row (zs := []) (by simpa using row_new 2 1 w #[] 0 (by simp) (by omega)) rfl (by simp)
  have su : Src u s K := h.lo hbu hs
  have tu : Touch s (s + 1) w u := Below.touch hbu
  have HU := Lib.hid hu
  have HG := Lib.hid hG
  have hsG : s < G := by omega
  clear hu h hbu
  go_enter Tryz.func45, Tryz.ntmps45
  go_wp2_with fail
  rw [← HU.out, ← hG]
  clear hG
  go_loopw [7, 8, 9] (fun o k _ wr => ∃ (j : Nat) (ds : List Int) (g : Nat) (E : Nat), j ≤ n ∧ k = .int .i64 (j : Nat) ∧ ds.length = j ∧ o = .slice (some ⟨g, 0, none⟩) j E ∧ DigsOf b ds ∧ G ≤ g ∧ Own 2 wr g (g + 1) (.slice (some ⟨g, 0, none⟩) j E) ds ∧ Touch s (s + 1) w wr ∧ Src wr s (K + 4 * j)) (fun _ k _ _ => n - (intOf k).toNat)
  case atStart => exact ⟨0, [], G, 0, Nat.zero_le _, rfl, rfl, rfl, digsOf_nil b, Nat.le_refl _, oq, tu, su⟩
  case round =>
    clear oq tu su
    obtain ⟨j, ds, g, E, hj, rfl, hl, rfl, hd, hg, ow, ht, hsrc⟩ := hrel
    have HL := Lib.hid hl
    clear hl
    have hsz := ht.size
    have hgl := ow.lo_le (k := g) rfl
    by_cases hlt : j < n
    · go_wp2_with fail
      refine (pick_any s _ b _ hsrc (by omega) (by omega)).mono ?_
      rintro e w1 ⟨z, rfl, z0, z1, hs1, ht1⟩
      have hl1 := ht1.size
      replace ow := ow.touch ht1 (.inr (by omega))
      replace ht := ht.trans ht1
      clear ht1 hsrc
      go_wp2_with fail
      refine (one_any s _ 3 _ hs1 (by omega) (by omega)).mono ?_
      rintro e w2 ⟨x, rfl, hs2, ht2⟩
      have hl2 := ht2.size
      replace ow := ow.touch ht2 (.inr (by omega))
      replace ht := ht.trans ht2
      clear ht2 hs1
      have fin : ∀ (y : Int), 0 ≤ y → y < b → ∀ g' E' w5, (g' = g ∨ g' = (w2.alloc (.cells #[.int .i64 y] 2)).heap.size) → Own 2 w5 g' (g' + 1) (.slice (some ⟨g', 0, none⟩) (j + 1) E') (ds ++ [y]) → Touch g (g + 1) (w2.alloc (.cells #[.int .i64 y] 2)) w5 →
          G ≤ g' ∧ DigsOf b (ds ++ [y]) ∧ Touch s (s + 1) w w5 ∧ Src w5 s (K + 4 * (j + 1)) := by
        intro y y0 y1 g' E' w5 hg' ow' ht5
        have tt : Touch G (w5.heap.size + w2.heap.size + 1) w2 w5 := ((Touch.refl G (w5.heap.size + w2.heap.size + 1) w2).alloc _).trans (ht5.widen (by omega) (by have := hgl.2.2; omega))
        have hgg : g' = g ∨ g' = w2.heap.size + 1 := by simpa using hg'
        refine ⟨by omega, ?_, ht.then_ tt (by have := HG.out; omega), (hs2.touch tt hsG).mono (by omega)⟩
        intro d hd'
        rcases List.mem_append.1 hd' with h1 | h1
        · exact hd d h1
        · rw [List.mem_singleton] at h1; subst h1; exact ⟨y0, y1⟩
      have v1 : IntKind.i64.wrap (b - 1) = b - 1 := fits_int _ (by omega) (by omega)
      cases x with
      | true =>
        go_wp2_with (at_builtin; go_must (refine wpList_appAt rfl (.tmp 23) (.tmp 25) 24 2 rfl Tryz.underlying24 info_int64 rfl (ow.alloc _) HL.out ⟨w2.heap.size, 0, none⟩ 1 (b - 1) rfl (cell_new1 w2 _ _) (by omega) (by simp <;> omega) ?_); intro g' E' w5 hg' own5 ht5; have hf := Lib.hid (fin (b - 1) (by omega) (by omega) g' E' w5 hg' own5 ht5); clear ht5 hg')
        clear fin
        go_roundw
        case rel => exact ⟨j + 1, ds ++ [b - 1], g', E', by omega, by go_num, by simp [HL.out], rfl, hf.out.2.1, hf.out.1, own5, hf.out.2.2.1, hf.out.2.2.2⟩
        case measure => (simp [intOf]) <;> omega
      | false =>
        go_wp2_with (at_builtin; go_must (refine wpList_appAt rfl (.tmp 23) (.tmp 25) 24 2 rfl Tryz.underlying24 info_int64 rfl (ow.alloc _) HL.out ⟨w2.heap.size, 0, none⟩ 1 (z) rfl (cell_new1 w2 _ _) (by omega) (by simp <;> omega) ?_); intro g' E' w5 hg' own5 ht5; have hf := Lib.hid (fin (z) (by omega) (by omega) g' E' w5 hg' own5 ht5); clear ht5 hg')
        clear fin
        go_roundw
        case rel => exact ⟨j + 1, ds ++ [z], g', E', by omega, by go_num, by simp [HL.out], rfl, hf.out.2.1, hf.out.1, own5, hf.out.2.2.1, hf.out.2.2.2⟩
        case measure => (simp [intOf]) <;> omega
    · obtain rfl : j = n := by omega
      go_wp2_with fail
      exact bodyPost_ret (v := .slice (some ⟨g, 0, none⟩) j E) (by simp [results, Tryz.results45, go_sem]) rfl ⟨ds, some ⟨g, 0, none⟩, E, rfl, HL.out, hd, ow.wide (by have := HG.out; omega) (by omega), ht, hsrc⟩

/-- A register that has been drawn. -/
structure DrawnR (b : Int) (ds : List Int) (m : Nat) : Prop where
  b0 : 2 ≤ b
  b1 : b ≤ 12
  n0 : 1 ≤ ds.length
  n1 : ds.length ≤ m
  digs : DigsOf b ds
/-- A register in a box, whose base has been chosen. -/
def RegAt (w : World) (B : Nat) (wx : World) : Prop := ∃ b : Int, 2 ≤ b ∧ b ≤ 12 ∧ Bx wx B 26 #[.int .i64 b, .slice none 0 0] ∧ Touch B (B + 1) w wx
end Go.Proofs.YtlahobdopmdfmaaGreatDoor

/- Among -/
namespace Go.Proofs.YtlahobdopmdfmaaGreatDoor
open Go.RowKit

theorem rd_at0 {w : World} {b : Nat} {zs : List Int} {k : Nat} (h : Rd w (some ⟨b, 0, none⟩) zs) (hk : k < zs.length) : w.cell? ⟨b, k, none⟩ = some (.int .i64 (nth zs k)) := by
  obtain ⟨b', o', e, hc⟩ := h.at_ hk
  injection e with e
  injection e with e1 e2
  subst e1 e2
  simpa using hc
theorem among_any (s K g c : Nat) (zs : List Int) (w : World) (h : Src w s K) (hK : K ≤ 800000) (hz : Rd w (some ⟨g, 0, none⟩) zs) (hg : s < g) (h1 : 1 ≤ zs.length) (h2 : zs.length ≤ 1000) :
    Calls Tryz.prog 42 #[.pointer (some ⟨s, 0, none⟩), .slice (some ⟨g, 0, none⟩) zs.length c] w fun e w' => ∃ z, e = .returned (.int .i64 z) ∧ z ∈ zs ∧ Src w' s (K + 2) ∧ Touch s (s + 1) w w' := by
  go_enter Tryz.func42, Tryz.ntmps42
  go_wp2_with fail
  refine (pick_any s K (zs.length : Int) w h (by omega) (by omega)).mono ?_
  rintro e w1 ⟨z, rfl, z0, z1, hs1, ht1⟩
  obtain ⟨k, rfl⟩ := Int.eq_ofNat_of_zero_le z0
  have hk : k < zs.length := by omega
  have hc := keptT ht1 (rd_at0 hz hk) (by omega)
  have HM := Lib.hid (show nth zs k ∈ zs by rw [nth_get hk]; exact List.getElem_mem hk)
  clear z0 z1 hz
  go_wp2_with fail
  go_ret
  exact ⟨nth zs k, rfl, HM.out, hs1, ht1⟩
theorem rd_new (w : World) (zs : List Int) (h : zs.length ≤ 1000) : Rd (w.alloc (.cells (zs.map (Value.int .i64)).toArray 2)) (some ⟨w.heap.size, 0, none⟩) zs := by
  refine ⟨by omega, fun _ => ⟨w.heap.size, 0, rfl, fun i hi => ?_⟩⟩
  rw [Nat.zero_add, (Bx.new w (zs.map (Value.int .i64)).toArray 2).cell i, nth_get hi]
  simp [hi]

theorem mid64 {z : Int} (h0 : -1000000 ≤ z) (h1 : z ≤ 1000000) : I64 z := by
  unfold I64
  simp [Lit.wf, IntKind.min, IntKind.max, IntKind.signed, IntKind.bits]
  omega
end Go.Proofs.YtlahobdopmdfmaaGreatDoor

/- MadM -/
namespace Go.Proofs.YtlahobdopmdfmaaGreatDoor
open Go.RowKit

/-- A machine that is drawn. -/
structure DrawnM (m : Mac) : Prop where
  ok : macB m = true
  b : m.b1 ≤ 12
  n1 : m.z1.length ≤ 4
  n2 : m.z2.length ≤ 8
  n3 : m.z3.length ≤ 5

theorem pow_drawn {b : Int} {n k : Nat} (b0 : 2 ≤ b) (b1 : b ≤ 12) (h : n ≤ k) (hk : k ≤ 8) : b ^ n - 1 ≤ 1000000000000 := by
  have h1 : ∀ k : Nat, b ^ k ≤ 12 ^ k := fun k => by
    induction k with
    | zero => simp
    | succ k ih => rw [Int.pow_succ, Int.pow_succ]; exact Int.mul_le_mul ih b1 (by omega) (Int.pow_nonneg (by omega))
  have h2 := h1 n
  have h3 : n = 0 ∨ n = 1 ∨ n = 2 ∨ n = 3 ∨ n = 4 ∨ n = 5 ∨ n = 6 ∨ n = 7 ∨ n = 8 := by omega
  rcases h3 with e | e | e | e | e | e | e | e | e <;> rw [e] at h2 ⊢ <;> (refine Int.le_trans (Int.sub_le_sub_right h2 1) ?_) <;> decide
theorem drawn_mk {b p : Int} {z1 z2 z3 : List Int} (b0 : 2 ≤ b) (b1 : b ≤ 12) (n0 : 1 ≤ z1.length) (n1 : z1.length ≤ 4) (n2 : z1.length ≤ z2.length) (n3 : z2.length ≤ 8) (n4 : 1 ≤ z3.length) (n5 : z3.length ≤ 5)
    (d1 : DigsM b z1) (d2 : DigsM b z2) (d3 : DigsM b z3) (p0 : 0 ≤ p) (p1 : p + z1.length ≤ z2.length) (p2 : p < z3.length) : DrawnM ⟨b, z1, b, z2, b, z3, p⟩ := by
  have g1 : okB b z1 = true := okB_digs b0 (by omega) n0 (by omega) d1 (pow_drawn b0 b1 (k := 8) (by omega) (by omega))
  have g2 : okB b z2 = true := okB_digs b0 (by omega) (by omega) (by omega) d2 (pow_drawn b0 b1 (k := 8) (by omega) (by omega))
  have g3 : okB b z3 = true := okB_digs b0 (by omega) (by omega) (by omega) d3 (pow_drawn b0 b1 (k := 8) (by omega) (by omega))
  have g4 : b ^ z2.length - 1 ≤ 1000000000000 := pow_drawn b0 b1 (k := 8) (by omega) (by omega)
  have g5 : b ^ z3.length - 1 ≤ 1000000000000 := pow_drawn b0 b1 (k := 8) (by omega) (by omega)
  have g6 : p ≤ min ((z2.length : Int) - z1.length + 1) z3.length - 1 := by omega
  refine ⟨?_, b1, n1, n3, n5⟩
  unfold macB
  rw [decide_eq_true_eq]
  exact ⟨g1, g2, g3, rfl, rfl, g4, g5, n2, p0, g6⟩
theorem drawn_parts {m : Mac} (h : DrawnM m) : ∃ b z1 z2 z3 p, m = ⟨b, z1, b, z2, b, z3, p⟩ ∧ 2 ≤ b ∧ b ≤ 12 ∧ 1 ≤ List.length z1 ∧ List.length z1 ≤ 4 ∧ z1.length ≤ List.length z2 ∧ z2.length ≤ 8 ∧ 1 ≤ List.length z3 ∧ z3.length ≤ 5 ∧ DigsM b z1 ∧ DigsM b z2 ∧ DigsM b z3 ∧ 0 ≤ p ∧ p + z1.length ≤ z2.length ∧ p < z3.length := by
  obtain ⟨e2, e3, b0, b1, n0, n12, n2, n3, n4, p0, p1, p2, d1, d2, d3⟩ := macB_facts h.ok
  have hb := h.b
  have h1 := h.n1
  have h2 := h.n2
  have h3 := h.n3
  obtain ⟨b, z1, c, z2, d, z3, p⟩ := m
  obtain rfl : c = b := e2
  obtain rfl : d = c := e3
  exact ⟨_, _, _, _, _, rfl, b0, hb, n0, h1, n12, h2, n3, h3, d1, d2, d3, p0, p1, p2⟩
theorem DrawnM.put1 {m : Mac} (h : DrawnM m) {ds : List Int} (hl : ds.length = m.z1.length) (hd : DigsM m.b1 ds) : DrawnM ⟨m.b1, ds, m.b2, m.z2, m.b3, m.z3, m.p⟩ := by
  obtain ⟨b, z1, z2, z3, p, rfl, b0, b1, n0, n1, n2, n3, n4, n5, d1, d2, d3, p0, p1, p2⟩ := drawn_parts h
  simp only at hl hd ⊢
  exact drawn_mk b0 b1 (by omega) (by omega) (by omega) n3 n4 n5 hd d2 d3 p0 (by omega) p2
theorem DrawnM.put2 {m : Mac} (h : DrawnM m) {ds : List Int} (hl : ds.length = m.z2.length) (hd : DigsM m.b1 ds) : DrawnM ⟨m.b1, m.z1, m.b2, ds, m.b3, m.z3, m.p⟩ := by
  obtain ⟨b, z1, z2, z3, p, rfl, b0, b1, n0, n1, n2, n3, n4, n5, d1, d2, d3, p0, p1, p2⟩ := drawn_parts h
  simp only at hl hd ⊢
  exact drawn_mk b0 b1 n0 n1 (by omega) (by omega) n4 n5 d1 hd d3 p0 (by omega) p2
theorem DrawnM.move {m : Mac} (h : DrawnM m) {k : Int} (k0 : 0 ≤ k) (k1 : k ≤ plcs m - 1) : DrawnM ⟨m.b1, m.z1, m.b2, m.z2, m.b3, m.z3, k⟩ := by
  obtain ⟨b, z1, z2, z3, p, rfl, b0, b1, n0, n1, n2, n3, n4, n5, d1, d2, d3, p0, p1, p2⟩ := drawn_parts h
  unfold plcs at k1
  simp only at k1 ⊢
  exact drawn_mk b0 b1 n0 n1 n2 n3 n4 n5 d1 d2 d3 k0 (by omega) (by omega)
theorem doM_b (m : Mac) (k : Int) : (doM m k).1.b1 = m.b1 := by
  unfold doM shfM trnM
  repeat' split
  all_goals rfl
theorem DrawnM.do_ {m : Mac} (h : DrawnM m) (k : Int) : DrawnM (doM m k).1 := by
  obtain ⟨h1, h2, h3⟩ := doM_len m k
  exact ⟨doM_ok h.ok k, by rw [doM_b]; exact h.b, by rw [h1]; exact h.n1, by rw [h2]; exact h.n2, by rw [h3]; exact h.n3⟩
theorem drawn_plcs {m : Mac} (h : DrawnM m) : 1 ≤ plcs m ∧ plcs m ≤ 5 := by
  obtain ⟨b, z1, z2, z3, p, rfl, b0, b1, n0, n1, n2, n3, n4, n5, d1, d2, d3, p0, p1, p2⟩ := drawn_parts h
  unfold plcs
  simp only
  omega

theorem touch_lo {a b c : World} {lo hi L : Nat} (h : Touch lo hi a b) (hb : Below L b c) (hL : a.heap.size ≤ L) : Touch lo hi a c :=
  ⟨hb.os.trans h.os, hb.tape.trans h.tape, hb.output.trans h.output, Nat.le_trans h.size hb.size, fun k hk ho => (hb.block k (by omega)).trans (h.block k hk ho)⟩
theorem Wm.touch {w w' : World} {L p lo hi : Nat} {m : Mac} {A1 : Option Addr} {C1 : Nat} {A2 : Option Addr} {C2 : Nat} {A3 : Option Addr} {C3 : Nat} (h : Wm w L p m A1 C1 A2 C2 A3 C3) (ht : Touch lo hi w w') (hL : hi ≤ L) : Wm w' L p m A1 C1 A2 C2 A3 C3 := by
  obtain ⟨l1, h1, l2, h2, l3, h3, o1, o2, o3, s⟩ := h.ex
  have := ht.size
  exact ⟨h.bx.touch ht (.inr (by have := h.lp; omega)), h.lp, l1, h1, l2, h2, l3, h3, o1.touch ht (.inr (by omega)), o2.touch ht (.inr (by omega)), o3.touch ht (.inr (by omega)), by omega⟩
theorem Wm.put1 {w v : World} {L p : Nat} {m : Mac} {A1 : Option Addr} {C1 : Nat} {A2 : Option Addr} {C2 : Nat} {A3 : Option Addr} {C3 : Nat} (h : Wm w L p m A1 C1 A2 C2 A3 C3) {A : Option Addr} {C n : Nat} {ds : List Int} (ho : Own 2 w (v.heap.size) w.heap.size (.slice A n C) ds) (hn : n = ds.length)
    (hvw : v.heap.size ≤ w.heap.size) (hp : p < v.heap.size) (hL : L ≤ v.heap.size) (hs : ∃ l1 h1 l2 h2 l3 h3 : Nat, Own 2 w l1 h1 (.slice A1 m.z1.length C1) m.z1 ∧ Own 2 w l2 h2 (.slice A2 m.z2.length C2) m.z2 ∧ Own 2 w l3 h3 (.slice A3 m.z3.length C3) m.z3 ∧
    L ≤ l1 ∧ L ≤ l2 ∧ L ≤ l3 ∧ h1 ≤ v.heap.size ∧ h2 ≤ v.heap.size ∧ h3 ≤ v.heap.size ∧ (h1 ≤ l2 ∨ h2 ≤ l1) ∧ (h1 ≤ l3 ∨ h3 ≤ l1) ∧ (h2 ≤ l3 ∨ h3 ≤ l2) ∧ (p < l1 ∨ h1 ≤ p) ∧ (p < l2 ∨ h2 ≤ p) ∧ (p < l3 ∨ h3 ≤ p)) :
    Wm (w.setCell ⟨p, 1, none⟩ (.slice A n C)) L p ⟨m.b1, ds, m.b2, m.z2, m.b3, m.z3, m.p⟩ A C A2 C2 A3 C3 ∧ Wm (w.setCell ⟨p, 3, none⟩ (.slice A n C)) L p ⟨m.b1, m.z1, m.b2, ds, m.b3, m.z3, m.p⟩ A1 C1 A C A3 C3 := by
  obtain ⟨l1, h1, l2, h2, l3, h3, o1, o2, o3, s⟩ := hs
  subst hn
  constructor
  · exact ⟨h.bx.set_ 1 _, h.lp, v.heap.size, w.heap.size, l2, h2, l3, h3, ho.setCell (by simp; omega) _, o2.setCell (by simp; omega) _, o3.setCell (by simp; omega) _, by simp; omega⟩
  · exact ⟨h.bx.set_ 3 _, h.lp, l1, h1, v.heap.size, w.heap.size, l3, h3, o1.setCell (by simp; omega) _, ho.setCell (by simp; omega) _, o3.setCell (by simp; omega) _, by simp; omega⟩

/-- What has been drawn so far. -/
structure Mq (w : World) (s r N p : Nat) (m : Mac) (X : World) (A1 : Option Addr) (C1 : Nat) (A2 : Option Addr) (C2 : Nat) (A3 : Option Addr) (C3 : Nat) : Prop where
  wm : Wm X (r + 1) p m A1 C1 A2 C2 A3 C3
  br : Bx X r 28 #[.int .i64 0, .slice none 0 0, .int .i64 0, .slice none 0 0, .int .i64 0, .slice none 0 0, .int .i64 0]
  src : Src X s N
  t : Touch s (s + 1) w X
  dr : DrawnM m
  rw_ : r = w.heap.size
  sr : s < r
theorem Mq.pick {w X Y : World} {s r N N' p : Nat} {m : Mac} {A1 : Option Addr} {C1 : Nat} {A2 : Option Addr} {C2 : Nat} {A3 : Option Addr} {C3 : Nat} (h : Mq w s r N p m X A1 C1 A2 C2 A3 C3) (ht : Touch s (s + 1) X Y) (hs : Src Y s N') : Mq w s r N' p m Y A1 C1 A2 C2 A3 C3 :=
  ⟨h.wm.touch ht (by have := h.sr; omega), h.br.touch ht (.inr (by have := h.sr; omega)), hs, h.t.trans ht, h.dr, h.rw_, h.sr⟩
theorem Mq.low {w X Y : World} {s r N p : Nat} {m : Mac} {A1 : Option Addr} {C1 : Nat} {A2 : Option Addr} {C2 : Nat} {A3 : Option Addr} {C3 : Nat} (h : Mq w s r N p m X A1 C1 A2 C2 A3 C3) (hb : Below X.heap.size X Y) : Mq w s r N p m Y A1 C1 A2 C2 A3 C3 :=
  ⟨h.wm.below hb, h.br.below hb, h.src.lo hb h.src.lt, h.t.trans ⟨hb.os, hb.tape, hb.output, hb.size, fun k hk _ => hb.block k hk⟩, h.dr, h.rw_, h.sr⟩
theorem Mq.do_ {w X Y : World} {s r N p : Nat} {m m' : Mac} {A1 : Option Addr} {C1 : Nat} {A2 : Option Addr} {C2 : Nat} {A3 : Option Addr} {C3 : Nat} (h : Mq w s r N p m X A1 C1 A2 C2 A3 C3) (hW : WmE Y (r + 1) p m') (hb : Below (r + 1) X Y) (hd : DrawnM m') : ∃ (A1 : Option Addr) (C1 : Nat) (A2 : Option Addr) (C2 : Nat) (A3 : Option Addr) (C3 : Nat), Mq w s r N p m' Y A1 C1 A2 C2 A3 C3 := by
  obtain ⟨A1, C1, A2, C2, A3, C3, hW⟩ := hW
  exact ⟨A1, C1, A2, C2, A3, C3, hW, (hb.block r (Nat.lt_succ_self _)).trans h.br, h.src.lo hb (by have := h.sr; omega), touch_lo h.t hb (by have := h.rw_; omega), hd, h.rw_, h.sr⟩
theorem Mq.move {w X : World} {s r N p : Nat} {m : Mac} {A1 : Option Addr} {C1 : Nat} {A2 : Option Addr} {C2 : Nat} {A3 : Option Addr} {C3 : Nat} (h : Mq w s r N p m X A1 C1 A2 C2 A3 C3) {k : Int} (k0 : 0 ≤ k) (k1 : k ≤ plcs m - 1) : Mq w s r N p ⟨m.b1, m.z1, m.b2, m.z2, m.b3, m.z3, k⟩ (X.setCell ⟨p, 6, none⟩ (.int .i64 k)) A1 C1 A2 C2 A3 C3 := by
  have hb := h.wm.belowL 6 (.int .i64 k)
  exact ⟨h.wm.move k, (hb.block r (Nat.lt_succ_self _)).trans h.br, h.src.lo hb (by have := h.sr; omega), touch_lo h.t hb (by have := h.rw_; omega), h.dr.move k0 k1, h.rw_, h.sr⟩
theorem Mq.put {w X Y : World} {s r N N' p : Nat} {m : Mac} {A1 : Option Addr} {C1 : Nat} {A2 : Option Addr} {C2 : Nat} {A3 : Option Addr} {C3 : Nat} (h : Mq w s r N p m X A1 C1 A2 C2 A3 C3) {A : Option Addr} {C n : Nat} {ds : List Int} (ht : Touch s (s + 1) X Y) (hs : Src Y s N')
    (ho : Own 2 Y X.heap.size Y.heap.size (.slice A n C) ds) (hn : n = ds.length) (hd : DigsM m.b1 ds) :
    (ds.length = m.z1.length → Mq w s r N' p ⟨m.b1, ds, m.b2, m.z2, m.b3, m.z3, m.p⟩ (Y.setCell ⟨p, 1, none⟩ (.slice A n C)) A C A2 C2 A3 C3) ∧
    (ds.length = m.z2.length → Mq w s r N' p ⟨m.b1, m.z1, m.b2, ds, m.b3, m.z3, m.p⟩ (Y.setCell ⟨p, 3, none⟩ (.slice A n C)) A1 C1 A C A3 C3) := by
  have g := h.pick ht hs
  obtain ⟨l1, h1, l2, h2, l3, h3, o1, o2, o3, q⟩ := h.wm.ex
  have hsr := h.sr
  have W := g.wm.put1 (v := X) ho hn ht.size h.wm.bx.lt (by have := h.br.lt; omega) ⟨l1, h1, l2, h2, l3, h3, o1.touch ht (.inr (by omega)), o2.touch ht (.inr (by omega)), o3.touch ht (.inr (by omega)), q⟩
  have b1 := g.wm.belowL 1 (.slice A n C)
  have b3 := g.wm.belowL 3 (.slice A n C)
  constructor
  · exact fun hl => ⟨W.1, (b1.block r (Nat.lt_succ_self _)).trans g.br, g.src.lo b1 (by omega), touch_lo g.t b1 (by have := h.rw_; omega), h.dr.put1 hl hd, h.rw_, hsr⟩
  · exact fun hl => ⟨W.2, (b3.block r (Nat.lt_succ_self _)).trans g.br, g.src.lo b3 (by omega), touch_lo g.t b3 (by have := h.rw_; omega), h.dr.put2 hl hd, h.rw_, hsr⟩
end Go.Proofs.YtlahobdopmdfmaaGreatDoor

/- StnM -/
namespace Go.Proofs.YtlahobdopmdfmaaGreatDoor
open Go.RowKit

/-- The table of names, as the program's variable holds it. -/
def StrokeNames (w : World) : Prop :=
  w.cell? ⟨0, 1, none⟩ = some (.string ⟨#[97, 100, 100]⟩) ∧ w.cell? ⟨0, 2, none⟩ = some (.string ⟨#[115, 117, 98]⟩) ∧ w.cell? ⟨0, 3, none⟩ = some (.string ⟨#[114, 105, 103, 104, 116]⟩) ∧ w.cell? ⟨0, 4, none⟩ = some (.string ⟨#[108, 101, 102, 116]⟩) ∧ w.cell? ⟨0, 5, none⟩ = some (.string ⟨#[99, 108, 101, 97, 114]⟩) ∧ w.cell? ⟨0, 6, none⟩ = some (.string ⟨#[122, 101, 114, 111]⟩)
theorem strokeNames_below {w w' : World} (h : StrokeNames w) (hb : Below w.heap.size w w') : StrokeNames w' := ⟨kept hb h.1, kept hb h.2.1, kept hb h.2.2.1, kept hb h.2.2.2.1, kept hb h.2.2.2.2.1, kept hb h.2.2.2.2.2⟩
def snV (c : Int) : ByteArray :=
  match c with
  | 1 => ⟨#[97, 100, 100]⟩
  | 2 => ⟨#[115, 117, 98]⟩
  | 3 => ⟨#[114, 105, 103, 104, 116]⟩
  | 4 => ⟨#[108, 101, 102, 116]⟩
  | 5 => ⟨#[99, 108, 101, 97, 114]⟩
  | 6 => ⟨#[122, 101, 114, 111]⟩
  | _ => ByteArray.empty
theorem snV_out {c : Int} (h : c < 1 ∨ 6 < c) : snV c = ByteArray.empty := by
  unfold snV
  split <;> first | omega | rfl

theorem snOf_any (k : Int) (w : World) (p : Nat) (c : Nat) (h : w.cell? ⟨p, 0, none⟩ = some (.int .i64 k)) :
    Calls Tryz.prog 34 #[.slice (some ⟨p, 0, none⟩) 1 c] w fun e w' => e = .returned (.bool (inB k 1 6)) ∧ w' = w := by
  have HW := Lib.hid (within1_at 1 6 k w p c h)
  go_enter Tryz.func34, Tryz.ntmps34
  go_wp2_with fail
  refine HW.out.mono ?_
  rintro e w1 ⟨rfl, hw⟩
  subst w1
  go_wp2
  go_ret
  exact ⟨rfl, rfl⟩

set_option maxRecDepth 100000 in
set_option maxHeartbeats 4000000 in
theorem implStrokeName (c : Int) (w : World) (_ : I64 c) (hn : StrokeNames w) :
    Calls Tryz.prog 14 #[.int .i64 c] w fun e w' => e = .returned (.string (snV c)) ∧ Below w.heap.size w w' := by
  obtain ⟨v, hv⟩ : ∃ v, v = w.alloc (.cells #[.int .i64 c] 2) := ⟨_, rfl⟩
  have hb : Below w.heap.size w v := by rw [hv]; exact (Below.refl _ _).alloc (Nat.le_refl _) _
  have tc : v.cell? ⟨w.heap.size, 0, none⟩ = some (.int .i64 c) := by rw [hv]; exact (Bx.new _ _ _).at_ 0 rfl
  obtain ⟨n0, n1, n2, n3, n4, n5⟩ := strokeNames_below hn hb
  have HV := Lib.hid hv
  clear hv hn
  have HW := Lib.hid (snOf_any c v w.heap.size 1 tc)
  clear tc
  cases hc : inB c 1 6 with
  | true =>
    rw [hc] at HW
    obtain ⟨h1, h2⟩ := inB_true hc
    have hcc : c = 1 ∨ c = 2 ∨ c = 3 ∨ c = 4 ∨ c = 5 ∨ c = 6 := by omega
    clear hc h1 h2
    rcases hcc with rfl | rfl | rfl | rfl | rfl | rfl
    all_goals
      go_enter Tryz.func14, Tryz.ntmps14
      go_wp2_with fail
      rw [← HV.out]
      refine HW.out.mono ?_
      rintro e w' ⟨rfl, hq⟩
      subst w'
      go_wp2
      go_ret
      exact ⟨rfl, hb⟩
  | false =>
    rw [hc] at HW
    have HR := Lib.hid (snV_out (inB_false hc))
    clear hc
    go_enter Tryz.func14, Tryz.ntmps14
    go_wp2_with fail
    rw [← HV.out]
    refine HW.out.mono ?_
    rintro e w' ⟨rfl, hq⟩
    subst w'
    go_wp2
    go_ret
    exact ⟨by rw [HR.out]; rfl, hb⟩
end Go.Proofs.YtlahobdopmdfmaaGreatDoor

/- StkT -/
namespace Go.Proofs.YtlahobdopmdfmaaGreatDoor
open Go.RowKit

theorem mac_wf {m : Mac} (h : macB m = true) : (All64 m.z1 ∧ All64 m.z2 ∧ All64 m.z3) ∧ (I64 m.b1 ∧ I64 m.b2 ∧ I64 m.b3 ∧ I64 m.p) := by
  obtain ⟨e2, e3, b0, b1, n0, n12, n2, n3, n4, p0, p1, p2, d1, d2, d3⟩ := macB_facts h
  refine ⟨⟨fun d hd => ?_, fun d hd => ?_, fun d hd => ?_⟩, i64_at (by omega) (by omega), i64_at (by omega) (by omega), i64_at (by omega) (by omega), i64_at (by omega) (by omega)⟩
  · have := d1 d hd; exact i64_at (by omega) (by omega)
  · have := d2 d hd; exact i64_at (by omega) (by omega)
  · have := d3 d hd; exact i64_at (by omega) (by omega)
theorem mtV_size {m : Mac} (h : macB m = true) : (mtV m).size ≤ 1048576 := by
  obtain ⟨e2, e3, b0, b1, n0, n12, n2, n3, n4, p0, p1, p2, d1, d2, d3⟩ := macB_facts h
  have h1 := txB_size (B := m.b1) (zs := m.z1) (by omega) (by omega) (by omega)
  have h2 := txB_size (B := m.b2) (zs := m.z2) (by omega) (by omega) (by omega)
  have h3 := txB_size (B := m.b3) (zs := m.z3) (by omega) (by omega) (by omega)
  have h4 : (⟨(Lib.itoa m.p).toArray⟩ : ByteArray).size ≤ 21 := by
    show (Lib.itoa m.p).toArray.size ≤ 21
    rw [List.size_toArray]
    exact Lib.itoa_length_le m.p (by omega) (by omega)
  have h5 : (⟨#[32]⟩ : ByteArray).size = 1 := rfl
  rw [mtV, if_pos h, mtT]
  simp only [ByteArray.size_append]
  omega
theorem snV_some {k : Int} (h1 : 1 ≤ k) (h4 : k ≤ 4) : (snV k).toList.isEmpty = false := by
  rcases (show k = 1 ∨ k = 2 ∨ k = 3 ∨ k = 4 by omega) with h | h | h | h <;> subst h <;> rw [Lib.toList_data] <;> rfl
end Go.Proofs.YtlahobdopmdfmaaGreatDoor

/- MadS -/
namespace Go.Proofs.YtlahobdopmdfmaaGreatDoor
open Go.RowKit

theorem Mq.mono {w X : World} {s r N N' p : Nat} {m : Mac} {A1 : Option Addr} {C1 : Nat} {A2 : Option Addr} {C2 : Nat} {A3 : Option Addr} {C3 : Nat} (h : Mq w s r N p m X A1 C1 A2 C2 A3 C3) (hN : N ≤ N') : Mq w s r N' p m X A1 C1 A2 C2 A3 C3 := ⟨h.wm, h.br, h.src.mono hN, h.t, h.dr, h.rw_, h.sr⟩
/-- What is drawn, at the cut. -/
def MqE (w : World) (s r N p : Nat) (X : World) : Prop := ∃ (m : Mac) (A1 : Option Addr) (C1 : Nat) (A2 : Option Addr) (C2 : Nat) (A3 : Option Addr) (C3 : Nat), Mq w s r N p m X A1 C1 A2 C2 A3 C3

set_option maxRecDepth 100000 in
set_option maxHeartbeats 8000000 in
theorem l10Draw_any (s N : Nat) (w : World) (h : Src w s N) (hN : N ≤ 600000) :
    Calls Tryz.prog 20 #[.pointer (some ⟨s, 0, none⟩)] w fun e w' => ∃ (m : Mac) (A1 : Option Addr) (C1 : Nat) (A2 : Option Addr) (C2 : Nat) (A3 : Option Addr) (C3 : Nat), e = .returned (.agg #[.int .i64 m.b1, .slice A1 m.z1.length C1, .int .i64 m.b2, .slice A2 m.z2.length C2, .int .i64 m.b3, .slice A3 m.z3.length C3, .int .i64 m.p]) ∧ DrawnM m ∧
      Own3 2 w' w.heap.size w'.heap.size (.slice A1 m.z1.length C1) m.z1 (.slice A2 m.z2.length C2) m.z2 (.slice A3 m.z3.length C3) m.z3 ∧ Touch s (s + 1) w w' ∧ Src w' s (N + 100) := by
  have hs := h.lt
  obtain ⟨r, hr⟩ : ∃ r, r = w.heap.size := ⟨_, rfl⟩
  obtain ⟨u, hu⟩ : ∃ u, u = w.alloc (.cells #[.int .i64 0, .slice none 0 0, .int .i64 0, .slice none 0 0, .int .i64 0, .slice none 0 0, .int .i64 0] 28) := ⟨_, rfl⟩
  have br : Bx u r 28 #[.int .i64 0, .slice none 0 0, .int .i64 0, .slice none 0 0, .int .i64 0, .slice none 0 0, .int .i64 0] := by rw [hu, hr]; exact Bx.new _ _ _
  have hbu : Below w.heap.size w u := by rw [hu]; exact (by repeat (first | exact Below.refl _ _ | refine Below.setCell ?_ (by first | omega | (simp <;> omega)) _ | refine Below.alloc ?_ (by first | omega | (simp <;> omega)) _ | refine Below.drew ?_))
  have hsu : u.heap.size = r + 1 := by rw [hu, hr]; simp
  have su : Src u s N := h.lo hbu hs
  have tu : Touch s (s + 1) w u := Below.touch hbu
  have HU := Lib.hid hu
  have HR := Lib.hid hr
  clear hu h hbu
  have hsr : s < r := by omega
  go_enter Tryz.func20, Tryz.ntmps20
  go_wp2_with fail
  rw [← HU.out, ← hr]
  clear hr
  have hal : Below u.heap.size u (u.alloc (.cells ([10, 10, 10, 2, 3, 8, 12].map (Value.int .i64)).toArray 2)) := (Below.refl _ _).alloc (Nat.le_refl _) _
  have hrd := rd_new u [10, 10, 10, 2, 3, 8, 12] (by simp)
  rw [hsu] at hrd
  refine (among_any s _ (r + 1) 7 [10, 10, 10, 2, 3, 8, 12] _ (su.lo (L := u.heap.size) hal (by omega)) (by omega) hrd (by omega) (by simp) (by simp)).mono ?_
  rintro e w1 ⟨b, rfl, hb, s1, ht1⟩
  have hb0 : 2 ≤ b ∧ b ≤ 12 := by simp at hb; omega
  have t1 := (tu.trans (Below.touch hal)).trans ht1
  replace br := (br.below hal).touch ht1 (by omega)
  have hl1 := ht1.size
  clear hal hrd hb ht1 su tu
  go_wp2_with fail
  refine (pick_any s _ 4 w1 s1 (by omega) (by omega)).mono ?_
  rintro e w2 ⟨x, rfl, x0, x1, s2, ht⟩
  obtain ⟨n1, e1⟩ := Int.eq_ofNat_of_zero_le (show 0 ≤ 1 + x by omega)
  have v1 : IntKind.i64.wrap (1 + x) = (n1 : Int) := (fits_int _ (by omega) (by omega)).trans e1
  have hn1 : 1 ≤ n1 ∧ n1 ≤ 4 := by omega
  have t2 := t1.trans ht
  replace br := br.touch ht (by omega)
  clear ht s1 t1 hl1 x0 x1 e1
  go_wp2_with fail
  refine (pick_any s _ 5 w2 s2 (by omega) (by omega)).mono ?_
  rintro e w3 ⟨y, rfl, y0, y1, s3, ht⟩
  obtain ⟨n2, e2⟩ := Int.eq_ofNat_of_zero_le (show 0 ≤ (n1 : Int) + y by omega)
  have v2 : IntKind.i64.wrap ((n1 : Int) + y) = (n2 : Int) := (fits_int _ (by omega) (by omega)).trans e2
  have hn2 : n1 ≤ n2 ∧ n2 ≤ 8 := by omega
  have t3 := t2.trans ht
  replace br := br.touch ht (by omega)
  clear ht s2 t2 y0 y1 e2 v1
  go_wp2_with fail
  refine (pick_any s _ 5 w3 s3 (by omega) (by omega)).mono ?_
  rintro e w4 ⟨z, rfl, z0, z1, s4, ht⟩
  obtain ⟨n3, e3⟩ := Int.eq_ofNat_of_zero_le (show 0 ≤ 1 + z by omega)
  have v3 : IntKind.i64.wrap (1 + z) = (n3 : Int) := (fits_int _ (by omega) (by omega)).trans e3
  have hn3 : 1 ≤ n3 ∧ n3 ≤ 5 := by omega
  have t4 := t3.trans ht
  replace br := br.touch ht (by omega)
  clear ht s3 t3 z0 z1 e3 v2
  go_wp2_with fail
  refine (l10New_any b n1 n2 n3 w4 (by omega) (by omega) (by omega) (by omega) (by omega)).mono ?_
  clear v3
  rintro e w5 ⟨A1, C1, A2, C2, A3, C3, rfl, ow, hb⟩
  have hD : DrawnM ⟨b, digsR b n1 0, b, digsR b n2 0, b, digsR b n3 0, 0⟩ := by
    refine drawn_mk hb0.1 hb0.2 ?_ ?_ ?_ ?_ ?_ ?_ (digsR_bd (by omega) _ _) (digsR_bd (by omega) _ _) (digsR_bd (by omega) _ _) (by omega) ?_ ?_ <;> simp only [digsR_len] <;> omega
  have hZ : (digsR b n1 0).length = n1 ∧ (digsR b n2 0).length = n2 := ⟨digsR_len _ _ _, digsR_len _ _ _⟩
  obtain ⟨m, hm⟩ : ∃ m : Mac, m = ⟨b, digsR b n1 0, b, digsR b n2 0, b, digsR b n3 0, 0⟩ := ⟨_, rfl⟩
  rw [← hm] at hD ow
  have hmb : m.b1 = b ∧ m.z1.length = n1 ∧ m.z2.length = n2 := by rw [hm]; exact ⟨rfl, hZ⟩
  have HMC := Lib.hid hm
  clear hm hZ
  go_upto_region 5 with fail
  obtain ⟨p, hp⟩ : ∃ p, p = w5.heap.size := ⟨_, rfl⟩
  obtain ⟨V, hV⟩ : ∃ V, V = w5.alloc (.cells #[.int .i64 b, .slice A1 (digsR b n1 0).length C1, .int .i64 b, .slice A2 (digsR b n2 0).length C2, .int .i64 b, .slice A3 (digsR b n3 0).length C3, .int .i64 0] 28) := ⟨_, rfl⟩
  try rw [← hp, ← hV]
  have hQ : Mq w s r (N + 2 + 2 + 2 + 2) p m V A1 C1 A2 C2 A3 C3 := by
    have hbV : Below w5.heap.size w5 V := by rw [hV]; exact (Below.refl _ _).alloc (Nat.le_refl _) _
    have hbp : Bx V p 28 #[.int .i64 m.b1, .slice A1 m.z1.length C1, .int .i64 m.b2, .slice A2 m.z2.length C2, .int .i64 m.b3, .slice A3 m.z3.length C3, .int .i64 m.p] := by rw [HMC.out, hV, hp]; exact Bx.new _ _ _
    obtain ⟨l1, h1, l2, h2, l3, h3, o1, o2, o3, q⟩ := ow
    have hrl := br.lt
    have hl5 := hb.size
    have hlV := hbV.size
    have hr2 := HR.out
    refine ⟨⟨hbp, by omega, l1, h1, l2, h2, l3, h3, o1.below hbV, o2.below hbV, o3.below hbV, by omega⟩, (br.below hb).below hbV, (s4.lo hb (by omega)).lo hbV (by omega), touch_lo (touch_lo t4 hb (by omega)) hbV (by omega), hD, hr2, hsr⟩
  clear hV hp ow hb HMC t4 s4 br hD hsu HU
  go_wp2_with fail
  refine (drawDigits_any s _ b n1 V hQ.src (by omega) hb0.1 (by omega) (by omega)).mono ?_
  rintro e w6 ⟨ds, A, C, rfl, hl, hd, ow, ht, hs6⟩
  have hP := (hQ.put ht hs6 ow hl.symm (by rw [hmb.1]; exact hd)).1 (by rw [hl, hmb.2.1])
  have g6 := (hQ.pick ht hs6).wm.bx
  have c1 := g6.at_ 1 rfl
  have f1 := g6.thaw 1
  have hk1 : (⟨m.b1, ds, m.b2, m.z2, m.b3, m.z3, m.p⟩ : Mac).b1 = b ∧ (⟨m.b1, ds, m.b2, m.z2, m.b3, m.z3, m.p⟩ : Mac).z2.length = n2 := ⟨hmb.1, hmb.2.2⟩
  generalize (⟨m.b1, ds, m.b2, m.z2, m.b3, m.z3, m.p⟩ : Mac) = m2 at hP hk1
  clear ow ht hs6 hQ hmb hl hd g6
  go_upto_region 6 with fail
  obtain ⟨V2, hV⟩ : ∃ V2, V2 = w6.setCell ⟨p, 1, none⟩ (.slice A n1 C) := ⟨_, rfl⟩
  rw [← hV] at hP
  try rw [← hV]
  clear hV c1 f1
  go_wp2_with fail
  refine (one_any s _ 2 V2 hP.src (by omega) (by omega)).mono ?_
  rintro e w7 ⟨x, rfl, s7, ht⟩
  replace hP := hP.pick ht s7
  clear ht s7
  go_upto_if 32 with fail
  go_cut [6] from 39 (fun s6 wx => s6 = .pointer (some ⟨p, 0, none⟩) ∧ MqE w s r (N + 80) p wx)
  case first =>
    cases x with
    | false =>
      go_wp2_with fail
      go_meet
      case rel => exact ⟨rfl, _, _, _, _, _, _, _, hP.mono (by omega)⟩
    | true =>
      go_wp2_with fail
      refine (drawDigits_any s _ b n2 w7 hP.src (by omega) hb0.1 (by omega) (by omega)).mono ?_
      rintro e w8 ⟨ds, A', C', rfl, hl, hd, ow, ht, hs8⟩
      have hP2 := (hP.put ht hs8 ow hl.symm (by rw [hk1.1]; exact hd)).2 (by rw [hl, hk1.2])
      have g8 := (hP.pick ht hs8).wm.bx
      have c1 := g8.at_ 3 rfl
      have f1 := g8.thaw 3
      clear ow ht hs8 hP hl hd g8 hk1
      have hR := Lib.hid (hP2.mono (N' := N + 80) (by omega))
      clear hP2
      go_wp2_with fail
      go_meet
      case rel => exact ⟨rfl, _, _, _, _, _, _, _, hR.out⟩
  case rest =>
    clear hP hk1
    obtain ⟨rfl, m, A1, C1, A2, C2, A3, C3, hQ⟩ := hcut
    obtain ⟨w8, rfl⟩ : ∃ v, v = wc := ⟨_, rfl⟩
    have hpl := drawn_plcs hQ.dr
    have R := Tryz.results20
    go_wp2_with fail
    refine (l10Places_any p m A1 C1 A2 C2 A3 C3 w8 hQ.wm.bx ⟨by have := hQ.dr.n1; omega, by have := hQ.dr.n2; omega, by have := hQ.dr.n3; omega⟩).mono ?_
    rintro e w9 ⟨rfl, hb⟩
    replace hQ := hQ.low hb
    clear hb
    go_wp2_with fail
    refine (pick_any s _ (plcs m) w9 hQ.src (by omega) (by omega)).mono ?_
    rintro e w10 ⟨k, rfl, k0, k1, s10, ht⟩
    replace hQ := hQ.pick ht s10
    have c1 := hQ.wm.bx.at_ 6 rfl
    have f1 := hQ.wm.bx.thaw 6
    have hP := hQ.move k0 (by omega)
    clear ht s10 hQ hpl k0 k1
    generalize (⟨m.b1, m.z1, m.b2, m.z2, m.b3, m.z3, k⟩ : Mac) = m3 at hP
    go_upto_region 9 with fail
    obtain ⟨V3, hV⟩ : ∃ V, V = w10.setCell ⟨p, 6, none⟩ (.int .i64 k) := ⟨_, rfl⟩
    rw [← hV] at hP
    try rw [← hV]
    clear hV c1 f1
    go_wp2_with fail
    refine (pick_any s _ 5 V3 hP.src (by omega) (by omega)).mono ?_
    rintro e w11 ⟨k2, rfl, k0, k1, s11, ht⟩
    replace hP := hP.pick ht s11
    obtain ⟨j0, rfl⟩ := Int.eq_ofNat_of_zero_le k0
    have hj0 : j0 ≤ 4 := by omega
    clear ht s11 k0 k1
    go_upto_region 10 with fail
    go_loopw [7] (fun k wr => ∃ j : Nat, j ≤ 4 ∧ k = .int .i64 (j : Int) ∧ MqE w s r (N + 100 - 2 * j) p wr) (fun k _ => (intOf k).toNat)
    case atStart => exact ⟨j0, hj0, rfl, _, _, _, _, _, _, _, hP.mono (by omega)⟩
    case round =>
      clear hP
      obtain ⟨j, hj, rfl, m, A1, C1, A2, C2, A3, C3, hQ⟩ := hrel
      by_cases hlt : 0 < j
      · have hlt' : (0 : Int) < (j : Int) := by omega
        go_wp2_with fail
        refine (pick_any s _ 4 wr hQ.src (by omega) (by omega)).mono ?_
        rintro e w12 ⟨y, rfl, y0, y1, s12, ht⟩
        have v1 : IntKind.i64.wrap (1 + y) = 1 + y := fits_int _ (by omega) (by omega)
        replace hQ := hQ.pick ht s12
        clear ht s12
        go_wp2_with fail
        refine (l10Do_any (r + 1) p m A1 C1 A2 C2 A3 C3 (1 + y) w12 hQ.wm hQ.dr.ok (by omega) (by omega)).mono ?_
        rintro e w13 ⟨rfl, hW, hb⟩
        obtain ⟨B1, D1, B2, D2, B3, D3, hX⟩ := hQ.do_ hW hb (hQ.dr.do_ _)
        have HX := Lib.hid (hX.mono (N' := N + 100 - 2 * (j - 1)) (by omega))
        clear hQ hX hW hb v1 y0 y1
        go_wp2_with fail
        go_roundw
        case rel => exact ⟨j - 1, by omega, by go_num, _, _, _, _, _, _, _, HX.out⟩
        case measure => (simp [intOf]) <;> omega
      · obtain rfl : j = 0 := by omega
        have hsz : r = w.heap.size := HR.out
        have br := hQ.br
        have c0 := hQ.wm.bx.at_ 0 rfl
        have c1 := hQ.wm.bx.at_ 1 rfl
        have c2 := hQ.wm.bx.at_ 2 rfl
        have c3 := hQ.wm.bx.at_ 3 rfl
        have c4 := hQ.wm.bx.at_ 4 rfl
        have c5 := hQ.wm.bx.at_ 5 rfl
        have c6 := hQ.wm.bx.at_ 6 rfl
        have HO := Lib.hid hQ.wm.own
        have HT := Lib.hid hQ.t
        have HS := Lib.hid hQ.src
        have HD := Lib.hid hQ.dr
        have HZ := Lib.hid hsz
        clear hQ hsz
        have j0 := br.at_ 0 rfl
        have j1 := br.at_ 1 rfl
        have j2 := br.at_ 2 rfl
        have j3 := br.at_ 3 rfl
        have j4 := br.at_ 4 rfl
        have j5 := br.at_ 5 rfl
        have j6 := br.at_ 6 rfl
        have f0 := br.thaw 0
        have f1 := br.thaw 1
        have f2 := br.thaw 2
        have f3 := br.thaw 3
        have f4 := br.thaw 4
        have f5 := br.thaw 5
        have f6 := br.thaw 6
        have hl := br.lt
        have bz : Bx (((((((wr.setCell ⟨r, 0, none⟩ (.int .i64 m.b1)).setCell ⟨r, 1, none⟩ (.slice A1 m.z1.length C1)).setCell ⟨r, 2, none⟩ (.int .i64 m.b2)).setCell ⟨r, 3, none⟩ (.slice A2 m.z2.length C2)).setCell ⟨r, 4, none⟩ (.int .i64 m.b3)).setCell ⟨r, 5, none⟩ (.slice A3 m.z3.length C3)).setCell ⟨r, 6, none⟩ (.int .i64 m.p)) (r) 28 #[.int .i64 m.b1, .slice A1 m.z1.length C1, .int .i64 m.b2, .slice A2 m.z2.length C2, .int .i64 m.b3, .slice A3 m.z3.length C3, .int .i64 m.p] := bx_put7 br
        have r0 := bz.at_ 0 rfl
        have r1 := bz.at_ 1 rfl
        have r2 := bz.at_ 2 rfl
        have r3 := bz.at_ 3 rfl
        have r4 := bz.at_ 4 rfl
        have r5 := bz.at_ 5 rfl
        have r6 := bz.at_ 6 rfl
        clear bz
        go_wp2
        exact bodyPost_ret (v := .agg #[.int .i64 m.b1, .slice A1 m.z1.length C1, .int .i64 m.b2, .slice A2 m.z2.length C2, .int .i64 m.b3, .slice A3 m.z3.length C3, .int .i64 m.p]) (by simp [results, go_sem, r0, r1, r2, r3, r4, r5, r6]) rfl
          ⟨m, A1, C1, A2, C2, A3, C3, rfl, HD.out, (show Own3 2 _ (r + 1) wr.heap.size (.slice A1 m.z1.length C1) m.z1 (.slice A2 m.z2.length C2) m.z2 (.slice A3 m.z3.length C3) m.z3 from (((((((HO.out.setCell (p := ⟨r, 0, none⟩) (.inl (Nat.lt_succ_self _)) _).setCell (p := ⟨r, 1, none⟩) (.inl (Nat.lt_succ_self _)) _).setCell (p := ⟨r, 2, none⟩) (.inl (Nat.lt_succ_self _)) _).setCell (p := ⟨r, 3, none⟩) (.inl (Nat.lt_succ_self _)) _).setCell (p := ⟨r, 4, none⟩) (.inl (Nat.lt_succ_self _)) _).setCell (p := ⟨r, 5, none⟩) (.inl (Nat.lt_succ_self _)) _).setCell (p := ⟨r, 6, none⟩) (.inl (Nat.lt_succ_self _)) _)).wide (by have := HZ.out; omega) (by simp), touch_lo HT.out (L := r) (by repeat (first | with_reducible exact ((Below.refl _ _).mono (Nat.le_of_lt hl)) | with_reducible refine Below.setCell ?_ (by first | omega | (simp <;> omega)) _ | with_reducible refine Below.alloc ?_ (by first | omega | (simp <;> omega)) _ | with_reducible refine Below.drew ?_)) (by have := HZ.out; omega), (HS.out.lo (L := r) (by repeat (first | with_reducible exact ((Below.refl _ _).mono (Nat.le_of_lt hl)) | with_reducible refine Below.setCell ?_ (by first | omega | (simp <;> omega)) _ | with_reducible refine Below.alloc ?_ (by first | omega | (simp <;> omega)) _ | with_reducible refine Below.drew ?_)) hsr).mono (by omega)⟩

set_option maxRecDepth 100000 in
set_option maxHeartbeats 8000000 in
theorem a2Machine_any (a : Option Addr) (zs : List Int) (c : Nat) (w : World) (h : RdU w a zs) :
    Calls Tryz.prog 6 #[.slice a zs.length c] w fun e w' => ∃ (m : Mac) (A1 : Option Addr) (C1 : Nat) (A2 : Option Addr) (C2 : Nat) (A3 : Option Addr) (C3 : Nat), e = .returned (.agg #[.int .i64 m.b1, .slice A1 m.z1.length C1, .int .i64 m.b2, .slice A2 m.z2.length C2, .int .i64 m.b3, .slice A3 m.z3.length C3, .int .i64 m.p]) ∧ DrawnM m ∧
      Own3 2 w' w.heap.size w'.heap.size (.slice A1 m.z1.length C1) m.z1 (.slice A2 m.z2.length C2) m.z2 (.slice A3 m.z3.length C3) m.z3 ∧ Below w.heap.size w w' := by
  have R := Tryz.results6
  obtain ⟨r, hr⟩ : ∃ r, r = w.heap.size := ⟨_, rfl⟩
  obtain ⟨u, hu⟩ : ∃ u, u = w.alloc (.cells #[.int .i64 0, .slice none 0 0, .int .i64 0, .slice none 0 0, .int .i64 0, .slice none 0 0, .int .i64 0] 28) := ⟨_, rfl⟩
  have br : Bx u r 28 #[.int .i64 0, .slice none 0 0, .int .i64 0, .slice none 0 0, .int .i64 0, .slice none 0 0, .int .i64 0] := by rw [hu, hr]; exact Bx.new _ _ _
  have hbel : Below w.heap.size w u := by rw [hu]; exact (by repeat (first | exact Below.refl _ _ | refine Below.setCell ?_ (by first | omega | (simp <;> omega)) _ | refine Below.alloc ?_ (by first | omega | (simp <;> omega)) _ | refine Below.drew ?_))
  have HU := Lib.hid hu
  have HR := Lib.hid hr
  clear hu
  go_enter Tryz.func6, Tryz.ntmps6
  go_wp2_with fail
  rw [← HU.out, ← hr]
  clear hr
  refine (from_any a zs c u (h.below hbel)).mono ?_
  rintro e w1 ⟨g, rfl, hg, hs, hb⟩
  have hrg : r < g := Nat.lt_of_lt_of_le br.lt hg
  replace br := br.below hb
  replace hbel := hbel.trans (hb.mono hbel.size)
  clear hb
  go_wp2_with fail
  refine (l10Draw_any g 0 w1 hs (by omega)).mono ?_
  rintro e w2 ⟨m, A1, C1, A2, C2, A3, C3, rfl, hd, ow, ht, hs2⟩
  replace br := br.touch ht (by omega)
  have hb2 := ht.below (B := w.heap.size) (by have := HR.out; omega) hbel.size
  have HO := Lib.hid (ow.wide (lo' := r + 1) (hi' := w2.heap.size) (by have := hs.lt; omega) (Nat.le_refl _))
  have HB := Lib.hid (hbel.trans hb2)
  have HD := Lib.hid hd
  have hrl := br.lt
  clear ht hs2 hs hbel hb2 ow hd hrg hg
  have j0 := br.at_ 0 rfl
  have j1 := br.at_ 1 rfl
  have j2 := br.at_ 2 rfl
  have j3 := br.at_ 3 rfl
  have j4 := br.at_ 4 rfl
  have j5 := br.at_ 5 rfl
  have j6 := br.at_ 6 rfl
  have f0 := br.thaw 0
  have f1 := br.thaw 1
  have f2 := br.thaw 2
  have f3 := br.thaw 3
  have f4 := br.thaw 4
  have f5 := br.thaw 5
  have f6 := br.thaw 6
  have hl := br.lt
  have bz : Bx (((((((w2.setCell ⟨r, 0, none⟩ (.int .i64 m.b1)).setCell ⟨r, 1, none⟩ (.slice A1 m.z1.length C1)).setCell ⟨r, 2, none⟩ (.int .i64 m.b2)).setCell ⟨r, 3, none⟩ (.slice A2 m.z2.length C2)).setCell ⟨r, 4, none⟩ (.int .i64 m.b3)).setCell ⟨r, 5, none⟩ (.slice A3 m.z3.length C3)).setCell ⟨r, 6, none⟩ (.int .i64 m.p)) (r) 28 #[.int .i64 m.b1, .slice A1 m.z1.length C1, .int .i64 m.b2, .slice A2 m.z2.length C2, .int .i64 m.b3, .slice A3 m.z3.length C3, .int .i64 m.p] := bx_put7 br
  have r0 := bz.at_ 0 rfl
  have r1 := bz.at_ 1 rfl
  have r2 := bz.at_ 2 rfl
  have r3 := bz.at_ 3 rfl
  have r4 := bz.at_ 4 rfl
  have r5 := bz.at_ 5 rfl
  have r6 := bz.at_ 6 rfl
  clear bz
  go_wp2
  exact bodyPost_ret (v := .agg #[.int .i64 m.b1, .slice A1 m.z1.length C1, .int .i64 m.b2, .slice A2 m.z2.length C2, .int .i64 m.b3, .slice A3 m.z3.length C3, .int .i64 m.p]) (by simp [results, go_sem, r0, r1, r2, r3, r4, r5, r6]) rfl
    ⟨m, A1, C1, A2, C2, A3, C3, rfl, HD.out, (show Own3 2 _ (r + 1) w2.heap.size (.slice A1 m.z1.length C1) m.z1 (.slice A2 m.z2.length C2) m.z2 (.slice A3 m.z3.length C3) m.z3 from (((((((HO.out.setCell (p := ⟨r, 0, none⟩) (.inl (Nat.lt_succ_self _)) _).setCell (p := ⟨r, 1, none⟩) (.inl (Nat.lt_succ_self _)) _).setCell (p := ⟨r, 2, none⟩) (.inl (Nat.lt_succ_self _)) _).setCell (p := ⟨r, 3, none⟩) (.inl (Nat.lt_succ_self _)) _).setCell (p := ⟨r, 4, none⟩) (.inl (Nat.lt_succ_self _)) _).setCell (p := ⟨r, 5, none⟩) (.inl (Nat.lt_succ_self _)) _).setCell (p := ⟨r, 6, none⟩) (.inl (Nat.lt_succ_self _)) _)).wide (by have := HR.out; omega) (by simp), by have := HR.out; exact (by repeat (first | with_reducible exact HB.out | with_reducible refine Below.setCell ?_ (by first | omega | (simp <;> omega)) _ | with_reducible refine Below.alloc ?_ (by first | omega | (simp <;> omega)) _ | with_reducible refine Below.drew ?_))⟩
end Go.Proofs.YtlahobdopmdfmaaGreatDoor
