/-
  Several texts in one: MacHi, Src, DrawO, AppAt, OrdC.
-/
import Derived.Test.YtlahobdopmdfmaaDoorCntQ1
import Derived.Test.YtlahobdopmdfmaaDoorCntQ2
import Derived.Laws.CopyRow
import Derived.Lib.SliceRun
import Derived.Deep.RegionHeld3
import Derived.BigQuiet
import Derived.Deep.Cut
import Derived.Laws.BitsLemmas

/- MacHi -/
/- MtuI -/
namespace Go.Proofs.YtlahobdopmdfmaaDoor
open Go.RowKit
theorem info_one64 : (Tryd.prog.info? 2).map (·.size) = some 1 := by kernel_rfl

/-- Numbers copied into a row of one's own, from place off on. -/
theorem own_splice {t : TypeId} {w : World} {lo hi g n c : Nat} {zs : List Int} (h : Own t w lo hi (.slice (some ⟨g, 0, none⟩) n c) zs) (off : Nat) (ys : List Int) (hfit : off + ys.length ≤ zs.length) :
    ∃ cur : Array Value, w.heap[g]? = some (.cells cur t (0, 0)) ∧ off + ys.length ≤ cur.size ∧
      Own t (w.setRow g (cur.toList.take off ++ ys.map (Value.int .i64) ++ cur.toList.drop (off + ys.length)).toArray) lo hi (.slice (some ⟨g, 0, none⟩) n c) (zs.take off ++ (ys ++ zs.drop (off + ys.length))) := by
  rcases h.row.2 with ⟨hv, _⟩ | ⟨g', cap, cur, hv, hg, hh, hc1, hc2, hsz, htk⟩
  · cases hv
  · injection hv with e1 e2 e3
    injection e1 with e1
    injection e1 with e1 _ _
    subst e1 e2 e3
    have htop := h.top g rfl
    have hl := h.len
    rw [Nat.mul_one] at hsz htk
    have hlt : zs.length ≤ cur.toList.length := by have : cur.toList.length = cur.size := Array.length_toList; omega
    have e4 : (zs.take off ++ (ys ++ zs.drop (off + ys.length))).length = zs.length := by rw [List.length_append, List.length_append, List.length_take, List.length_drop]; omega
    have f1 : (cur.toList.take off) = (zs.take off).map (Value.int .i64) := by
      rw [List.map_take, ← htk, List.take_take, Nat.min_eq_left (by omega)]
    have f2 : (cur.toList.drop (off + ys.length)).take (zs.length - (off + ys.length)) = (zs.drop (off + ys.length)).map (Value.int .i64) := by
      rw [List.map_drop, ← htk, List.drop_take]
    refine ⟨cur, hh, by omega, ⟨⟨by simp, .inr ⟨g, c, _, by rw [e4], hg, setRow_heap w g _ _ t _ hh, by rw [e4]; exact hc1, hc2, ?_, ?_⟩⟩, fun k hk => h.top k hk, by rw [e4]; exact hl⟩⟩
    · have : cur.toList.length = cur.size := Array.length_toList
      rw [Nat.mul_one, List.size_toArray, List.length_append, List.length_append, List.length_take, List.length_map, List.length_drop]
      omega
    · rw [e4, Nat.mul_one, List.map_append, List.map_append, f1, ← f2, List.append_assoc, List.take_append, List.take_append]
      simp only [List.length_map, List.length_take]
      have g1 : min off zs.length = off := by omega
      rw [g1, List.take_of_length_le (l := List.map (Value.int .i64) (zs.take off)) (by simp; omega), List.take_of_length_le (l := List.map (Value.int .i64) ys) (by simp; omega)]
      congr 3
      omega

theorem pad_splice (n p : Nat) (ds : List Int) (h : p + ds.length ≤ n) : (pad n []).take p ++ (ds ++ (pad n []).drop (p + ds.length)) = abvL n p ds := by
  rw [pad_nil, abvL, List.take_replicate, List.drop_replicate, Nat.min_eq_left (by omega), Nat.sub_add_eq]

set_option maxRecDepth 100000 in
set_option maxHeartbeats 2000000 in
theorem above_any (m : Mac) (A1 : Option Addr) (C1 : Nat) (A2 : Option Addr) (C2 : Nat) (A3 : Option Addr) (C3 : Nat) (B : Int) (a : Option Addr) (n c p : Nat) (d : Option Addr) (e : Nat) (ds : List Int) (w : World) (hp : m.p = (p : Int)) (hd : Rd w d ds) (hfit : p + ds.length ≤ n) (hn : n ≤ 16) (h1 : 1 ≤ ds.length) :
    Calls Tryd.prog 183 #[.agg #[.int .i64 m.b1, .slice A1 m.z1.length C1, .int .i64 m.b2, .slice A2 m.z2.length C2, .int .i64 m.b3, .slice A3 m.z3.length C3, .int .i64 m.p], .agg #[.int .i64 B, .slice a n c], .slice d ds.length e] w fun r w' => ∃ D E, r = .returned (.slice D n E) ∧
      Own 2 w' w.heap.size w'.heap.size (.slice D n E) (abvL n p ds) ∧ Below w.heap.size w w' := by
  obtain ⟨db, doff, rfl, _⟩ := hd.cells (by rintro rfl; simp at h1)
  obtain ⟨u, hu⟩ : ∃ u, u = (w.alloc (.cells #[.int .i64 m.b1, .slice A1 m.z1.length C1, .int .i64 m.b2, .slice A2 m.z2.length C2, .int .i64 m.b3, .slice A3 m.z3.length C3, .int .i64 m.p] 28)).alloc (.cells #[.int .i64 B, .slice a n c] 26) := ⟨_, rfl⟩
  have hbel : Below w.heap.size w u := by rw [hu]; exact (by repeat (first | exact Below.refl _ _ | refine Below.setCell ?_ (by first | omega | (simp <;> omega)) _ | refine Below.alloc ?_ (by first | omega | (simp <;> omega)) _ | refine Below.drew ?_))
  have bm : Bx u w.heap.size 28 #[.int .i64 m.b1, .slice A1 m.z1.length C1, .int .i64 m.b2, .slice A2 m.z2.length C2, .int .i64 m.b3, .slice A3 m.z3.length C3, .int .i64 m.p] := by rw [hu]; exact (Bx.new _ _ _).alloc _
  have hz := hbel.size
  have HU := Lib.hid hu
  have HP := Lib.hid hp
  clear hu hp
  go_enter Tryd.func183, Tryd.ntmps183
  go_wp2_with (at_make; rw [← HU.out]; refine wpList_makeI rfl (.tmp 10) (.tmp 10) 161 2 rfl Tryd.underlying161 info_int64 n rfl rfl (by omega) ?_; intro w1 hown hb; have c6 := (bm.below hb).at_ 6 rfl; obtain ⟨cur, hcur, hsz, hO⟩ := own_splice hown p ds (by rw [pad_len (by simp)]; exact hfit); rw [pad_splice n p ds hfit] at hO; have hrun := run_copy_row (P := Tryd.prog) w1 161 161 3 2 u.heap.size p (n - p) (n - p) ⟨db, doff, none⟩ ds.length e cur 2 (ds.map (Value.int .i64)) Tryd.underlying161 info_one64 hcur (by rw [List.length_map]; exact (Nat.min_eq_left (by omega)).symm) (rd_news ((hd.below hbel).below hb)) (by simpa using hsz) (by intro v hv; obtain ⟨x, _, rfl⟩ := List.mem_map.1 hv; rfl); rw [List.length_map] at hrun; obtain ⟨w2, hw2⟩ : ∃ v, v = w1.setRow u.heap.size (cur.toList.take p ++ ds.map (Value.int .i64) ++ cur.toList.drop (p + ds.length)).toArray := ⟨_, rfl⟩; rw [← hw2] at hrun hO; replace hrun : (Builtin.copy_ #[161, 161] 3 #[.slice (some ⟨u.heap.size, p, none⟩) (n - p) (n - p), .slice (some ⟨db, doff, none⟩) ds.length e]).run Tryd.prog w1 = .ok (.int .i64 (ds.length : Int)) w2 := hrun; have HO := Lib.hid hO; have HB : Hid (Below u.heap.size w1 w2 ∧ w2.heap.size = w1.heap.size) := Lib.hid (by rw [hw2]; exact ⟨⟨rfl, rfl, rfl, by simp [World.setRow], fun k hk => setRow_other w1 _ k _ (by omega)⟩, by simp [World.setRow]⟩); clear hw2 hO hcur hsz hown; rw [HP.out] at c6)
  go_ret
  have hB := HB.out
  refine ⟨some ⟨u.heap.size, 0, none⟩, n, rfl, HO.out.wide (by omega) (by omega), ?_⟩
  exact hbel.trans ((hb.trans hB.1).mono hbel.size)

/-- A row of its own and a bool. -/
def RowB (zs : List Int) (t : Bool) (n : Nat) (w : World) (e : Ending) (w' : World) : Prop := ∃ A C,
  e = .returned (.tuple #[.slice A n C, .bool t]) ∧ Own 2 w' w.heap.size w'.heap.size (.slice A n C) zs ∧ Below w.heap.size w w'

set_option maxRecDepth 100000 in
set_option maxHeartbeats 2000000 in
theorem turnOn_any (B : Int) (a b : Option Addr) (c d : Nat) (xs ys : List Int) (w : World) (ha : Rd w a xs) (hb : Rd w b ys) (hB1 : 2 ≤ B) (hB2 : B ≤ 16) (hlen : xs.length ≤ 16) (hl : ys.length = xs.length) (hx : DigsM B xs) (hy : DigsM B ys) :
    Calls Tryd.prog 154 #[.slice a xs.length c, .slice b xs.length d, .int .i64 B] w (RowB (movZ B xs (valR B ys)) (movO B xs (valR B ys)) xs.length w) := by
  have R := Tryd.results154
  have HS := Lib.hid (sum_mov hB1 hx hy hl)
  have HP := Lib.hid (plus_any B a b c d xs ys w ha hb hB1 hB2 hlen hl.symm (fun k hk => digsM_nth hx hk) (fun k hk => digsM_nth hy (by omega)))
  rw [hl] at HP
  clear ha hb hx hy
  go_enter Tryd.func154, Tryd.ntmps154
  go_wp2_with fail
  refine HP.out.mono ?_
  rintro e w1 ⟨A1, C1, A2, C2, rfl, o1, o2, hbel⟩
  obtain ⟨p, rfl, _, _⟩ : ∃ p, A2 = some ⟨p, 0, none⟩ ∧ True ∧ True := by
    rcases o2.row.2 with ⟨hv, h0⟩ | ⟨g, cap, cur, hv, _⟩
    · rw [tab_len] at h0; omega
    · injection hv with hA; exact ⟨g, hA, trivial, trivial⟩
  have hget := o2.get (j := xs.length) (by rw [tab_len]; omega)
  rw [tab_nth (by omega)] at hget
  obtain ⟨v, hv⟩ : ∃ v, v = cK B xs ys xs.length := ⟨_, rfl⟩
  rw [← hv] at hget HS
  have hsl : (xs.length : Int) < (xs.length : Int) + 1 := by omega
  clear hv o2
  go_wp2_with fail
  go_quiet (fail)
  go_wp2
  exact bodyPost_ret (v := .tuple #[.slice A1 xs.length C1, .bool (decide (0 < v))]) (by simp [results, go_sem]) rfl ⟨A1, C1, by rw [HS.out.2], (HS.out.1 ▸ o1).drewN _ |>.wide (Nat.le_refl _) (by simp), bel_drewN hbel _⟩

set_option maxRecDepth 100000 in
set_option maxHeartbeats 2000000 in
theorem turnBack_any (B : Int) (a b : Option Addr) (c d : Nat) (xs ys : List Int) (w : World) (ha : Rd w a xs) (hb : Rd w b ys) (hB1 : 2 ≤ B) (hB2 : B ≤ 16) (hlen : xs.length ≤ 16) (hl : ys.length = xs.length) (hx : DigsM B xs) (hy : DigsM B ys) :
    Calls Tryd.prog 155 #[.slice a xs.length c, .slice b xs.length d, .int .i64 B] w (RowB (movZ B xs (-valR B ys)) (movO B xs (-valR B ys)) xs.length w) := by
  have R := Tryd.results155
  have HS := Lib.hid (sub_mov hB1 hx hy hl)
  have HP := Lib.hid (minus_any B a b c d xs ys w ha hb hB1 hB2 hlen hl.symm (fun k hk => digsM_nth hx hk) (fun k hk => digsM_nth hy (by omega)))
  rw [hl] at HP
  obtain ⟨v, hv⟩ : ∃ v, v = bK B xs ys xs.length := ⟨_, rfl⟩
  rw [← hv] at HP HS
  clear ha hb hx hy hv
  go_enter Tryd.func155, Tryd.ntmps155
  go_wp2_with fail
  refine HP.out.mono ?_
  rintro e w1 ⟨A1, C1, rfl, o1, hbel⟩
  go_wp2
  exact bodyPost_ret (v := .tuple #[.slice A1 xs.length C1, .bool (decide (0 < v))]) (by simp [results, go_sem]) rfl ⟨A1, C1, by rw [HS.out.2], HS.out.1 ▸ o1, hbel⟩
end Go.Proofs.YtlahobdopmdfmaaDoor

/- OrdP -/
namespace Go.Proofs.YtlahobdopmdfmaaDoor
open Go

section
variable {P : Program} {ops : Array Oper} {Q : Exit → Act → World → Prop} {md : Region.Mode} {S : World → Prop} {m : Nat}

theorem wpAnyM_pureFirst {i : Nat} {oi : Oper} {v : Value} (hi : ops[i]? = some oi) (hsel : ∀ (j : Nat) (o : Oper) cs b, ops[j]? = some o → o.op ≠ .select cs b)
    (hQ : ∀ c a w, Q (.panic c) (a.put oi.dst v) w → Q (.panic c) a w) (him : i ≠ m) :
    ∀ (fuel : Nat) (listed : Array Bool) (a : Act) (w : World),
      (∀ j oj, ops[j]? = some oj → j ≠ i → listed.getD j true = false → (∀ e ∈ oj.after, Region.binds md e = true → e.on ≠ i) → oi.apart ops oj = true) →
      i ∈ Region.ready md ops listed → YieldsIf P ops (fun _ => True) oi v a → (listed.getD m true = true ∨ S w) →
      wpAnyM P md ops Q S m fuel (listed.setIfInBounds i true) (a.put oi.dst v) w → wpAnyM P md ops Q S m (fuel + 1) listed a w := by
  intro fuel
  induction fuel with
  | zero =>
    intro listed a w _ hr hy hS H
    refine ⟨fun h => (by rw [h] at hr; cases hr), fun j hj => ?_⟩
    by_cases hji : j = i
    · subst hji; exact hy.wpOp hi trivial ⟨by rw [getD_set_ne true him]; exact hS, H⟩
    · have := ready_mono hj hji
      rw [H.1] at this
      cases this
  | succ fuel ih =>
    intro listed a w hfree hr hy hS H
    refine ⟨fun h => (by rw [h] at hr; cases hr), fun j hj => ?_⟩
    by_cases hji : j = i
    · subst hji; exact hy.wpOp hi trivial ⟨by rw [getD_set_ne true him]; exact hS, H⟩
    · have h1 := H.2 j (ready_mono hj hji)
      obtain ⟨hjun, oj, hoj, hall⟩ := mem_ready.1 hj
      have iun : listed.getD i false = false := by
        have h0 := (mem_ready.1 hr).1
        rcases Nat.lt_or_ge i listed.size with h' | h'
        · simp [h'] at h0 ⊢; exact h0
        · simp [Array.getElem?_eq_none h'] at h0
      have hnot : ∀ e ∈ oj.after, Region.binds md e = true → e.on ≠ i := fun e he hb heq => by
        have h1 := hall e he hb
        rw [heq, iun] at h1
        cases h1
      have h2 := wpOp_putIf hoj (hfree j oj hoj hji hjun hnot) (fun cs b => hsel i oi cs b hi) (fun cs b => hsel j oj cs b hoj) hQ hy h1
      have hfree' : ∀ k ok, ops[k]? = some ok → k ≠ i → (listed.setIfInBounds j true).getD k true = false →
          (∀ e ∈ ok.after, Region.binds md e = true → e.on ≠ i) → oi.apart ops ok = true := fun k ok hk hki hun hno => by
        refine hfree k ok hk hki ?_ hno
        by_cases hjk : j = k
        · subst hjk; exact hjun
        · rw [getD_set_ne true hjk] at hun; exact hun
      refine wpOp_mono (fun a' w' h3 => ?_) h2
      obtain ⟨h4, h5, h6⟩ := h3
      have hS' : (listed.setIfInBounds j true).getD m true = true ∨ S w' := by
        rcases h5 with h5 | h5
        · rw [Array.setIfInBounds_comm _ _ (Ne.symm hji), getD_set_ne true him] at h5; exact .inl h5
        · exact .inr h5
      refine ⟨hS', ih (listed.setIfInBounds j true) a' w' hfree' (ready_mono hr (Ne.symm hji)) h4 hS' ?_⟩
      rw [Array.setIfInBounds_comm _ _ hji]
      exact h6

/-- Number i, whose value hangs on no world, is taken first. -/
theorem wpAnyM_pure {i : Nat} {oi : Oper} {v : Value} {fuel : Nat} {listed : Array Bool} {a : Act} {w : World} (hi : ops[i]? = some oi)
    (hs : Region.noSelect ops = true) (hf : Region.free md ops listed i = true) (hr : (Region.ready md ops listed).contains i = true) (him : (i == m) = false)
    (hQ : ∀ c a w, Q (.panic c) (a.put oi.dst v) w → Q (.panic c) a w) (hS : listed.getD m true = true ∨ S w) (hy : YieldsIf P ops (fun _ => True) oi v a)
    (h : wpAnyM P md ops Q S m fuel (listed.setIfInBounds i true) (a.put oi.dst v) w) : wpAnyM P md ops Q S m (fuel + 1) listed a w :=
  wpAnyM_pureFirst hi (Region.noSelect_spec hs) hQ (by simpa using him) fuel listed a w (Region.free_spec hi hf) (by simpa using hr) hy hS h
end
end Go.Proofs.YtlahobdopmdfmaaDoor

/- McrI -/
namespace Go.Proofs.YtlahobdopmdfmaaDoor
open Go.RowKit

/-- A machine at work in the box p: its rows lie at L or behind it, apart from each other and from the box. -/
structure Wk (w : World) (L p : Nat) (m : Mac) (t : Bool) (A1 : Option Addr) (C1 : Nat) (A2 : Option Addr) (C2 : Nat) (A3 : Option Addr) (C3 : Nat) : Prop where
  bx : Bx w p 103 #[.int .i64 m.b1, .slice A1 m.z1.length C1, .int .i64 m.b2, .slice A2 m.z2.length C2, .int .i64 m.b3, .slice A3 m.z3.length C3, .int .i64 m.p, .bool t]
  lp : L ≤ p
  ex : ∃ l1 h1 l2 h2 l3 h3 : Nat, Own 2 w l1 h1 (.slice A1 m.z1.length C1) m.z1 ∧ Own 2 w l2 h2 (.slice A2 m.z2.length C2) m.z2 ∧ Own 2 w l3 h3 (.slice A3 m.z3.length C3) m.z3 ∧
    L ≤ l1 ∧ L ≤ l2 ∧ L ≤ l3 ∧ h1 ≤ w.heap.size ∧ h2 ≤ w.heap.size ∧ h3 ≤ w.heap.size ∧ (h1 ≤ l2 ∨ h2 ≤ l1) ∧ (h1 ≤ l3 ∨ h3 ≤ l1) ∧ (h2 ≤ l3 ∨ h3 ≤ l2) ∧ (p < l1 ∨ h1 ≤ p) ∧ (p < l2 ∨ h2 ≤ p) ∧ (p < l3 ∨ h3 ≤ p)
/-- The same, wherever its rows lie. -/
def WkE (w : World) (L p : Nat) (R : Mac × Bool) : Prop := ∃ (A1 : Option Addr) (C1 : Nat) (A2 : Option Addr) (C2 : Nat) (A3 : Option Addr) (C3 : Nat), Wk w L p R.1 R.2 A1 C1 A2 C2 A3 C3

/-- A turn, by what stands above the wheels. -/
theorem trn_abv (m : Mac) (s : Int) (P : Nat) (hP : m.p = (P : Int)) (e2 : m.b2 = m.b1) (e3 : m.b3 = m.b1) :
    trnM m s = (⟨m.b1, m.z1, m.b2, movZ m.b1 m.z2 (s * valR m.b1 (abvL m.z2.length P m.z1)), m.b3, movZ m.b1 m.z3 (s * valR m.b1 (abvL m.z3.length P [1])), m.p⟩, movO m.b1 m.z2 (s * valR m.b1 (abvL m.z2.length P m.z1))) := by
  rw [abvL_val, abvL_val, trnM, unitM, hP, Int.toNat_natCast, e2, e3]
  simp [valR]

set_option maxRecDepth 100000 in
set_option maxHeartbeats 8000000 in
theorem crank_turnOn (L p : Nat) (m : Mac) (t : Bool) (A1 : Option Addr) (C1 : Nat) (A2 : Option Addr) (C2 : Nat) (A3 : Option Addr) (C3 : Nat) (w : World) (hk : Wk w L p m t A1 C1 A2 C2 A3 C3) (hm : macB m = true) :
    Calls Tryd.prog 153 #[.pointer (some ⟨p, 0, none⟩), .func (.func 154) #[] #[]] w fun e w' => e = .returned (.tuple #[]) ∧ WkE w' L p (trnM m 1) ∧ Below L w w' := by
  obtain ⟨e2, e3, b0, b1, n0, n12, n2, n3, n4, p0, p1, p2, d1, d2, d3⟩ := macB_facts hm
  obtain ⟨P, hP⟩ := Int.eq_ofNat_of_zero_le p0
  obtain ⟨l1, h1, l2, h2, l3, h3, o1, o2, o3, s⟩ := hk.ex
  have bx := hk.bx
  have hlp := hk.lp
  have hpl := bx.lt
  have HT := Lib.hid (trn_abv m 1 P hP e2 e3)
  obtain ⟨X2, hX2⟩ : ∃ X, X = movZ m.b1 m.z2 (valR m.b1 (abvL m.z2.length P m.z1)) := ⟨_, rfl⟩
  obtain ⟨t2, ht2⟩ : ∃ X, X = movO m.b1 m.z2 (valR m.b1 (abvL m.z2.length P m.z1)) := ⟨_, rfl⟩
  obtain ⟨X3, hX3⟩ : ∃ X, X = movZ m.b1 m.z3 (valR m.b1 (abvL m.z3.length P [1])) := ⟨_, rfl⟩
  obtain ⟨t3, ht3⟩ : ∃ X, X = movO m.b1 m.z3 (valR m.b1 (abvL m.z3.length P [1])) := ⟨_, rfl⟩
  replace HT : Hid (trnM m 1 = (⟨m.b1, m.z1, m.b2, X2, m.b3, X3, m.p⟩, t2)) := Lib.hid (by rw [HT.out, hX2, ht2, hX3]; simp only [Int.one_mul])
  have HX2 := Lib.hid (show X2.length = m.z2.length by rw [hX2]; exact movZ_len _ _ _)
  have HX3 := Lib.hid (show X3.length = m.z3.length by rw [hX3]; exact movZ_len _ _ _)
  have H1 : Hid (∀ v, Below w.heap.size w v → Calls Tryd.prog 183 #[.agg #[.int .i64 m.b1, .slice A1 m.z1.length C1, .int .i64 m.b2, .slice A2 m.z2.length C2, .int .i64 m.b3, .slice A3 m.z3.length C3, .int .i64 m.p], .agg #[.int .i64 m.b2, .slice A2 m.z2.length C2], .slice A1 m.z1.length C1] v fun r w' => ∃ D E, r = .returned (.slice D m.z2.length E) ∧
      Own 2 w' v.heap.size w'.heap.size (.slice D m.z2.length E) (abvL m.z2.length P m.z1) ∧ Below v.heap.size v w') :=
    Lib.hid fun v hb => above_any m A1 C1 A2 C2 A3 C3 m.b2 A2 m.z2.length C2 P A1 C1 m.z1 v hP (o1.rd.below hb) (by omega) n2 n0
  have H2 : Hid (∀ v D E, Below w.heap.size w v → Rd v D (abvL m.z2.length P m.z1) → Calls Tryd.prog 154 #[.slice A2 m.z2.length C2, .slice D m.z2.length E, .int .i64 m.b1] v (RowB X2 t2 m.z2.length v)) :=
    Lib.hid fun v D E hb hd => by
      rw [hX2, ht2]
      exact turnOn_any m.b1 A2 D C2 E m.z2 (abvL m.z2.length P m.z1) v (o2.rd.below hb) hd b0 b1 n2 (abvL_len (by omega)) d2 (abvL_digs (by omega) d1 _ _)
  have HB := Lib.hid (fun (m : Mac) (A1 : Option Addr) (C1 : Nat) (A2 : Option Addr) (C2 : Nat) (A3 : Option Addr) (C3 : Nat) v => mBase_any m A1 C1 A2 C2 A3 C3 v)
  have k0 := kept_all (bx.at_ 0 rfl)
  have k1 := kept_all (bx.at_ 1 rfl)
  have k2 := kept_all (bx.at_ 2 rfl)
  have k3 := kept_all (bx.at_ 3 rfl)
  have k4 := kept_all (bx.at_ 4 rfl)
  have k5 := kept_all (bx.at_ 5 rfl)
  have k6 := kept_all (bx.at_ 6 rfl)
  have HF := Lib.hid (show 2 ≤ m.b1 ∧ m.b1 ≤ 16 ∧ m.z3.length ≤ 16 ∧ P + 1 ≤ m.z3.length ∧ DigsM m.b1 m.z3 from ⟨b0, b1, n4, by omega, d3⟩)
  have HHX3 := Lib.hid hX3
  have HHT3 := Lib.hid ht3
  have HPP := Lib.hid hP
  have e2' := Lib.hid e2
  clear e2 e3 b0 b1 n0 n12 n2 n3 n4 p0 p1 p2 d1 d2 d3 hP hX2 ht2 hX3 ht3 hk hm
  go_enter Tryd.func153, Tryd.ntmps153
  go_upto_region 0 with fail
  refine wp_region_marked (fun w' => Below w.heap.size w w') 38 (by kernel_rfl) ?_
  have hS : Below w.heap.size w w.drew := (Below.refl _ _).drew
  refine wpAnyM_take (i := 0) (v := ?_) rfl (by kernel_rfl) (by kernel_rfl) (by kernel_rfl) (by kernel_rfl) (by kernel_rfl) (fun _ _ _ h => h) hS (.inl ⟨by rfl, ?_⟩) ?_
  rotate_left 1
  · intro w' hS'; go_simp; try with_reducible rfl
  simp only [Act.put, List.setIfInBounds_toArray, List.set_cons_succ, List.set_cons_zero, List.getElem_toArray, List.getElem_cons_zero]
  refine wpAnyM_pure (i := 1) (v := ?_) rfl (by kernel_rfl) (by kernel_rfl) (by kernel_rfl) (by kernel_rfl) (fun _ _ _ h => h) (.inr hS) (.inl ⟨by rfl, ?_⟩) ?_
  rotate_left 1
  · intro w' hS'; go_simp; try with_reducible rfl
  simp only [Act.put, List.setIfInBounds_toArray, List.set_cons_succ, List.set_cons_zero, List.getElem_toArray, List.getElem_cons_succ, List.getElem_cons_zero]
  refine wpAnyM_take (i := 2) (v := ?_) rfl (by kernel_rfl) (by kernel_rfl) (by kernel_rfl) (by kernel_rfl) (by kernel_rfl) (fun _ _ _ h => h) hS (.inl ⟨by rfl, ?_⟩) ?_
  rotate_left 1
  · intro w' hS'; go_simp; try with_reducible rfl
  simp only [Act.put, List.setIfInBounds_toArray, List.set_cons_succ, List.set_cons_zero, List.getElem_toArray, List.getElem_cons_succ, List.getElem_cons_zero]
  refine wpAnyM_take (i := 3) (v := ?_) rfl (by kernel_rfl) (by kernel_rfl) (by kernel_rfl) (by kernel_rfl) (by kernel_rfl) (fun _ _ _ h => h) hS (.inl ⟨by rfl, ?_⟩) ?_
  rotate_left 1
  · intro w' hS'; go_simp; try with_reducible rfl
  simp only [Act.put, List.setIfInBounds_toArray, List.set_cons_succ, List.set_cons_zero, List.getElem_toArray, List.getElem_cons_succ, List.getElem_cons_zero]
  refine wpAnyM_take (i := 4) (v := ?_) rfl (by kernel_rfl) (by kernel_rfl) (by kernel_rfl) (by kernel_rfl) (by kernel_rfl) (fun _ _ _ h => h) hS (.inl ⟨by rfl, ?_⟩) ?_
  rotate_left 1
  · intro w' hS'; go_simp; try with_reducible rfl
  simp only [Act.put, List.setIfInBounds_toArray, List.set_cons_succ, List.set_cons_zero, List.getElem_toArray, List.getElem_cons_succ, List.getElem_cons_zero]
  refine wpAnyM_take (i := 5) (v := ?_) rfl (by kernel_rfl) (by kernel_rfl) (by kernel_rfl) (by kernel_rfl) (by kernel_rfl) (fun _ _ _ h => h) hS (.inl ⟨by rfl, ?_⟩) ?_
  rotate_left 1
  · intro w' hS'; go_simp; try with_reducible rfl
  simp only [Act.put, List.setIfInBounds_toArray, List.set_cons_succ, List.set_cons_zero, List.getElem_toArray, List.getElem_cons_succ, List.getElem_cons_zero]
  refine wpAnyM_take (i := 6) (v := ?_) rfl (by kernel_rfl) (by kernel_rfl) (by kernel_rfl) (by kernel_rfl) (by kernel_rfl) (fun _ _ _ h => h) hS (.inl ⟨by rfl, ?_⟩) ?_
  rotate_left 1
  · intro w' hS'; go_simp; try with_reducible rfl
  simp only [Act.put, List.setIfInBounds_toArray, List.set_cons_succ, List.set_cons_zero, List.getElem_toArray, List.getElem_cons_succ, List.getElem_cons_zero]
  refine wpAnyM_take (i := 7) (v := ?_) rfl (by kernel_rfl) (by kernel_rfl) (by kernel_rfl) (by kernel_rfl) (by kernel_rfl) (fun _ _ _ h => h) hS (.inl ⟨by rfl, ?_⟩) ?_
  rotate_left 1
  · intro w' hS'; go_simp; try with_reducible rfl
  simp only [Act.put, List.setIfInBounds_toArray, List.set_cons_succ, List.set_cons_zero, List.getElem_toArray, List.getElem_cons_succ, List.getElem_cons_zero]
  refine wpAnyM_take (i := 8) (v := ?_) rfl (by kernel_rfl) (by kernel_rfl) (by kernel_rfl) (by kernel_rfl) (by kernel_rfl) (fun _ _ _ h => h) hS (.inl ⟨by rfl, ?_⟩) ?_
  rotate_left 1
  · intro w' hS'; go_simp; try with_reducible rfl
  simp only [Act.put, List.setIfInBounds_toArray, List.set_cons_succ, List.set_cons_zero, List.getElem_toArray, List.getElem_cons_succ, List.getElem_cons_zero]
  refine wpAnyM_take (i := 9) (v := ?_) rfl (by kernel_rfl) (by kernel_rfl) (by kernel_rfl) (by kernel_rfl) (by kernel_rfl) (fun _ _ _ h => h) hS (.inl ⟨by rfl, ?_⟩) ?_
  rotate_left 1
  · intro w' hS'; go_simp; try with_reducible rfl
  simp only [Act.put, List.setIfInBounds_toArray, List.set_cons_succ, List.set_cons_zero, List.getElem_toArray, List.getElem_cons_succ, List.getElem_cons_zero]
  refine wpAnyM_take (i := 10) (v := ?_) rfl (by kernel_rfl) (by kernel_rfl) (by kernel_rfl) (by kernel_rfl) (by kernel_rfl) (fun _ _ _ h => h) hS (.inl ⟨by rfl, ?_⟩) ?_
  rotate_left 1
  · intro w' hS'; go_simp; try with_reducible rfl
  simp only [Act.put, List.setIfInBounds_toArray, List.set_cons_succ, List.set_cons_zero, List.getElem_toArray, List.getElem_cons_succ, List.getElem_cons_zero]
  refine wpAnyM_take (i := 11) (v := ?_) rfl (by kernel_rfl) (by kernel_rfl) (by kernel_rfl) (by kernel_rfl) (by kernel_rfl) (fun _ _ _ h => h) hS (.inl ⟨by rfl, ?_⟩) ?_
  rotate_left 1
  · intro w' hS'; go_simp; try with_reducible rfl
  simp only [Act.put, List.setIfInBounds_toArray, List.set_cons_succ, List.set_cons_zero, List.getElem_toArray, List.getElem_cons_succ, List.getElem_cons_zero]
  refine wpAnyM_take (i := 12) (v := ?_) rfl (by kernel_rfl) (by kernel_rfl) (by kernel_rfl) (by kernel_rfl) (by kernel_rfl) (fun _ _ _ h => h) hS (.inl ⟨by rfl, ?_⟩) ?_
  rotate_left 1
  · intro w' hS'; go_simp; try with_reducible rfl
  simp only [Act.put, List.setIfInBounds_toArray, List.set_cons_succ, List.set_cons_zero, List.getElem_toArray, List.getElem_cons_succ, List.getElem_cons_zero]
  refine wpAnyM_take (i := 13) (v := ?_) rfl (by kernel_rfl) (by kernel_rfl) (by kernel_rfl) (by kernel_rfl) (by kernel_rfl) (fun _ _ _ h => h) hS (.inl ⟨by rfl, ?_⟩) ?_
  rotate_left 1
  · intro w' hS'; go_simp; try with_reducible rfl
  simp only [Act.put, List.setIfInBounds_toArray, List.set_cons_succ, List.set_cons_zero, List.getElem_toArray, List.getElem_cons_succ, List.getElem_cons_zero]
  refine wpAnyM_take (i := 14) (v := ?_) rfl (by kernel_rfl) (by kernel_rfl) (by kernel_rfl) (by kernel_rfl) (by kernel_rfl) (fun _ _ _ h => h) hS (.inl ⟨by rfl, ?_⟩) ?_
  rotate_left 1
  · intro w' hS'; go_simp; try with_reducible rfl
  simp only [Act.put, List.setIfInBounds_toArray, List.set_cons_succ, List.set_cons_zero, List.getElem_toArray, List.getElem_cons_succ, List.getElem_cons_zero]
  refine wpAnyM_take (i := 15) (v := ?_) rfl (by kernel_rfl) (by kernel_rfl) (by kernel_rfl) (by kernel_rfl) (by kernel_rfl) (fun _ _ _ h => h) hS (.inl ⟨by rfl, ?_⟩) ?_
  rotate_left 1
  · intro w' hS'; go_simp; try with_reducible rfl
  simp only [Act.put, List.setIfInBounds_toArray, List.set_cons_succ, List.set_cons_zero, List.getElem_toArray, List.getElem_cons_succ, List.getElem_cons_zero]
  refine wpAnyM_take (i := 16) (v := ?_) rfl (by kernel_rfl) (by kernel_rfl) (by kernel_rfl) (by kernel_rfl) (by kernel_rfl) (fun _ _ _ h => h) hS (.inl ⟨by rfl, ?_⟩) ?_
  rotate_left 1
  · intro w' hS'; go_simp; try with_reducible rfl
  simp only [Act.put, List.setIfInBounds_toArray, List.set_cons_succ, List.set_cons_zero, List.getElem_toArray, List.getElem_cons_succ, List.getElem_cons_zero]
  refine wpAnyM_take (i := 17) (v := ?_) rfl (by kernel_rfl) (by kernel_rfl) (by kernel_rfl) (by kernel_rfl) (by kernel_rfl) (fun _ _ _ h => h) hS (.inl ⟨by rfl, ?_⟩) ?_
  rotate_left 1
  · intro w' hS'; go_simp; try with_reducible rfl
  simp only [Act.put, List.setIfInBounds_toArray, List.set_cons_succ, List.set_cons_zero, List.getElem_toArray, List.getElem_cons_succ, List.getElem_cons_zero]
  refine wpAnyM_take (i := 18) (v := ?_) rfl (by kernel_rfl) (by kernel_rfl) (by kernel_rfl) (by kernel_rfl) (by kernel_rfl) (fun _ _ _ h => h) hS (.inl ⟨by rfl, ?_⟩) ?_
  rotate_left 1
  · intro w' hS'; go_simp; try with_reducible rfl
  simp only [Act.put, List.setIfInBounds_toArray, List.set_cons_succ, List.set_cons_zero, List.getElem_toArray, List.getElem_cons_succ, List.getElem_cons_zero]
  refine wpAnyM_take (i := 19) (v := ?_) rfl (by kernel_rfl) (by kernel_rfl) (by kernel_rfl) (by kernel_rfl) (by kernel_rfl) (fun _ _ _ h => h) hS (.inl ⟨by rfl, ?_⟩) ?_
  rotate_left 1
  · intro w' hS'; go_simp; try with_reducible rfl
  simp only [Act.put, List.setIfInBounds_toArray, List.set_cons_succ, List.set_cons_zero, List.getElem_toArray, List.getElem_cons_succ, List.getElem_cons_zero]
  refine wpAnyM_take (i := 20) (v := ?_) rfl (by kernel_rfl) (by kernel_rfl) (by kernel_rfl) (by kernel_rfl) (by kernel_rfl) (fun _ _ _ h => h) hS (.inl ⟨by rfl, ?_⟩) ?_
  rotate_left 1
  · intro w' hS'; go_simp; try with_reducible rfl
  simp only [Act.put, List.setIfInBounds_toArray, List.set_cons_succ, List.set_cons_zero, List.getElem_toArray, List.getElem_cons_succ, List.getElem_cons_zero]
  refine wpAnyM_take (i := 21) (v := ?_) rfl (by kernel_rfl) (by kernel_rfl) (by kernel_rfl) (by kernel_rfl) (by kernel_rfl) (fun _ _ _ h => h) hS (.inl ⟨by rfl, ?_⟩) ?_
  rotate_left 1
  · intro w' hS'; go_simp; try with_reducible rfl
  simp only [Act.put, List.setIfInBounds_toArray, List.set_cons_succ, List.set_cons_zero, List.getElem_toArray, List.getElem_cons_succ, List.getElem_cons_zero]
  refine wpAnyM_take (i := 22) (v := ?_) rfl (by kernel_rfl) (by kernel_rfl) (by kernel_rfl) (by kernel_rfl) (by kernel_rfl) (fun _ _ _ h => h) hS (.inl ⟨by rfl, ?_⟩) ?_
  rotate_left 1
  · intro w' hS'; go_simp; try with_reducible rfl
  simp only [Act.put, List.setIfInBounds_toArray, List.set_cons_succ, List.set_cons_zero, List.getElem_toArray, List.getElem_cons_succ, List.getElem_cons_zero]
  refine wpAnyM_take (i := 23) (v := ?_) rfl (by kernel_rfl) (by kernel_rfl) (by kernel_rfl) (by kernel_rfl) (by kernel_rfl) (fun _ _ _ h => h) hS (.inl ⟨by rfl, ?_⟩) ?_
  rotate_left 1
  · intro w' hS'; go_simp; try with_reducible rfl
  simp only [Act.put, List.setIfInBounds_toArray, List.set_cons_succ, List.set_cons_zero, List.getElem_toArray, List.getElem_cons_succ, List.getElem_cons_zero]
  refine wpAnyM_take (i := 25) (v := ?_) rfl (by kernel_rfl) (by kernel_rfl) (by kernel_rfl) (by kernel_rfl) (by kernel_rfl) (fun _ _ _ h => h) hS (.inl ⟨by rfl, ?_⟩) ?_
  rotate_left 1
  · intro w' hS'; go_simp; try with_reducible rfl
  simp only [Act.put, List.setIfInBounds_toArray, List.set_cons_succ, List.set_cons_zero, List.getElem_toArray, List.getElem_cons_succ, List.getElem_cons_zero]
  refine wpAnyM_take (i := 26) (v := ?_) rfl (by kernel_rfl) (by kernel_rfl) (by kernel_rfl) (by kernel_rfl) (by kernel_rfl) (fun _ _ _ h => h) hS (.inl ⟨by rfl, ?_⟩) ?_
  rotate_left 1
  · intro w' hS'; go_simp; try with_reducible rfl
  simp only [Act.put, List.setIfInBounds_toArray, List.set_cons_succ, List.set_cons_zero, List.getElem_toArray, List.getElem_cons_succ, List.getElem_cons_zero]
  refine wpAnyM_take (i := 27) (v := ?_) rfl (by kernel_rfl) (by kernel_rfl) (by kernel_rfl) (by kernel_rfl) (by kernel_rfl) (fun _ _ _ h => h) hS (.inl ⟨by rfl, ?_⟩) ?_
  rotate_left 1
  · intro w' hS'; go_simp; try with_reducible rfl
  simp only [Act.put, List.setIfInBounds_toArray, List.set_cons_succ, List.set_cons_zero, List.getElem_toArray, List.getElem_cons_succ, List.getElem_cons_zero]
  refine wpAnyM_take (i := 28) (v := ?_) rfl (by kernel_rfl) (by kernel_rfl) (by kernel_rfl) (by kernel_rfl) (by kernel_rfl) (fun _ _ _ h => h) hS (.inl ⟨by rfl, ?_⟩) ?_
  rotate_left 1
  · intro w' hS'; go_simp; try with_reducible rfl
  simp only [Act.put, List.setIfInBounds_toArray, List.set_cons_succ, List.set_cons_zero, List.getElem_toArray, List.getElem_cons_succ, List.getElem_cons_zero]
  clear k0 k1 k2 k3 k4 k5 k6
  refine wpAnyM_one (i := 24) (by kernel_rfl) rfl (by rfl) (fun K hK => ?_)
  go_simp
  refine (H1.out w.drew hS).mono ?_
  rintro e w1 ⟨D, E, rfl, oD, hb⟩
  have hq1 : w.heap.size ≤ w1.heap.size := hb.size
  have hS1 : Below w.heap.size w w1 := hS.trans hb
  replace oD : Own 2 w1 w.heap.size w1.heap.size (.slice D m.z2.length E) (abvL m.z2.length P m.z1) := oD
  clear hb
  refine hK _ _ (.inr hS1) ?_
  try simp only [Act.put, List.setIfInBounds_toArray, List.set_cons_succ, List.set_cons_zero, List.getElem_toArray, List.getElem_cons_succ, List.getElem_cons_zero]
  clear hK K
  refine wpAnyM_one (i := 29) (by kernel_rfl) rfl (by rfl) (fun K hK => ?_)
  go_simp
  refine (HB.out m A1 C1 A2 C2 A3 C3 w1).mono ?_
  rintro e w2 ⟨rfl, hb⟩
  have hq2 := hb.size
  have hS2 : Below w.heap.size w w2 := hS1.trans (hb.mono hq1)
  replace oD := oD.below hb
  clear hb
  refine hK _ _ (.inr hS2) ?_
  try simp only [Act.put, List.setIfInBounds_toArray, List.set_cons_succ, List.set_cons_zero, List.getElem_toArray, List.getElem_cons_succ, List.getElem_cons_zero]
  clear hK K
  refine wpAnyM_one (i := 30) (by kernel_rfl) rfl (by rfl) (fun K hK => ?_)
  go_simp
  refine (H2.out w2 D E hS2 oD.rd).mono ?_
  rintro e w3 ⟨F, G, rfl, oF, hb⟩
  have hq3 := hb.size
  have hS3 : Below w.heap.size w w3 := hS2.trans (hb.mono hS2.size)
  clear hb oD
  refine hK _ _ (.inr hS3) ?_
  try simp only [Act.put, List.setIfInBounds_toArray, List.set_cons_succ, List.set_cons_zero, List.getElem_toArray, List.getElem_cons_succ, List.getElem_cons_zero]
  clear hK K
  refine wpAnyM_take (i := 31) (v := ?_) rfl (by kernel_rfl) (by kernel_rfl) (by kernel_rfl) (by kernel_rfl) (by kernel_rfl) (fun _ _ _ h => h) hS3 (.inl ⟨by rfl, ?_⟩) ?_
  rotate_left 1
  · intro w' hS'; go_simp; try with_reducible rfl
  simp only [Act.put, List.setIfInBounds_toArray, List.set_cons_succ, List.set_cons_zero, List.getElem_toArray, List.getElem_cons_succ, List.getElem_cons_zero]
  refine wpAnyM_take (i := 32) (v := ?_) rfl (by kernel_rfl) (by kernel_rfl) (by kernel_rfl) (by kernel_rfl) (by kernel_rfl) (fun _ _ _ h => h) hS3 (.inl ⟨by rfl, ?_⟩) ?_
  rotate_left 1
  · intro w' hS'; go_simp; try with_reducible rfl
  simp only [Act.put, List.setIfInBounds_toArray, List.set_cons_succ, List.set_cons_zero, List.getElem_toArray, List.getElem_cons_succ, List.getElem_cons_zero]
  refine wpAnyM_pure (i := 33) (v := ?_) rfl (by kernel_rfl) (by kernel_rfl) (by kernel_rfl) (by kernel_rfl) (fun _ _ _ h => h) (.inr hS3) (.inl ⟨by rfl, ?_⟩) ?_
  rotate_left 1
  · intro w' hS'; go_simp; try with_reducible rfl
  simp only [Act.put, List.setIfInBounds_toArray, List.set_cons_succ, List.set_cons_zero, List.getElem_toArray, List.getElem_cons_succ, List.getElem_cons_zero]
  refine wpAnyM_pure (i := 34) (v := ?_) rfl (by kernel_rfl) (by kernel_rfl) (by kernel_rfl) (by kernel_rfl) (fun _ _ _ h => h) (.inr hS3) (.inl ⟨by rfl, ?_⟩) ?_
  rotate_left 1
  · intro w' hS'; go_simp; try with_reducible rfl
  simp only [Act.put, List.setIfInBounds_toArray, List.set_cons_succ, List.set_cons_zero, List.getElem_toArray, List.getElem_cons_succ, List.getElem_cons_zero]
  refine wpAnyM_pure (i := 35) (v := ?_) rfl (by kernel_rfl) (by kernel_rfl) (by kernel_rfl) (by kernel_rfl) (fun _ _ _ h => h) (.inr hS3) (.inl ⟨by rfl, ?_⟩) ?_
  rotate_left 1
  · intro w' hS'; go_simp; try with_reducible rfl
  simp only [Act.put, List.setIfInBounds_toArray, List.set_cons_succ, List.set_cons_zero, List.getElem_toArray, List.getElem_cons_succ, List.getElem_cons_zero]
  refine wpAnyM_pure (i := 36) (v := ?_) rfl (by kernel_rfl) (by kernel_rfl) (by kernel_rfl) (by kernel_rfl) (fun _ _ _ h => h) (.inr hS3) (.inl ⟨by rfl, ?_⟩) ?_
  rotate_left 1
  · intro w' hS'; go_simp; try with_reducible rfl
  simp only [Act.put, List.setIfInBounds_toArray, List.set_cons_succ, List.set_cons_zero, List.getElem_toArray, List.getElem_cons_succ, List.getElem_cons_zero]
  refine wpAnyM_pure (i := 37) (v := ?_) rfl (by kernel_rfl) (by kernel_rfl) (by kernel_rfl) (by kernel_rfl) (fun _ _ _ h => h) (.inr hS3) (.inl ⟨by rfl, ?_⟩) ?_
  rotate_left 1
  · intro w' hS'; go_simp; try with_reducible rfl
  simp only [Act.put, List.setIfInBounds_toArray, List.set_cons_succ, List.set_cons_zero, List.getElem_toArray, List.getElem_cons_succ, List.getElem_cons_zero]
  replace bx := bx.below hS3
  have c3 := bx.at_ 3 rfl
  have f3 := bx.thaw 3
  have c7 := bx.at_ 7 rfl
  have f7 := bx.thaw 7
  refine wpAnyM_one (i := 38) (by kernel_rfl) rfl (by rfl) (fun K hK => ?_)
  go_simp
  obtain ⟨w4, hw4⟩ : ∃ v, v = w3.setCell ⟨p, 3, none⟩ (.slice F m.z2.length G) := ⟨_, rfl⟩
  rw [← hw4]
  have bx4 : Bx w4 p 103 #[.int .i64 m.b1, .slice A1 m.z1.length C1, .int .i64 m.b2, .slice F m.z2.length G, .int .i64 m.b3, .slice A3 m.z3.length C3, .int .i64 m.p, .bool t] := by rw [hw4]; exact bx.set_ 3 _
  have ht4 : Touch p (p + 1) w3 w4 := by rw [hw4]; exact (Touch.refl _ _ _).setCell (by simp) (by simp) _
  refine hK _ _ (.inl rfl) ?_
  try simp only [Act.put, List.setIfInBounds_toArray, List.set_cons_succ, List.set_cons_zero, List.getElem_toArray, List.getElem_cons_succ, List.getElem_cons_zero]
  clear hK K hw4 c3 f3 c7 f7
  refine wpAnyM_pure (i := 39) (v := ?_) rfl (by kernel_rfl) (by kernel_rfl) (by kernel_rfl) (by kernel_rfl) (fun _ _ _ h => h) (.inl rfl) (.inl ⟨by rfl, ?_⟩) ?_
  rotate_left 1
  · intro w' hS'; go_simp; try with_reducible rfl
  simp only [Act.put, List.setIfInBounds_toArray, List.set_cons_succ, List.set_cons_zero, List.getElem_toArray, List.getElem_cons_succ, List.getElem_cons_zero]
  refine wpAnyM_pure (i := 40) (v := ?_) rfl (by kernel_rfl) (by kernel_rfl) (by kernel_rfl) (by kernel_rfl) (fun _ _ _ h => h) (.inl rfl) (.inl ⟨by rfl, ?_⟩) ?_
  rotate_left 1
  · intro w' hS'; go_simp; try with_reducible rfl
  simp only [Act.put, List.setIfInBounds_toArray, List.set_cons_succ, List.set_cons_zero, List.getElem_toArray, List.getElem_cons_succ, List.getElem_cons_zero]
  have c7 := bx4.at_ 7 rfl
  have f7 := bx4.thaw 7
  refine wpAnyM_one (i := 41) (by kernel_rfl) rfl (by rfl) (fun K hK => ?_)
  go_simp
  obtain ⟨w5, hw5⟩ : ∃ v, v = w4.setCell ⟨p, 7, none⟩ (.bool t2) := ⟨_, rfl⟩
  rw [← hw5]
  have bx5 : Bx w5 p 103 #[.int .i64 m.b1, .slice A1 m.z1.length C1, .int .i64 m.b2, .slice F m.z2.length G, .int .i64 m.b3, .slice A3 m.z3.length C3, .int .i64 m.p, .bool t2] := by rw [hw5]; exact bx4.set_ 7 _
  have ht5 : Touch p (p + 1) w4 w5 := by rw [hw5]; exact (Touch.refl _ _ _).setCell (by simp) (by simp) _
  replace ht5 := ht4.trans ht5
  refine hK _ _ (.inl rfl) ?_
  try simp only [Act.put, List.setIfInBounds_toArray, List.set_cons_succ, List.set_cons_zero, List.getElem_toArray, List.getElem_cons_succ, List.getElem_cons_zero]
  clear hK K hw5 c7 f7 bx4 bx ht4
  refine wpAnyM_done (by kernel_rfl) ?_ _
  replace o1 := (o1.below hS3).touch ht5 (by omega)
  replace o3 := (o3.below hS3).touch ht5 (by omega)
  replace oF := oF.touch ht5 (by omega)
  have hq5 := ht5.size
  have hbL : Below L w w5 := (hS3.mono (by omega)).trans (ht5.below hlp (by omega))
  have hs2 := hS2.size
  clear o2 hS hS1 hS2 hS3 ht5 H1 H2
  have k0 := kept_all (bx5.at_ 0 rfl)
  have k1 := kept_all (bx5.at_ 1 rfl)
  have k2 := kept_all (bx5.at_ 2 rfl)
  have k3 := kept_all (bx5.at_ 3 rfl)
  have k4 := kept_all (bx5.at_ 4 rfl)
  have k5 := kept_all (bx5.at_ 5 rfl)
  have k6 := kept_all (bx5.at_ 6 rfl)
  have hF := HF.out
  have hP := HPP.out
  have H1 : Hid (∀ v d e, Below w5.heap.size w5 v → Rd v d [1] → Calls Tryd.prog 183 #[.agg #[.int .i64 m.b1, .slice A1 m.z1.length C1, .int .i64 m.b2, .slice F m.z2.length G, .int .i64 m.b3, .slice A3 m.z3.length C3, .int .i64 m.p], .agg #[.int .i64 m.b3, .slice A3 m.z3.length C3], .slice d 1 e] v fun r w' => ∃ D E, r = .returned (.slice D m.z3.length E) ∧
      Own 2 w' v.heap.size w'.heap.size (.slice D m.z3.length E) (abvL m.z3.length P [1]) ∧ Below v.heap.size v w') :=
    Lib.hid fun v d e _ hd => above_any m A1 C1 F G A3 C3 m.b3 A3 m.z3.length C3 P d e [1] v hP hd (by simpa using hF.2.2.2.1) hF.2.2.1 (by simp)
  have H2 : Hid (∀ v D E, Below w5.heap.size w5 v → Rd v D (abvL m.z3.length P [1]) → Calls Tryd.prog 154 #[.slice A3 m.z3.length C3, .slice D m.z3.length E, .int .i64 m.b1] v (RowB X3 t3 m.z3.length v)) :=
    Lib.hid fun v D E hb hd => by
      rw [HHX3.out, HHT3.out]
      exact turnOn_any m.b1 A3 D C3 E m.z3 (abvL m.z3.length P [1]) v (o3.rd.below hb) hd hF.1 hF.2.1 hF.2.2.1 (abvL_len (by simpa using hF.2.2.2.1)) hF.2.2.2.2 (abvL_digs (by omega) (fun d hd => by simp at hd; subst hd; omega) _ _)
  clear hF hP
  go_upto_region 1 with fail
  refine wp_region_marked (fun w' => Below w5.heap.size w5 w') 32 (by kernel_rfl) ?_
  have hS : Below w5.heap.size w5 w5.drew := (Below.refl _ _).drew
  refine wpAnyM_take (i := 0) (v := ?_) rfl (by kernel_rfl) (by kernel_rfl) (by kernel_rfl) (by kernel_rfl) (by kernel_rfl) (fun _ _ _ h => h) hS (.inl ⟨by rfl, ?_⟩) ?_
  rotate_left 1
  · intro w' hS'; go_simp; try with_reducible rfl
  simp only [Act.put, List.setIfInBounds_toArray, List.set_cons_succ, List.set_cons_zero, List.getElem_toArray, List.getElem_cons_zero]
  refine wpAnyM_take (i := 1) (v := ?_) rfl (by kernel_rfl) (by kernel_rfl) (by kernel_rfl) (by kernel_rfl) (by kernel_rfl) (fun _ _ _ h => h) hS (.inl ⟨by rfl, ?_⟩) ?_
  rotate_left 1
  · intro w' hS'; go_simp; try with_reducible rfl
  simp only [Act.put, List.setIfInBounds_toArray, List.set_cons_succ, List.set_cons_zero, List.getElem_toArray, List.getElem_cons_succ, List.getElem_cons_zero]
  refine wpAnyM_take (i := 2) (v := ?_) rfl (by kernel_rfl) (by kernel_rfl) (by kernel_rfl) (by kernel_rfl) (by kernel_rfl) (fun _ _ _ h => h) hS (.inl ⟨by rfl, ?_⟩) ?_
  rotate_left 1
  · intro w' hS'; go_simp; try with_reducible rfl
  simp only [Act.put, List.setIfInBounds_toArray, List.set_cons_succ, List.set_cons_zero, List.getElem_toArray, List.getElem_cons_succ, List.getElem_cons_zero]
  refine wpAnyM_take (i := 3) (v := ?_) rfl (by kernel_rfl) (by kernel_rfl) (by kernel_rfl) (by kernel_rfl) (by kernel_rfl) (fun _ _ _ h => h) hS (.inl ⟨by rfl, ?_⟩) ?_
  rotate_left 1
  · intro w' hS'; go_simp; try with_reducible rfl
  simp only [Act.put, List.setIfInBounds_toArray, List.set_cons_succ, List.set_cons_zero, List.getElem_toArray, List.getElem_cons_succ, List.getElem_cons_zero]
  refine wpAnyM_take (i := 4) (v := ?_) rfl (by kernel_rfl) (by kernel_rfl) (by kernel_rfl) (by kernel_rfl) (by kernel_rfl) (fun _ _ _ h => h) hS (.inl ⟨by rfl, ?_⟩) ?_
  rotate_left 1
  · intro w' hS'; go_simp; try with_reducible rfl
  simp only [Act.put, List.setIfInBounds_toArray, List.set_cons_succ, List.set_cons_zero, List.getElem_toArray, List.getElem_cons_succ, List.getElem_cons_zero]
  refine wpAnyM_take (i := 5) (v := ?_) rfl (by kernel_rfl) (by kernel_rfl) (by kernel_rfl) (by kernel_rfl) (by kernel_rfl) (fun _ _ _ h => h) hS (.inl ⟨by rfl, ?_⟩) ?_
  rotate_left 1
  · intro w' hS'; go_simp; try with_reducible rfl
  simp only [Act.put, List.setIfInBounds_toArray, List.set_cons_succ, List.set_cons_zero, List.getElem_toArray, List.getElem_cons_succ, List.getElem_cons_zero]
  refine wpAnyM_take (i := 6) (v := ?_) rfl (by kernel_rfl) (by kernel_rfl) (by kernel_rfl) (by kernel_rfl) (by kernel_rfl) (fun _ _ _ h => h) hS (.inl ⟨by rfl, ?_⟩) ?_
  rotate_left 1
  · intro w' hS'; go_simp; try with_reducible rfl
  simp only [Act.put, List.setIfInBounds_toArray, List.set_cons_succ, List.set_cons_zero, List.getElem_toArray, List.getElem_cons_succ, List.getElem_cons_zero]
  refine wpAnyM_take (i := 7) (v := ?_) rfl (by kernel_rfl) (by kernel_rfl) (by kernel_rfl) (by kernel_rfl) (by kernel_rfl) (fun _ _ _ h => h) hS (.inl ⟨by rfl, ?_⟩) ?_
  rotate_left 1
  · intro w' hS'; go_simp; try with_reducible rfl
  simp only [Act.put, List.setIfInBounds_toArray, List.set_cons_succ, List.set_cons_zero, List.getElem_toArray, List.getElem_cons_succ, List.getElem_cons_zero]
  refine wpAnyM_take (i := 8) (v := ?_) rfl (by kernel_rfl) (by kernel_rfl) (by kernel_rfl) (by kernel_rfl) (by kernel_rfl) (fun _ _ _ h => h) hS (.inl ⟨by rfl, ?_⟩) ?_
  rotate_left 1
  · intro w' hS'; go_simp; try with_reducible rfl
  simp only [Act.put, List.setIfInBounds_toArray, List.set_cons_succ, List.set_cons_zero, List.getElem_toArray, List.getElem_cons_succ, List.getElem_cons_zero]
  refine wpAnyM_take (i := 9) (v := ?_) rfl (by kernel_rfl) (by kernel_rfl) (by kernel_rfl) (by kernel_rfl) (by kernel_rfl) (fun _ _ _ h => h) hS (.inl ⟨by rfl, ?_⟩) ?_
  rotate_left 1
  · intro w' hS'; go_simp; try with_reducible rfl
  simp only [Act.put, List.setIfInBounds_toArray, List.set_cons_succ, List.set_cons_zero, List.getElem_toArray, List.getElem_cons_succ, List.getElem_cons_zero]
  refine wpAnyM_take (i := 10) (v := ?_) rfl (by kernel_rfl) (by kernel_rfl) (by kernel_rfl) (by kernel_rfl) (by kernel_rfl) (fun _ _ _ h => h) hS (.inl ⟨by rfl, ?_⟩) ?_
  rotate_left 1
  · intro w' hS'; go_simp; try with_reducible rfl
  simp only [Act.put, List.setIfInBounds_toArray, List.set_cons_succ, List.set_cons_zero, List.getElem_toArray, List.getElem_cons_succ, List.getElem_cons_zero]
  refine wpAnyM_take (i := 11) (v := ?_) rfl (by kernel_rfl) (by kernel_rfl) (by kernel_rfl) (by kernel_rfl) (by kernel_rfl) (fun _ _ _ h => h) hS (.inl ⟨by rfl, ?_⟩) ?_
  rotate_left 1
  · intro w' hS'; go_simp; try with_reducible rfl
  simp only [Act.put, List.setIfInBounds_toArray, List.set_cons_succ, List.set_cons_zero, List.getElem_toArray, List.getElem_cons_succ, List.getElem_cons_zero]
  refine wpAnyM_take (i := 12) (v := ?_) rfl (by kernel_rfl) (by kernel_rfl) (by kernel_rfl) (by kernel_rfl) (by kernel_rfl) (fun _ _ _ h => h) hS (.inl ⟨by rfl, ?_⟩) ?_
  rotate_left 1
  · intro w' hS'; go_simp; try with_reducible rfl
  simp only [Act.put, List.setIfInBounds_toArray, List.set_cons_succ, List.set_cons_zero, List.getElem_toArray, List.getElem_cons_succ, List.getElem_cons_zero]
  refine wpAnyM_take (i := 13) (v := ?_) rfl (by kernel_rfl) (by kernel_rfl) (by kernel_rfl) (by kernel_rfl) (by kernel_rfl) (fun _ _ _ h => h) hS (.inl ⟨by rfl, ?_⟩) ?_
  rotate_left 1
  · intro w' hS'; go_simp; try with_reducible rfl
  simp only [Act.put, List.setIfInBounds_toArray, List.set_cons_succ, List.set_cons_zero, List.getElem_toArray, List.getElem_cons_succ, List.getElem_cons_zero]
  refine wpAnyM_take (i := 14) (v := ?_) rfl (by kernel_rfl) (by kernel_rfl) (by kernel_rfl) (by kernel_rfl) (by kernel_rfl) (fun _ _ _ h => h) hS (.inl ⟨by rfl, ?_⟩) ?_
  rotate_left 1
  · intro w' hS'; go_simp; try with_reducible rfl
  simp only [Act.put, List.setIfInBounds_toArray, List.set_cons_succ, List.set_cons_zero, List.getElem_toArray, List.getElem_cons_succ, List.getElem_cons_zero]
  refine wpAnyM_take (i := 15) (v := ?_) rfl (by kernel_rfl) (by kernel_rfl) (by kernel_rfl) (by kernel_rfl) (by kernel_rfl) (fun _ _ _ h => h) hS (.inl ⟨by rfl, ?_⟩) ?_
  rotate_left 1
  · intro w' hS'; go_simp; try with_reducible rfl
  simp only [Act.put, List.setIfInBounds_toArray, List.set_cons_succ, List.set_cons_zero, List.getElem_toArray, List.getElem_cons_succ, List.getElem_cons_zero]
  refine wpAnyM_take (i := 16) (v := ?_) rfl (by kernel_rfl) (by kernel_rfl) (by kernel_rfl) (by kernel_rfl) (by kernel_rfl) (fun _ _ _ h => h) hS (.inl ⟨by rfl, ?_⟩) ?_
  rotate_left 1
  · intro w' hS'; go_simp; try with_reducible rfl
  simp only [Act.put, List.setIfInBounds_toArray, List.set_cons_succ, List.set_cons_zero, List.getElem_toArray, List.getElem_cons_succ, List.getElem_cons_zero]
  refine wpAnyM_take (i := 19) (v := ?_) rfl (by kernel_rfl) (by kernel_rfl) (by kernel_rfl) (by kernel_rfl) (by kernel_rfl) (fun _ _ _ h => h) hS (.inl ⟨by rfl, ?_⟩) ?_
  rotate_left 1
  · intro w' hS'; go_simp; try with_reducible rfl
  simp only [Act.put, List.setIfInBounds_toArray, List.set_cons_succ, List.set_cons_zero, List.getElem_toArray, List.getElem_cons_succ, List.getElem_cons_zero]
  refine wpAnyM_take (i := 20) (v := ?_) rfl (by kernel_rfl) (by kernel_rfl) (by kernel_rfl) (by kernel_rfl) (by kernel_rfl) (fun _ _ _ h => h) hS (.inl ⟨by rfl, ?_⟩) ?_
  rotate_left 1
  · intro w' hS'; go_simp; try with_reducible rfl
  simp only [Act.put, List.setIfInBounds_toArray, List.set_cons_succ, List.set_cons_zero, List.getElem_toArray, List.getElem_cons_succ, List.getElem_cons_zero]
  refine wpAnyM_take (i := 21) (v := ?_) rfl (by kernel_rfl) (by kernel_rfl) (by kernel_rfl) (by kernel_rfl) (by kernel_rfl) (fun _ _ _ h => h) hS (.inl ⟨by rfl, ?_⟩) ?_
  rotate_left 1
  · intro w' hS'; go_simp; try with_reducible rfl
  simp only [Act.put, List.setIfInBounds_toArray, List.set_cons_succ, List.set_cons_zero, List.getElem_toArray, List.getElem_cons_succ, List.getElem_cons_zero]
  refine wpAnyM_take (i := 22) (v := ?_) rfl (by kernel_rfl) (by kernel_rfl) (by kernel_rfl) (by kernel_rfl) (by kernel_rfl) (fun _ _ _ h => h) hS (.inl ⟨by rfl, ?_⟩) ?_
  rotate_left 1
  · intro w' hS'; go_simp; try with_reducible rfl
  simp only [Act.put, List.setIfInBounds_toArray, List.set_cons_succ, List.set_cons_zero, List.getElem_toArray, List.getElem_cons_succ, List.getElem_cons_zero]
  clear k0 k1 k2 k3 k4 k5 k6
  refine wpAnyM_one (i := 17) (by kernel_rfl) rfl (by rfl) (fun K hK => ?_)
  go_simp
  obtain ⟨c, hc⟩ : ∃ c, c = w5.heap.size := ⟨_, rfl⟩
  obtain ⟨w6, hw6⟩ : ∃ v, v = w5.drew.alloc (.cells #[.int .i64 1] 2) := ⟨_, rfl⟩
  have hdig : Rd w6 (some ⟨c, 0, none⟩) [1] := by rw [hw6, hc]; exact rd_new1 w5.drew 1 _
  have hS6 : Below w5.heap.size w5 w6 := by rw [hw6]; exact hS.alloc (Nat.le_refl _) _
  first | rw [← hw6] | (rw [show (w5.alloc (.cells #[.int .i64 1] 2)).drew = w6 from hw6.symm])
  try rw [← hc]
  have hq6 := hS6.size
  clear hw6 hc
  refine hK _ _ (.inr hS6) ?_
  try simp only [Act.put, List.setIfInBounds_toArray, List.set_cons_succ, List.set_cons_zero, List.getElem_toArray, List.getElem_cons_succ, List.getElem_cons_zero]
  clear hK K
  refine wpAnyM_one (i := 18) (by kernel_rfl) rfl (by rfl) (fun K hK => ?_)
  go_simp
  refine (H1.out w6 _ _ hS6 hdig).mono ?_
  rintro e w7 ⟨D, E, rfl, oD, hb⟩
  have hq7 := hb.size
  have hS7 : Below w5.heap.size w5 w7 := hS6.trans (hb.mono hq6)
  clear hb
  refine hK _ _ (.inr hS7) ?_
  try simp only [Act.put, List.setIfInBounds_toArray, List.set_cons_succ, List.set_cons_zero, List.getElem_toArray, List.getElem_cons_succ, List.getElem_cons_zero]
  clear hK K
  refine wpAnyM_one (i := 23) (by kernel_rfl) rfl (by rfl) (fun K hK => ?_)
  go_simp
  refine (HB.out m A1 C1 F G A3 C3 w7).mono ?_
  rintro e w8 ⟨rfl, hb⟩
  have hq8 := hb.size
  have hS8 : Below w5.heap.size w5 w8 := hS7.trans (hb.mono hS7.size)
  replace oD := oD.below hb
  clear hb
  refine hK _ _ (.inr hS8) ?_
  try simp only [Act.put, List.setIfInBounds_toArray, List.set_cons_succ, List.set_cons_zero, List.getElem_toArray, List.getElem_cons_succ, List.getElem_cons_zero]
  clear hK K
  refine wpAnyM_one (i := 24) (by kernel_rfl) rfl (by rfl) (fun K hK => ?_)
  go_simp
  refine (H2.out w8 D E hS8 oD.rd).mono ?_
  rintro e w9 ⟨M, N, rfl, oM, hb⟩
  have hq9 := hb.size
  have hS9 : Below w5.heap.size w5 w9 := hS8.trans (hb.mono hS8.size)
  clear hb oD
  refine hK _ _ (.inr hS9) ?_
  try simp only [Act.put, List.setIfInBounds_toArray, List.set_cons_succ, List.set_cons_zero, List.getElem_toArray, List.getElem_cons_succ, List.getElem_cons_zero]
  clear hK K
  refine wpAnyM_take (i := 25) (v := ?_) rfl (by kernel_rfl) (by kernel_rfl) (by kernel_rfl) (by kernel_rfl) (by kernel_rfl) (fun _ _ _ h => h) hS9 (.inl ⟨by rfl, ?_⟩) ?_
  rotate_left 1
  · intro w' hS'; go_simp; try with_reducible rfl
  simp only [Act.put, List.setIfInBounds_toArray, List.set_cons_succ, List.set_cons_zero, List.getElem_toArray, List.getElem_cons_succ, List.getElem_cons_zero]
  refine wpAnyM_take (i := 26) (v := ?_) rfl (by kernel_rfl) (by kernel_rfl) (by kernel_rfl) (by kernel_rfl) (by kernel_rfl) (fun _ _ _ h => h) hS9 (.inl ⟨by rfl, ?_⟩) ?_
  rotate_left 1
  · intro w' hS'; go_simp; try with_reducible rfl
  simp only [Act.put, List.setIfInBounds_toArray, List.set_cons_succ, List.set_cons_zero, List.getElem_toArray, List.getElem_cons_succ, List.getElem_cons_zero]
  refine wpAnyM_pure (i := 27) (v := ?_) rfl (by kernel_rfl) (by kernel_rfl) (by kernel_rfl) (by kernel_rfl) (fun _ _ _ h => h) (.inr hS9) (.inl ⟨by rfl, ?_⟩) ?_
  rotate_left 1
  · intro w' hS'; go_simp; try with_reducible rfl
  simp only [Act.put, List.setIfInBounds_toArray, List.set_cons_succ, List.set_cons_zero, List.getElem_toArray, List.getElem_cons_succ, List.getElem_cons_zero]
  refine wpAnyM_pure (i := 28) (v := ?_) rfl (by kernel_rfl) (by kernel_rfl) (by kernel_rfl) (by kernel_rfl) (fun _ _ _ h => h) (.inr hS9) (.inl ⟨by rfl, ?_⟩) ?_
  rotate_left 1
  · intro w' hS'; go_simp; try with_reducible rfl
  simp only [Act.put, List.setIfInBounds_toArray, List.set_cons_succ, List.set_cons_zero, List.getElem_toArray, List.getElem_cons_succ, List.getElem_cons_zero]
  refine wpAnyM_pure (i := 29) (v := ?_) rfl (by kernel_rfl) (by kernel_rfl) (by kernel_rfl) (by kernel_rfl) (fun _ _ _ h => h) (.inr hS9) (.inl ⟨by rfl, ?_⟩) ?_
  rotate_left 1
  · intro w' hS'; go_simp; try with_reducible rfl
  simp only [Act.put, List.setIfInBounds_toArray, List.set_cons_succ, List.set_cons_zero, List.getElem_toArray, List.getElem_cons_succ, List.getElem_cons_zero]
  refine wpAnyM_pure (i := 30) (v := ?_) rfl (by kernel_rfl) (by kernel_rfl) (by kernel_rfl) (by kernel_rfl) (fun _ _ _ h => h) (.inr hS9) (.inl ⟨by rfl, ?_⟩) ?_
  rotate_left 1
  · intro w' hS'; go_simp; try with_reducible rfl
  simp only [Act.put, List.setIfInBounds_toArray, List.set_cons_succ, List.set_cons_zero, List.getElem_toArray, List.getElem_cons_succ, List.getElem_cons_zero]
  refine wpAnyM_pure (i := 31) (v := ?_) rfl (by kernel_rfl) (by kernel_rfl) (by kernel_rfl) (by kernel_rfl) (fun _ _ _ h => h) (.inr hS9) (.inl ⟨by rfl, ?_⟩) ?_
  rotate_left 1
  · intro w' hS'; go_simp; try with_reducible rfl
  simp only [Act.put, List.setIfInBounds_toArray, List.set_cons_succ, List.set_cons_zero, List.getElem_toArray, List.getElem_cons_succ, List.getElem_cons_zero]
  replace bx5 := bx5.below hS9
  have c5 := bx5.at_ 5 rfl
  have f5 := bx5.thaw 5
  refine wpAnyM_one (i := 32) (by kernel_rfl) rfl (by rfl) (fun K hK => ?_)
  go_simp
  obtain ⟨v4, hw4⟩ : ∃ v, v = w9.setCell ⟨p, 5, none⟩ (.slice M m.z3.length N) := ⟨_, rfl⟩
  rw [← hw4]
  have bx6 : Bx v4 p 103 #[.int .i64 m.b1, .slice A1 m.z1.length C1, .int .i64 m.b2, .slice F m.z2.length G, .int .i64 m.b3, .slice M m.z3.length N, .int .i64 m.p, .bool t2] := by rw [hw4]; exact bx5.set_ 5 _
  have ht4 : Touch p (p + 1) w9 v4 := by rw [hw4]; exact (Touch.refl _ _ _).setCell (by simp) (by simp) _
  refine hK _ _ (.inl rfl) ?_
  try simp only [Act.put, List.setIfInBounds_toArray, List.set_cons_succ, List.set_cons_zero, List.getElem_toArray, List.getElem_cons_succ, List.getElem_cons_zero]
  clear hK K hw4 c5 f5 bx5
  refine wpAnyM_done (by kernel_rfl) ?_ _
  have hsz5 : w3.heap.size ≤ w5.heap.size := hq5
  have hs8 := hS8.size
  replace o1 := (o1.below hS9).touch ht4 (by omega)
  replace oF := (oF.below hS9).touch ht4 (by omega)
  replace oM := oM.touch ht4 (by omega)
  have hq10 := ht4.size
  have hbF : Below L w v4 := (hbL.trans (hS9.mono (by omega))).trans (ht4.below hlp (by omega))
  have HW : Hid (WkE v4 L p (trnM m 1)) := Lib.hid (by
    rw [HT.out]
    refine ⟨A1, C1, F, G, M, N, ?_, hlp, l1, h1, _, _, _, _, o1, by rw [HX2.out]; exact oF, by rw [HX3.out]; exact oM, ?_⟩
    · rw [HX2.out, HX3.out]; exact bx6
    · omega)
  clear o1 o3 oF oM ht4 bx6 hS hS6 hS7 hS8 hS9 H1 H2
  go_wp2
  go_end0
  exact ⟨rfl, HW.out, hbF⟩

set_option maxRecDepth 100000 in
set_option maxHeartbeats 8000000 in
theorem crank_turnBack (L p : Nat) (m : Mac) (t : Bool) (A1 : Option Addr) (C1 : Nat) (A2 : Option Addr) (C2 : Nat) (A3 : Option Addr) (C3 : Nat) (w : World) (hk : Wk w L p m t A1 C1 A2 C2 A3 C3) (hm : macB m = true) :
    Calls Tryd.prog 153 #[.pointer (some ⟨p, 0, none⟩), .func (.func 155) #[] #[]] w fun e w' => e = .returned (.tuple #[]) ∧ WkE w' L p (trnM m (-1)) ∧ Below L w w' := by
  obtain ⟨e2, e3, b0, b1, n0, n12, n2, n3, n4, p0, p1, p2, d1, d2, d3⟩ := macB_facts hm
  obtain ⟨P, hP⟩ := Int.eq_ofNat_of_zero_le p0
  obtain ⟨l1, h1, l2, h2, l3, h3, o1, o2, o3, s⟩ := hk.ex
  have bx := hk.bx
  have hlp := hk.lp
  have hpl := bx.lt
  have HT := Lib.hid (trn_abv m (-1) P hP e2 e3)
  obtain ⟨X2, hX2⟩ : ∃ X, X = movZ m.b1 m.z2 (-valR m.b1 (abvL m.z2.length P m.z1)) := ⟨_, rfl⟩
  obtain ⟨t2, ht2⟩ : ∃ X, X = movO m.b1 m.z2 (-valR m.b1 (abvL m.z2.length P m.z1)) := ⟨_, rfl⟩
  obtain ⟨X3, hX3⟩ : ∃ X, X = movZ m.b1 m.z3 (-valR m.b1 (abvL m.z3.length P [1])) := ⟨_, rfl⟩
  obtain ⟨t3, ht3⟩ : ∃ X, X = movO m.b1 m.z3 (-valR m.b1 (abvL m.z3.length P [1])) := ⟨_, rfl⟩
  replace HT : Hid (trnM m (-1) = (⟨m.b1, m.z1, m.b2, X2, m.b3, X3, m.p⟩, t2)) := Lib.hid (by rw [HT.out, hX2, ht2, hX3]; simp only [Int.neg_mul, Int.one_mul])
  have HX2 := Lib.hid (show X2.length = m.z2.length by rw [hX2]; exact movZ_len _ _ _)
  have HX3 := Lib.hid (show X3.length = m.z3.length by rw [hX3]; exact movZ_len _ _ _)
  have H1 : Hid (∀ v, Below w.heap.size w v → Calls Tryd.prog 183 #[.agg #[.int .i64 m.b1, .slice A1 m.z1.length C1, .int .i64 m.b2, .slice A2 m.z2.length C2, .int .i64 m.b3, .slice A3 m.z3.length C3, .int .i64 m.p], .agg #[.int .i64 m.b2, .slice A2 m.z2.length C2], .slice A1 m.z1.length C1] v fun r w' => ∃ D E, r = .returned (.slice D m.z2.length E) ∧
      Own 2 w' v.heap.size w'.heap.size (.slice D m.z2.length E) (abvL m.z2.length P m.z1) ∧ Below v.heap.size v w') :=
    Lib.hid fun v hb => above_any m A1 C1 A2 C2 A3 C3 m.b2 A2 m.z2.length C2 P A1 C1 m.z1 v hP (o1.rd.below hb) (by omega) n2 n0
  have H2 : Hid (∀ v D E, Below w.heap.size w v → Rd v D (abvL m.z2.length P m.z1) → Calls Tryd.prog 155 #[.slice A2 m.z2.length C2, .slice D m.z2.length E, .int .i64 m.b1] v (RowB X2 t2 m.z2.length v)) :=
    Lib.hid fun v D E hb hd => by
      rw [hX2, ht2]
      exact turnBack_any m.b1 A2 D C2 E m.z2 (abvL m.z2.length P m.z1) v (o2.rd.below hb) hd b0 b1 n2 (abvL_len (by omega)) d2 (abvL_digs (by omega) d1 _ _)
  have HB := Lib.hid (fun (m : Mac) (A1 : Option Addr) (C1 : Nat) (A2 : Option Addr) (C2 : Nat) (A3 : Option Addr) (C3 : Nat) v => mBase_any m A1 C1 A2 C2 A3 C3 v)
  have k0 := kept_all (bx.at_ 0 rfl)
  have k1 := kept_all (bx.at_ 1 rfl)
  have k2 := kept_all (bx.at_ 2 rfl)
  have k3 := kept_all (bx.at_ 3 rfl)
  have k4 := kept_all (bx.at_ 4 rfl)
  have k5 := kept_all (bx.at_ 5 rfl)
  have k6 := kept_all (bx.at_ 6 rfl)
  have HF := Lib.hid (show 2 ≤ m.b1 ∧ m.b1 ≤ 16 ∧ m.z3.length ≤ 16 ∧ P + 1 ≤ m.z3.length ∧ DigsM m.b1 m.z3 from ⟨b0, b1, n4, by omega, d3⟩)
  have HHX3 := Lib.hid hX3
  have HHT3 := Lib.hid ht3
  have HPP := Lib.hid hP
  have e2' := Lib.hid e2
  clear e2 e3 b0 b1 n0 n12 n2 n3 n4 p0 p1 p2 d1 d2 d3 hP hX2 ht2 hX3 ht3 hk hm
  go_enter Tryd.func153, Tryd.ntmps153
  go_upto_region 0 with fail
  refine wp_region_marked (fun w' => Below w.heap.size w w') 38 (by kernel_rfl) ?_
  have hS : Below w.heap.size w w.drew := (Below.refl _ _).drew
  refine wpAnyM_take (i := 0) (v := ?_) rfl (by kernel_rfl) (by kernel_rfl) (by kernel_rfl) (by kernel_rfl) (by kernel_rfl) (fun _ _ _ h => h) hS (.inl ⟨by rfl, ?_⟩) ?_
  rotate_left 1
  · intro w' hS'; go_simp; try with_reducible rfl
  simp only [Act.put, List.setIfInBounds_toArray, List.set_cons_succ, List.set_cons_zero, List.getElem_toArray, List.getElem_cons_zero]
  refine wpAnyM_pure (i := 1) (v := ?_) rfl (by kernel_rfl) (by kernel_rfl) (by kernel_rfl) (by kernel_rfl) (fun _ _ _ h => h) (.inr hS) (.inl ⟨by rfl, ?_⟩) ?_
  rotate_left 1
  · intro w' hS'; go_simp; try with_reducible rfl
  simp only [Act.put, List.setIfInBounds_toArray, List.set_cons_succ, List.set_cons_zero, List.getElem_toArray, List.getElem_cons_succ, List.getElem_cons_zero]
  refine wpAnyM_take (i := 2) (v := ?_) rfl (by kernel_rfl) (by kernel_rfl) (by kernel_rfl) (by kernel_rfl) (by kernel_rfl) (fun _ _ _ h => h) hS (.inl ⟨by rfl, ?_⟩) ?_
  rotate_left 1
  · intro w' hS'; go_simp; try with_reducible rfl
  simp only [Act.put, List.setIfInBounds_toArray, List.set_cons_succ, List.set_cons_zero, List.getElem_toArray, List.getElem_cons_succ, List.getElem_cons_zero]
  refine wpAnyM_take (i := 3) (v := ?_) rfl (by kernel_rfl) (by kernel_rfl) (by kernel_rfl) (by kernel_rfl) (by kernel_rfl) (fun _ _ _ h => h) hS (.inl ⟨by rfl, ?_⟩) ?_
  rotate_left 1
  · intro w' hS'; go_simp; try with_reducible rfl
  simp only [Act.put, List.setIfInBounds_toArray, List.set_cons_succ, List.set_cons_zero, List.getElem_toArray, List.getElem_cons_succ, List.getElem_cons_zero]
  refine wpAnyM_take (i := 4) (v := ?_) rfl (by kernel_rfl) (by kernel_rfl) (by kernel_rfl) (by kernel_rfl) (by kernel_rfl) (fun _ _ _ h => h) hS (.inl ⟨by rfl, ?_⟩) ?_
  rotate_left 1
  · intro w' hS'; go_simp; try with_reducible rfl
  simp only [Act.put, List.setIfInBounds_toArray, List.set_cons_succ, List.set_cons_zero, List.getElem_toArray, List.getElem_cons_succ, List.getElem_cons_zero]
  refine wpAnyM_take (i := 5) (v := ?_) rfl (by kernel_rfl) (by kernel_rfl) (by kernel_rfl) (by kernel_rfl) (by kernel_rfl) (fun _ _ _ h => h) hS (.inl ⟨by rfl, ?_⟩) ?_
  rotate_left 1
  · intro w' hS'; go_simp; try with_reducible rfl
  simp only [Act.put, List.setIfInBounds_toArray, List.set_cons_succ, List.set_cons_zero, List.getElem_toArray, List.getElem_cons_succ, List.getElem_cons_zero]
  refine wpAnyM_take (i := 6) (v := ?_) rfl (by kernel_rfl) (by kernel_rfl) (by kernel_rfl) (by kernel_rfl) (by kernel_rfl) (fun _ _ _ h => h) hS (.inl ⟨by rfl, ?_⟩) ?_
  rotate_left 1
  · intro w' hS'; go_simp; try with_reducible rfl
  simp only [Act.put, List.setIfInBounds_toArray, List.set_cons_succ, List.set_cons_zero, List.getElem_toArray, List.getElem_cons_succ, List.getElem_cons_zero]
  refine wpAnyM_take (i := 7) (v := ?_) rfl (by kernel_rfl) (by kernel_rfl) (by kernel_rfl) (by kernel_rfl) (by kernel_rfl) (fun _ _ _ h => h) hS (.inl ⟨by rfl, ?_⟩) ?_
  rotate_left 1
  · intro w' hS'; go_simp; try with_reducible rfl
  simp only [Act.put, List.setIfInBounds_toArray, List.set_cons_succ, List.set_cons_zero, List.getElem_toArray, List.getElem_cons_succ, List.getElem_cons_zero]
  refine wpAnyM_take (i := 8) (v := ?_) rfl (by kernel_rfl) (by kernel_rfl) (by kernel_rfl) (by kernel_rfl) (by kernel_rfl) (fun _ _ _ h => h) hS (.inl ⟨by rfl, ?_⟩) ?_
  rotate_left 1
  · intro w' hS'; go_simp; try with_reducible rfl
  simp only [Act.put, List.setIfInBounds_toArray, List.set_cons_succ, List.set_cons_zero, List.getElem_toArray, List.getElem_cons_succ, List.getElem_cons_zero]
  refine wpAnyM_take (i := 9) (v := ?_) rfl (by kernel_rfl) (by kernel_rfl) (by kernel_rfl) (by kernel_rfl) (by kernel_rfl) (fun _ _ _ h => h) hS (.inl ⟨by rfl, ?_⟩) ?_
  rotate_left 1
  · intro w' hS'; go_simp; try with_reducible rfl
  simp only [Act.put, List.setIfInBounds_toArray, List.set_cons_succ, List.set_cons_zero, List.getElem_toArray, List.getElem_cons_succ, List.getElem_cons_zero]
  refine wpAnyM_take (i := 10) (v := ?_) rfl (by kernel_rfl) (by kernel_rfl) (by kernel_rfl) (by kernel_rfl) (by kernel_rfl) (fun _ _ _ h => h) hS (.inl ⟨by rfl, ?_⟩) ?_
  rotate_left 1
  · intro w' hS'; go_simp; try with_reducible rfl
  simp only [Act.put, List.setIfInBounds_toArray, List.set_cons_succ, List.set_cons_zero, List.getElem_toArray, List.getElem_cons_succ, List.getElem_cons_zero]
  refine wpAnyM_take (i := 11) (v := ?_) rfl (by kernel_rfl) (by kernel_rfl) (by kernel_rfl) (by kernel_rfl) (by kernel_rfl) (fun _ _ _ h => h) hS (.inl ⟨by rfl, ?_⟩) ?_
  rotate_left 1
  · intro w' hS'; go_simp; try with_reducible rfl
  simp only [Act.put, List.setIfInBounds_toArray, List.set_cons_succ, List.set_cons_zero, List.getElem_toArray, List.getElem_cons_succ, List.getElem_cons_zero]
  refine wpAnyM_take (i := 12) (v := ?_) rfl (by kernel_rfl) (by kernel_rfl) (by kernel_rfl) (by kernel_rfl) (by kernel_rfl) (fun _ _ _ h => h) hS (.inl ⟨by rfl, ?_⟩) ?_
  rotate_left 1
  · intro w' hS'; go_simp; try with_reducible rfl
  simp only [Act.put, List.setIfInBounds_toArray, List.set_cons_succ, List.set_cons_zero, List.getElem_toArray, List.getElem_cons_succ, List.getElem_cons_zero]
  refine wpAnyM_take (i := 13) (v := ?_) rfl (by kernel_rfl) (by kernel_rfl) (by kernel_rfl) (by kernel_rfl) (by kernel_rfl) (fun _ _ _ h => h) hS (.inl ⟨by rfl, ?_⟩) ?_
  rotate_left 1
  · intro w' hS'; go_simp; try with_reducible rfl
  simp only [Act.put, List.setIfInBounds_toArray, List.set_cons_succ, List.set_cons_zero, List.getElem_toArray, List.getElem_cons_succ, List.getElem_cons_zero]
  refine wpAnyM_take (i := 14) (v := ?_) rfl (by kernel_rfl) (by kernel_rfl) (by kernel_rfl) (by kernel_rfl) (by kernel_rfl) (fun _ _ _ h => h) hS (.inl ⟨by rfl, ?_⟩) ?_
  rotate_left 1
  · intro w' hS'; go_simp; try with_reducible rfl
  simp only [Act.put, List.setIfInBounds_toArray, List.set_cons_succ, List.set_cons_zero, List.getElem_toArray, List.getElem_cons_succ, List.getElem_cons_zero]
  refine wpAnyM_take (i := 15) (v := ?_) rfl (by kernel_rfl) (by kernel_rfl) (by kernel_rfl) (by kernel_rfl) (by kernel_rfl) (fun _ _ _ h => h) hS (.inl ⟨by rfl, ?_⟩) ?_
  rotate_left 1
  · intro w' hS'; go_simp; try with_reducible rfl
  simp only [Act.put, List.setIfInBounds_toArray, List.set_cons_succ, List.set_cons_zero, List.getElem_toArray, List.getElem_cons_succ, List.getElem_cons_zero]
  refine wpAnyM_take (i := 16) (v := ?_) rfl (by kernel_rfl) (by kernel_rfl) (by kernel_rfl) (by kernel_rfl) (by kernel_rfl) (fun _ _ _ h => h) hS (.inl ⟨by rfl, ?_⟩) ?_
  rotate_left 1
  · intro w' hS'; go_simp; try with_reducible rfl
  simp only [Act.put, List.setIfInBounds_toArray, List.set_cons_succ, List.set_cons_zero, List.getElem_toArray, List.getElem_cons_succ, List.getElem_cons_zero]
  refine wpAnyM_take (i := 17) (v := ?_) rfl (by kernel_rfl) (by kernel_rfl) (by kernel_rfl) (by kernel_rfl) (by kernel_rfl) (fun _ _ _ h => h) hS (.inl ⟨by rfl, ?_⟩) ?_
  rotate_left 1
  · intro w' hS'; go_simp; try with_reducible rfl
  simp only [Act.put, List.setIfInBounds_toArray, List.set_cons_succ, List.set_cons_zero, List.getElem_toArray, List.getElem_cons_succ, List.getElem_cons_zero]
  refine wpAnyM_take (i := 18) (v := ?_) rfl (by kernel_rfl) (by kernel_rfl) (by kernel_rfl) (by kernel_rfl) (by kernel_rfl) (fun _ _ _ h => h) hS (.inl ⟨by rfl, ?_⟩) ?_
  rotate_left 1
  · intro w' hS'; go_simp; try with_reducible rfl
  simp only [Act.put, List.setIfInBounds_toArray, List.set_cons_succ, List.set_cons_zero, List.getElem_toArray, List.getElem_cons_succ, List.getElem_cons_zero]
  refine wpAnyM_take (i := 19) (v := ?_) rfl (by kernel_rfl) (by kernel_rfl) (by kernel_rfl) (by kernel_rfl) (by kernel_rfl) (fun _ _ _ h => h) hS (.inl ⟨by rfl, ?_⟩) ?_
  rotate_left 1
  · intro w' hS'; go_simp; try with_reducible rfl
  simp only [Act.put, List.setIfInBounds_toArray, List.set_cons_succ, List.set_cons_zero, List.getElem_toArray, List.getElem_cons_succ, List.getElem_cons_zero]
  refine wpAnyM_take (i := 20) (v := ?_) rfl (by kernel_rfl) (by kernel_rfl) (by kernel_rfl) (by kernel_rfl) (by kernel_rfl) (fun _ _ _ h => h) hS (.inl ⟨by rfl, ?_⟩) ?_
  rotate_left 1
  · intro w' hS'; go_simp; try with_reducible rfl
  simp only [Act.put, List.setIfInBounds_toArray, List.set_cons_succ, List.set_cons_zero, List.getElem_toArray, List.getElem_cons_succ, List.getElem_cons_zero]
  refine wpAnyM_take (i := 21) (v := ?_) rfl (by kernel_rfl) (by kernel_rfl) (by kernel_rfl) (by kernel_rfl) (by kernel_rfl) (fun _ _ _ h => h) hS (.inl ⟨by rfl, ?_⟩) ?_
  rotate_left 1
  · intro w' hS'; go_simp; try with_reducible rfl
  simp only [Act.put, List.setIfInBounds_toArray, List.set_cons_succ, List.set_cons_zero, List.getElem_toArray, List.getElem_cons_succ, List.getElem_cons_zero]
  refine wpAnyM_take (i := 22) (v := ?_) rfl (by kernel_rfl) (by kernel_rfl) (by kernel_rfl) (by kernel_rfl) (by kernel_rfl) (fun _ _ _ h => h) hS (.inl ⟨by rfl, ?_⟩) ?_
  rotate_left 1
  · intro w' hS'; go_simp; try with_reducible rfl
  simp only [Act.put, List.setIfInBounds_toArray, List.set_cons_succ, List.set_cons_zero, List.getElem_toArray, List.getElem_cons_succ, List.getElem_cons_zero]
  refine wpAnyM_take (i := 23) (v := ?_) rfl (by kernel_rfl) (by kernel_rfl) (by kernel_rfl) (by kernel_rfl) (by kernel_rfl) (fun _ _ _ h => h) hS (.inl ⟨by rfl, ?_⟩) ?_
  rotate_left 1
  · intro w' hS'; go_simp; try with_reducible rfl
  simp only [Act.put, List.setIfInBounds_toArray, List.set_cons_succ, List.set_cons_zero, List.getElem_toArray, List.getElem_cons_succ, List.getElem_cons_zero]
  refine wpAnyM_take (i := 25) (v := ?_) rfl (by kernel_rfl) (by kernel_rfl) (by kernel_rfl) (by kernel_rfl) (by kernel_rfl) (fun _ _ _ h => h) hS (.inl ⟨by rfl, ?_⟩) ?_
  rotate_left 1
  · intro w' hS'; go_simp; try with_reducible rfl
  simp only [Act.put, List.setIfInBounds_toArray, List.set_cons_succ, List.set_cons_zero, List.getElem_toArray, List.getElem_cons_succ, List.getElem_cons_zero]
  refine wpAnyM_take (i := 26) (v := ?_) rfl (by kernel_rfl) (by kernel_rfl) (by kernel_rfl) (by kernel_rfl) (by kernel_rfl) (fun _ _ _ h => h) hS (.inl ⟨by rfl, ?_⟩) ?_
  rotate_left 1
  · intro w' hS'; go_simp; try with_reducible rfl
  simp only [Act.put, List.setIfInBounds_toArray, List.set_cons_succ, List.set_cons_zero, List.getElem_toArray, List.getElem_cons_succ, List.getElem_cons_zero]
  refine wpAnyM_take (i := 27) (v := ?_) rfl (by kernel_rfl) (by kernel_rfl) (by kernel_rfl) (by kernel_rfl) (by kernel_rfl) (fun _ _ _ h => h) hS (.inl ⟨by rfl, ?_⟩) ?_
  rotate_left 1
  · intro w' hS'; go_simp; try with_reducible rfl
  simp only [Act.put, List.setIfInBounds_toArray, List.set_cons_succ, List.set_cons_zero, List.getElem_toArray, List.getElem_cons_succ, List.getElem_cons_zero]
  refine wpAnyM_take (i := 28) (v := ?_) rfl (by kernel_rfl) (by kernel_rfl) (by kernel_rfl) (by kernel_rfl) (by kernel_rfl) (fun _ _ _ h => h) hS (.inl ⟨by rfl, ?_⟩) ?_
  rotate_left 1
  · intro w' hS'; go_simp; try with_reducible rfl
  simp only [Act.put, List.setIfInBounds_toArray, List.set_cons_succ, List.set_cons_zero, List.getElem_toArray, List.getElem_cons_succ, List.getElem_cons_zero]
  clear k0 k1 k2 k3 k4 k5 k6
  refine wpAnyM_one (i := 24) (by kernel_rfl) rfl (by rfl) (fun K hK => ?_)
  go_simp
  refine (H1.out w.drew hS).mono ?_
  rintro e w1 ⟨D, E, rfl, oD, hb⟩
  have hq1 : w.heap.size ≤ w1.heap.size := hb.size
  have hS1 : Below w.heap.size w w1 := hS.trans hb
  replace oD : Own 2 w1 w.heap.size w1.heap.size (.slice D m.z2.length E) (abvL m.z2.length P m.z1) := oD
  clear hb
  refine hK _ _ (.inr hS1) ?_
  try simp only [Act.put, List.setIfInBounds_toArray, List.set_cons_succ, List.set_cons_zero, List.getElem_toArray, List.getElem_cons_succ, List.getElem_cons_zero]
  clear hK K
  refine wpAnyM_one (i := 29) (by kernel_rfl) rfl (by rfl) (fun K hK => ?_)
  go_simp
  refine (HB.out m A1 C1 A2 C2 A3 C3 w1).mono ?_
  rintro e w2 ⟨rfl, hb⟩
  have hq2 := hb.size
  have hS2 : Below w.heap.size w w2 := hS1.trans (hb.mono hq1)
  replace oD := oD.below hb
  clear hb
  refine hK _ _ (.inr hS2) ?_
  try simp only [Act.put, List.setIfInBounds_toArray, List.set_cons_succ, List.set_cons_zero, List.getElem_toArray, List.getElem_cons_succ, List.getElem_cons_zero]
  clear hK K
  refine wpAnyM_one (i := 30) (by kernel_rfl) rfl (by rfl) (fun K hK => ?_)
  go_simp
  refine (H2.out w2 D E hS2 oD.rd).mono ?_
  rintro e w3 ⟨F, G, rfl, oF, hb⟩
  have hq3 := hb.size
  have hS3 : Below w.heap.size w w3 := hS2.trans (hb.mono hS2.size)
  clear hb oD
  refine hK _ _ (.inr hS3) ?_
  try simp only [Act.put, List.setIfInBounds_toArray, List.set_cons_succ, List.set_cons_zero, List.getElem_toArray, List.getElem_cons_succ, List.getElem_cons_zero]
  clear hK K
  refine wpAnyM_take (i := 31) (v := ?_) rfl (by kernel_rfl) (by kernel_rfl) (by kernel_rfl) (by kernel_rfl) (by kernel_rfl) (fun _ _ _ h => h) hS3 (.inl ⟨by rfl, ?_⟩) ?_
  rotate_left 1
  · intro w' hS'; go_simp; try with_reducible rfl
  simp only [Act.put, List.setIfInBounds_toArray, List.set_cons_succ, List.set_cons_zero, List.getElem_toArray, List.getElem_cons_succ, List.getElem_cons_zero]
  refine wpAnyM_take (i := 32) (v := ?_) rfl (by kernel_rfl) (by kernel_rfl) (by kernel_rfl) (by kernel_rfl) (by kernel_rfl) (fun _ _ _ h => h) hS3 (.inl ⟨by rfl, ?_⟩) ?_
  rotate_left 1
  · intro w' hS'; go_simp; try with_reducible rfl
  simp only [Act.put, List.setIfInBounds_toArray, List.set_cons_succ, List.set_cons_zero, List.getElem_toArray, List.getElem_cons_succ, List.getElem_cons_zero]
  refine wpAnyM_pure (i := 33) (v := ?_) rfl (by kernel_rfl) (by kernel_rfl) (by kernel_rfl) (by kernel_rfl) (fun _ _ _ h => h) (.inr hS3) (.inl ⟨by rfl, ?_⟩) ?_
  rotate_left 1
  · intro w' hS'; go_simp; try with_reducible rfl
  simp only [Act.put, List.setIfInBounds_toArray, List.set_cons_succ, List.set_cons_zero, List.getElem_toArray, List.getElem_cons_succ, List.getElem_cons_zero]
  refine wpAnyM_pure (i := 34) (v := ?_) rfl (by kernel_rfl) (by kernel_rfl) (by kernel_rfl) (by kernel_rfl) (fun _ _ _ h => h) (.inr hS3) (.inl ⟨by rfl, ?_⟩) ?_
  rotate_left 1
  · intro w' hS'; go_simp; try with_reducible rfl
  simp only [Act.put, List.setIfInBounds_toArray, List.set_cons_succ, List.set_cons_zero, List.getElem_toArray, List.getElem_cons_succ, List.getElem_cons_zero]
  refine wpAnyM_pure (i := 35) (v := ?_) rfl (by kernel_rfl) (by kernel_rfl) (by kernel_rfl) (by kernel_rfl) (fun _ _ _ h => h) (.inr hS3) (.inl ⟨by rfl, ?_⟩) ?_
  rotate_left 1
  · intro w' hS'; go_simp; try with_reducible rfl
  simp only [Act.put, List.setIfInBounds_toArray, List.set_cons_succ, List.set_cons_zero, List.getElem_toArray, List.getElem_cons_succ, List.getElem_cons_zero]
  refine wpAnyM_pure (i := 36) (v := ?_) rfl (by kernel_rfl) (by kernel_rfl) (by kernel_rfl) (by kernel_rfl) (fun _ _ _ h => h) (.inr hS3) (.inl ⟨by rfl, ?_⟩) ?_
  rotate_left 1
  · intro w' hS'; go_simp; try with_reducible rfl
  simp only [Act.put, List.setIfInBounds_toArray, List.set_cons_succ, List.set_cons_zero, List.getElem_toArray, List.getElem_cons_succ, List.getElem_cons_zero]
  refine wpAnyM_pure (i := 37) (v := ?_) rfl (by kernel_rfl) (by kernel_rfl) (by kernel_rfl) (by kernel_rfl) (fun _ _ _ h => h) (.inr hS3) (.inl ⟨by rfl, ?_⟩) ?_
  rotate_left 1
  · intro w' hS'; go_simp; try with_reducible rfl
  simp only [Act.put, List.setIfInBounds_toArray, List.set_cons_succ, List.set_cons_zero, List.getElem_toArray, List.getElem_cons_succ, List.getElem_cons_zero]
  replace bx := bx.below hS3
  have c3 := bx.at_ 3 rfl
  have f3 := bx.thaw 3
  have c7 := bx.at_ 7 rfl
  have f7 := bx.thaw 7
  refine wpAnyM_one (i := 38) (by kernel_rfl) rfl (by rfl) (fun K hK => ?_)
  go_simp
  obtain ⟨w4, hw4⟩ : ∃ v, v = w3.setCell ⟨p, 3, none⟩ (.slice F m.z2.length G) := ⟨_, rfl⟩
  rw [← hw4]
  have bx4 : Bx w4 p 103 #[.int .i64 m.b1, .slice A1 m.z1.length C1, .int .i64 m.b2, .slice F m.z2.length G, .int .i64 m.b3, .slice A3 m.z3.length C3, .int .i64 m.p, .bool t] := by rw [hw4]; exact bx.set_ 3 _
  have ht4 : Touch p (p + 1) w3 w4 := by rw [hw4]; exact (Touch.refl _ _ _).setCell (by simp) (by simp) _
  refine hK _ _ (.inl rfl) ?_
  try simp only [Act.put, List.setIfInBounds_toArray, List.set_cons_succ, List.set_cons_zero, List.getElem_toArray, List.getElem_cons_succ, List.getElem_cons_zero]
  clear hK K hw4 c3 f3 c7 f7
  refine wpAnyM_pure (i := 39) (v := ?_) rfl (by kernel_rfl) (by kernel_rfl) (by kernel_rfl) (by kernel_rfl) (fun _ _ _ h => h) (.inl rfl) (.inl ⟨by rfl, ?_⟩) ?_
  rotate_left 1
  · intro w' hS'; go_simp; try with_reducible rfl
  simp only [Act.put, List.setIfInBounds_toArray, List.set_cons_succ, List.set_cons_zero, List.getElem_toArray, List.getElem_cons_succ, List.getElem_cons_zero]
  refine wpAnyM_pure (i := 40) (v := ?_) rfl (by kernel_rfl) (by kernel_rfl) (by kernel_rfl) (by kernel_rfl) (fun _ _ _ h => h) (.inl rfl) (.inl ⟨by rfl, ?_⟩) ?_
  rotate_left 1
  · intro w' hS'; go_simp; try with_reducible rfl
  simp only [Act.put, List.setIfInBounds_toArray, List.set_cons_succ, List.set_cons_zero, List.getElem_toArray, List.getElem_cons_succ, List.getElem_cons_zero]
  have c7 := bx4.at_ 7 rfl
  have f7 := bx4.thaw 7
  refine wpAnyM_one (i := 41) (by kernel_rfl) rfl (by rfl) (fun K hK => ?_)
  go_simp
  obtain ⟨w5, hw5⟩ : ∃ v, v = w4.setCell ⟨p, 7, none⟩ (.bool t2) := ⟨_, rfl⟩
  rw [← hw5]
  have bx5 : Bx w5 p 103 #[.int .i64 m.b1, .slice A1 m.z1.length C1, .int .i64 m.b2, .slice F m.z2.length G, .int .i64 m.b3, .slice A3 m.z3.length C3, .int .i64 m.p, .bool t2] := by rw [hw5]; exact bx4.set_ 7 _
  have ht5 : Touch p (p + 1) w4 w5 := by rw [hw5]; exact (Touch.refl _ _ _).setCell (by simp) (by simp) _
  replace ht5 := ht4.trans ht5
  refine hK _ _ (.inl rfl) ?_
  try simp only [Act.put, List.setIfInBounds_toArray, List.set_cons_succ, List.set_cons_zero, List.getElem_toArray, List.getElem_cons_succ, List.getElem_cons_zero]
  clear hK K hw5 c7 f7 bx4 bx ht4
  refine wpAnyM_done (by kernel_rfl) ?_ _
  replace o1 := (o1.below hS3).touch ht5 (by omega)
  replace o3 := (o3.below hS3).touch ht5 (by omega)
  replace oF := oF.touch ht5 (by omega)
  have hq5 := ht5.size
  have hbL : Below L w w5 := (hS3.mono (by omega)).trans (ht5.below hlp (by omega))
  have hs2 := hS2.size
  clear o2 hS hS1 hS2 hS3 ht5 H1 H2
  have k0 := kept_all (bx5.at_ 0 rfl)
  have k1 := kept_all (bx5.at_ 1 rfl)
  have k2 := kept_all (bx5.at_ 2 rfl)
  have k3 := kept_all (bx5.at_ 3 rfl)
  have k4 := kept_all (bx5.at_ 4 rfl)
  have k5 := kept_all (bx5.at_ 5 rfl)
  have k6 := kept_all (bx5.at_ 6 rfl)
  have hF := HF.out
  have hP := HPP.out
  have H1 : Hid (∀ v d e, Below w5.heap.size w5 v → Rd v d [1] → Calls Tryd.prog 183 #[.agg #[.int .i64 m.b1, .slice A1 m.z1.length C1, .int .i64 m.b2, .slice F m.z2.length G, .int .i64 m.b3, .slice A3 m.z3.length C3, .int .i64 m.p], .agg #[.int .i64 m.b3, .slice A3 m.z3.length C3], .slice d 1 e] v fun r w' => ∃ D E, r = .returned (.slice D m.z3.length E) ∧
      Own 2 w' v.heap.size w'.heap.size (.slice D m.z3.length E) (abvL m.z3.length P [1]) ∧ Below v.heap.size v w') :=
    Lib.hid fun v d e _ hd => above_any m A1 C1 F G A3 C3 m.b3 A3 m.z3.length C3 P d e [1] v hP hd (by simpa using hF.2.2.2.1) hF.2.2.1 (by simp)
  have H2 : Hid (∀ v D E, Below w5.heap.size w5 v → Rd v D (abvL m.z3.length P [1]) → Calls Tryd.prog 155 #[.slice A3 m.z3.length C3, .slice D m.z3.length E, .int .i64 m.b1] v (RowB X3 t3 m.z3.length v)) :=
    Lib.hid fun v D E hb hd => by
      rw [HHX3.out, HHT3.out]
      exact turnBack_any m.b1 A3 D C3 E m.z3 (abvL m.z3.length P [1]) v (o3.rd.below hb) hd hF.1 hF.2.1 hF.2.2.1 (abvL_len (by simpa using hF.2.2.2.1)) hF.2.2.2.2 (abvL_digs (by omega) (fun d hd => by simp at hd; subst hd; omega) _ _)
  clear hF hP
  go_upto_region 1 with fail
  refine wp_region_marked (fun w' => Below w5.heap.size w5 w') 32 (by kernel_rfl) ?_
  have hS : Below w5.heap.size w5 w5.drew := (Below.refl _ _).drew
  refine wpAnyM_take (i := 0) (v := ?_) rfl (by kernel_rfl) (by kernel_rfl) (by kernel_rfl) (by kernel_rfl) (by kernel_rfl) (fun _ _ _ h => h) hS (.inl ⟨by rfl, ?_⟩) ?_
  rotate_left 1
  · intro w' hS'; go_simp; try with_reducible rfl
  simp only [Act.put, List.setIfInBounds_toArray, List.set_cons_succ, List.set_cons_zero, List.getElem_toArray, List.getElem_cons_zero]
  refine wpAnyM_take (i := 1) (v := ?_) rfl (by kernel_rfl) (by kernel_rfl) (by kernel_rfl) (by kernel_rfl) (by kernel_rfl) (fun _ _ _ h => h) hS (.inl ⟨by rfl, ?_⟩) ?_
  rotate_left 1
  · intro w' hS'; go_simp; try with_reducible rfl
  simp only [Act.put, List.setIfInBounds_toArray, List.set_cons_succ, List.set_cons_zero, List.getElem_toArray, List.getElem_cons_succ, List.getElem_cons_zero]
  refine wpAnyM_take (i := 2) (v := ?_) rfl (by kernel_rfl) (by kernel_rfl) (by kernel_rfl) (by kernel_rfl) (by kernel_rfl) (fun _ _ _ h => h) hS (.inl ⟨by rfl, ?_⟩) ?_
  rotate_left 1
  · intro w' hS'; go_simp; try with_reducible rfl
  simp only [Act.put, List.setIfInBounds_toArray, List.set_cons_succ, List.set_cons_zero, List.getElem_toArray, List.getElem_cons_succ, List.getElem_cons_zero]
  refine wpAnyM_take (i := 3) (v := ?_) rfl (by kernel_rfl) (by kernel_rfl) (by kernel_rfl) (by kernel_rfl) (by kernel_rfl) (fun _ _ _ h => h) hS (.inl ⟨by rfl, ?_⟩) ?_
  rotate_left 1
  · intro w' hS'; go_simp; try with_reducible rfl
  simp only [Act.put, List.setIfInBounds_toArray, List.set_cons_succ, List.set_cons_zero, List.getElem_toArray, List.getElem_cons_succ, List.getElem_cons_zero]
  refine wpAnyM_take (i := 4) (v := ?_) rfl (by kernel_rfl) (by kernel_rfl) (by kernel_rfl) (by kernel_rfl) (by kernel_rfl) (fun _ _ _ h => h) hS (.inl ⟨by rfl, ?_⟩) ?_
  rotate_left 1
  · intro w' hS'; go_simp; try with_reducible rfl
  simp only [Act.put, List.setIfInBounds_toArray, List.set_cons_succ, List.set_cons_zero, List.getElem_toArray, List.getElem_cons_succ, List.getElem_cons_zero]
  refine wpAnyM_take (i := 5) (v := ?_) rfl (by kernel_rfl) (by kernel_rfl) (by kernel_rfl) (by kernel_rfl) (by kernel_rfl) (fun _ _ _ h => h) hS (.inl ⟨by rfl, ?_⟩) ?_
  rotate_left 1
  · intro w' hS'; go_simp; try with_reducible rfl
  simp only [Act.put, List.setIfInBounds_toArray, List.set_cons_succ, List.set_cons_zero, List.getElem_toArray, List.getElem_cons_succ, List.getElem_cons_zero]
  refine wpAnyM_take (i := 6) (v := ?_) rfl (by kernel_rfl) (by kernel_rfl) (by kernel_rfl) (by kernel_rfl) (by kernel_rfl) (fun _ _ _ h => h) hS (.inl ⟨by rfl, ?_⟩) ?_
  rotate_left 1
  · intro w' hS'; go_simp; try with_reducible rfl
  simp only [Act.put, List.setIfInBounds_toArray, List.set_cons_succ, List.set_cons_zero, List.getElem_toArray, List.getElem_cons_succ, List.getElem_cons_zero]
  refine wpAnyM_take (i := 7) (v := ?_) rfl (by kernel_rfl) (by kernel_rfl) (by kernel_rfl) (by kernel_rfl) (by kernel_rfl) (fun _ _ _ h => h) hS (.inl ⟨by rfl, ?_⟩) ?_
  rotate_left 1
  · intro w' hS'; go_simp; try with_reducible rfl
  simp only [Act.put, List.setIfInBounds_toArray, List.set_cons_succ, List.set_cons_zero, List.getElem_toArray, List.getElem_cons_succ, List.getElem_cons_zero]
  refine wpAnyM_take (i := 8) (v := ?_) rfl (by kernel_rfl) (by kernel_rfl) (by kernel_rfl) (by kernel_rfl) (by kernel_rfl) (fun _ _ _ h => h) hS (.inl ⟨by rfl, ?_⟩) ?_
  rotate_left 1
  · intro w' hS'; go_simp; try with_reducible rfl
  simp only [Act.put, List.setIfInBounds_toArray, List.set_cons_succ, List.set_cons_zero, List.getElem_toArray, List.getElem_cons_succ, List.getElem_cons_zero]
  refine wpAnyM_take (i := 9) (v := ?_) rfl (by kernel_rfl) (by kernel_rfl) (by kernel_rfl) (by kernel_rfl) (by kernel_rfl) (fun _ _ _ h => h) hS (.inl ⟨by rfl, ?_⟩) ?_
  rotate_left 1
  · intro w' hS'; go_simp; try with_reducible rfl
  simp only [Act.put, List.setIfInBounds_toArray, List.set_cons_succ, List.set_cons_zero, List.getElem_toArray, List.getElem_cons_succ, List.getElem_cons_zero]
  refine wpAnyM_take (i := 10) (v := ?_) rfl (by kernel_rfl) (by kernel_rfl) (by kernel_rfl) (by kernel_rfl) (by kernel_rfl) (fun _ _ _ h => h) hS (.inl ⟨by rfl, ?_⟩) ?_
  rotate_left 1
  · intro w' hS'; go_simp; try with_reducible rfl
  simp only [Act.put, List.setIfInBounds_toArray, List.set_cons_succ, List.set_cons_zero, List.getElem_toArray, List.getElem_cons_succ, List.getElem_cons_zero]
  refine wpAnyM_take (i := 11) (v := ?_) rfl (by kernel_rfl) (by kernel_rfl) (by kernel_rfl) (by kernel_rfl) (by kernel_rfl) (fun _ _ _ h => h) hS (.inl ⟨by rfl, ?_⟩) ?_
  rotate_left 1
  · intro w' hS'; go_simp; try with_reducible rfl
  simp only [Act.put, List.setIfInBounds_toArray, List.set_cons_succ, List.set_cons_zero, List.getElem_toArray, List.getElem_cons_succ, List.getElem_cons_zero]
  refine wpAnyM_take (i := 12) (v := ?_) rfl (by kernel_rfl) (by kernel_rfl) (by kernel_rfl) (by kernel_rfl) (by kernel_rfl) (fun _ _ _ h => h) hS (.inl ⟨by rfl, ?_⟩) ?_
  rotate_left 1
  · intro w' hS'; go_simp; try with_reducible rfl
  simp only [Act.put, List.setIfInBounds_toArray, List.set_cons_succ, List.set_cons_zero, List.getElem_toArray, List.getElem_cons_succ, List.getElem_cons_zero]
  refine wpAnyM_take (i := 13) (v := ?_) rfl (by kernel_rfl) (by kernel_rfl) (by kernel_rfl) (by kernel_rfl) (by kernel_rfl) (fun _ _ _ h => h) hS (.inl ⟨by rfl, ?_⟩) ?_
  rotate_left 1
  · intro w' hS'; go_simp; try with_reducible rfl
  simp only [Act.put, List.setIfInBounds_toArray, List.set_cons_succ, List.set_cons_zero, List.getElem_toArray, List.getElem_cons_succ, List.getElem_cons_zero]
  refine wpAnyM_take (i := 14) (v := ?_) rfl (by kernel_rfl) (by kernel_rfl) (by kernel_rfl) (by kernel_rfl) (by kernel_rfl) (fun _ _ _ h => h) hS (.inl ⟨by rfl, ?_⟩) ?_
  rotate_left 1
  · intro w' hS'; go_simp; try with_reducible rfl
  simp only [Act.put, List.setIfInBounds_toArray, List.set_cons_succ, List.set_cons_zero, List.getElem_toArray, List.getElem_cons_succ, List.getElem_cons_zero]
  refine wpAnyM_take (i := 15) (v := ?_) rfl (by kernel_rfl) (by kernel_rfl) (by kernel_rfl) (by kernel_rfl) (by kernel_rfl) (fun _ _ _ h => h) hS (.inl ⟨by rfl, ?_⟩) ?_
  rotate_left 1
  · intro w' hS'; go_simp; try with_reducible rfl
  simp only [Act.put, List.setIfInBounds_toArray, List.set_cons_succ, List.set_cons_zero, List.getElem_toArray, List.getElem_cons_succ, List.getElem_cons_zero]
  refine wpAnyM_take (i := 16) (v := ?_) rfl (by kernel_rfl) (by kernel_rfl) (by kernel_rfl) (by kernel_rfl) (by kernel_rfl) (fun _ _ _ h => h) hS (.inl ⟨by rfl, ?_⟩) ?_
  rotate_left 1
  · intro w' hS'; go_simp; try with_reducible rfl
  simp only [Act.put, List.setIfInBounds_toArray, List.set_cons_succ, List.set_cons_zero, List.getElem_toArray, List.getElem_cons_succ, List.getElem_cons_zero]
  refine wpAnyM_take (i := 19) (v := ?_) rfl (by kernel_rfl) (by kernel_rfl) (by kernel_rfl) (by kernel_rfl) (by kernel_rfl) (fun _ _ _ h => h) hS (.inl ⟨by rfl, ?_⟩) ?_
  rotate_left 1
  · intro w' hS'; go_simp; try with_reducible rfl
  simp only [Act.put, List.setIfInBounds_toArray, List.set_cons_succ, List.set_cons_zero, List.getElem_toArray, List.getElem_cons_succ, List.getElem_cons_zero]
  refine wpAnyM_take (i := 20) (v := ?_) rfl (by kernel_rfl) (by kernel_rfl) (by kernel_rfl) (by kernel_rfl) (by kernel_rfl) (fun _ _ _ h => h) hS (.inl ⟨by rfl, ?_⟩) ?_
  rotate_left 1
  · intro w' hS'; go_simp; try with_reducible rfl
  simp only [Act.put, List.setIfInBounds_toArray, List.set_cons_succ, List.set_cons_zero, List.getElem_toArray, List.getElem_cons_succ, List.getElem_cons_zero]
  refine wpAnyM_take (i := 21) (v := ?_) rfl (by kernel_rfl) (by kernel_rfl) (by kernel_rfl) (by kernel_rfl) (by kernel_rfl) (fun _ _ _ h => h) hS (.inl ⟨by rfl, ?_⟩) ?_
  rotate_left 1
  · intro w' hS'; go_simp; try with_reducible rfl
  simp only [Act.put, List.setIfInBounds_toArray, List.set_cons_succ, List.set_cons_zero, List.getElem_toArray, List.getElem_cons_succ, List.getElem_cons_zero]
  refine wpAnyM_take (i := 22) (v := ?_) rfl (by kernel_rfl) (by kernel_rfl) (by kernel_rfl) (by kernel_rfl) (by kernel_rfl) (fun _ _ _ h => h) hS (.inl ⟨by rfl, ?_⟩) ?_
  rotate_left 1
  · intro w' hS'; go_simp; try with_reducible rfl
  simp only [Act.put, List.setIfInBounds_toArray, List.set_cons_succ, List.set_cons_zero, List.getElem_toArray, List.getElem_cons_succ, List.getElem_cons_zero]
  clear k0 k1 k2 k3 k4 k5 k6
  refine wpAnyM_one (i := 17) (by kernel_rfl) rfl (by rfl) (fun K hK => ?_)
  go_simp
  obtain ⟨c, hc⟩ : ∃ c, c = w5.heap.size := ⟨_, rfl⟩
  obtain ⟨w6, hw6⟩ : ∃ v, v = w5.drew.alloc (.cells #[.int .i64 1] 2) := ⟨_, rfl⟩
  have hdig : Rd w6 (some ⟨c, 0, none⟩) [1] := by rw [hw6, hc]; exact rd_new1 w5.drew 1 _
  have hS6 : Below w5.heap.size w5 w6 := by rw [hw6]; exact hS.alloc (Nat.le_refl _) _
  first | rw [← hw6] | (rw [show (w5.alloc (.cells #[.int .i64 1] 2)).drew = w6 from hw6.symm])
  try rw [← hc]
  have hq6 := hS6.size
  clear hw6 hc
  refine hK _ _ (.inr hS6) ?_
  try simp only [Act.put, List.setIfInBounds_toArray, List.set_cons_succ, List.set_cons_zero, List.getElem_toArray, List.getElem_cons_succ, List.getElem_cons_zero]
  clear hK K
  refine wpAnyM_one (i := 18) (by kernel_rfl) rfl (by rfl) (fun K hK => ?_)
  go_simp
  refine (H1.out w6 _ _ hS6 hdig).mono ?_
  rintro e w7 ⟨D, E, rfl, oD, hb⟩
  have hq7 := hb.size
  have hS7 : Below w5.heap.size w5 w7 := hS6.trans (hb.mono hq6)
  clear hb
  refine hK _ _ (.inr hS7) ?_
  try simp only [Act.put, List.setIfInBounds_toArray, List.set_cons_succ, List.set_cons_zero, List.getElem_toArray, List.getElem_cons_succ, List.getElem_cons_zero]
  clear hK K
  refine wpAnyM_one (i := 23) (by kernel_rfl) rfl (by rfl) (fun K hK => ?_)
  go_simp
  refine (HB.out m A1 C1 F G A3 C3 w7).mono ?_
  rintro e w8 ⟨rfl, hb⟩
  have hq8 := hb.size
  have hS8 : Below w5.heap.size w5 w8 := hS7.trans (hb.mono hS7.size)
  replace oD := oD.below hb
  clear hb
  refine hK _ _ (.inr hS8) ?_
  try simp only [Act.put, List.setIfInBounds_toArray, List.set_cons_succ, List.set_cons_zero, List.getElem_toArray, List.getElem_cons_succ, List.getElem_cons_zero]
  clear hK K
  refine wpAnyM_one (i := 24) (by kernel_rfl) rfl (by rfl) (fun K hK => ?_)
  go_simp
  refine (H2.out w8 D E hS8 oD.rd).mono ?_
  rintro e w9 ⟨M, N, rfl, oM, hb⟩
  have hq9 := hb.size
  have hS9 : Below w5.heap.size w5 w9 := hS8.trans (hb.mono hS8.size)
  clear hb oD
  refine hK _ _ (.inr hS9) ?_
  try simp only [Act.put, List.setIfInBounds_toArray, List.set_cons_succ, List.set_cons_zero, List.getElem_toArray, List.getElem_cons_succ, List.getElem_cons_zero]
  clear hK K
  refine wpAnyM_take (i := 25) (v := ?_) rfl (by kernel_rfl) (by kernel_rfl) (by kernel_rfl) (by kernel_rfl) (by kernel_rfl) (fun _ _ _ h => h) hS9 (.inl ⟨by rfl, ?_⟩) ?_
  rotate_left 1
  · intro w' hS'; go_simp; try with_reducible rfl
  simp only [Act.put, List.setIfInBounds_toArray, List.set_cons_succ, List.set_cons_zero, List.getElem_toArray, List.getElem_cons_succ, List.getElem_cons_zero]
  refine wpAnyM_take (i := 26) (v := ?_) rfl (by kernel_rfl) (by kernel_rfl) (by kernel_rfl) (by kernel_rfl) (by kernel_rfl) (fun _ _ _ h => h) hS9 (.inl ⟨by rfl, ?_⟩) ?_
  rotate_left 1
  · intro w' hS'; go_simp; try with_reducible rfl
  simp only [Act.put, List.setIfInBounds_toArray, List.set_cons_succ, List.set_cons_zero, List.getElem_toArray, List.getElem_cons_succ, List.getElem_cons_zero]
  refine wpAnyM_pure (i := 27) (v := ?_) rfl (by kernel_rfl) (by kernel_rfl) (by kernel_rfl) (by kernel_rfl) (fun _ _ _ h => h) (.inr hS9) (.inl ⟨by rfl, ?_⟩) ?_
  rotate_left 1
  · intro w' hS'; go_simp; try with_reducible rfl
  simp only [Act.put, List.setIfInBounds_toArray, List.set_cons_succ, List.set_cons_zero, List.getElem_toArray, List.getElem_cons_succ, List.getElem_cons_zero]
  refine wpAnyM_pure (i := 28) (v := ?_) rfl (by kernel_rfl) (by kernel_rfl) (by kernel_rfl) (by kernel_rfl) (fun _ _ _ h => h) (.inr hS9) (.inl ⟨by rfl, ?_⟩) ?_
  rotate_left 1
  · intro w' hS'; go_simp; try with_reducible rfl
  simp only [Act.put, List.setIfInBounds_toArray, List.set_cons_succ, List.set_cons_zero, List.getElem_toArray, List.getElem_cons_succ, List.getElem_cons_zero]
  refine wpAnyM_pure (i := 29) (v := ?_) rfl (by kernel_rfl) (by kernel_rfl) (by kernel_rfl) (by kernel_rfl) (fun _ _ _ h => h) (.inr hS9) (.inl ⟨by rfl, ?_⟩) ?_
  rotate_left 1
  · intro w' hS'; go_simp; try with_reducible rfl
  simp only [Act.put, List.setIfInBounds_toArray, List.set_cons_succ, List.set_cons_zero, List.getElem_toArray, List.getElem_cons_succ, List.getElem_cons_zero]
  refine wpAnyM_pure (i := 30) (v := ?_) rfl (by kernel_rfl) (by kernel_rfl) (by kernel_rfl) (by kernel_rfl) (fun _ _ _ h => h) (.inr hS9) (.inl ⟨by rfl, ?_⟩) ?_
  rotate_left 1
  · intro w' hS'; go_simp; try with_reducible rfl
  simp only [Act.put, List.setIfInBounds_toArray, List.set_cons_succ, List.set_cons_zero, List.getElem_toArray, List.getElem_cons_succ, List.getElem_cons_zero]
  refine wpAnyM_pure (i := 31) (v := ?_) rfl (by kernel_rfl) (by kernel_rfl) (by kernel_rfl) (by kernel_rfl) (fun _ _ _ h => h) (.inr hS9) (.inl ⟨by rfl, ?_⟩) ?_
  rotate_left 1
  · intro w' hS'; go_simp; try with_reducible rfl
  simp only [Act.put, List.setIfInBounds_toArray, List.set_cons_succ, List.set_cons_zero, List.getElem_toArray, List.getElem_cons_succ, List.getElem_cons_zero]
  replace bx5 := bx5.below hS9
  have c5 := bx5.at_ 5 rfl
  have f5 := bx5.thaw 5
  refine wpAnyM_one (i := 32) (by kernel_rfl) rfl (by rfl) (fun K hK => ?_)
  go_simp
  obtain ⟨v4, hw4⟩ : ∃ v, v = w9.setCell ⟨p, 5, none⟩ (.slice M m.z3.length N) := ⟨_, rfl⟩
  rw [← hw4]
  have bx6 : Bx v4 p 103 #[.int .i64 m.b1, .slice A1 m.z1.length C1, .int .i64 m.b2, .slice F m.z2.length G, .int .i64 m.b3, .slice M m.z3.length N, .int .i64 m.p, .bool t2] := by rw [hw4]; exact bx5.set_ 5 _
  have ht4 : Touch p (p + 1) w9 v4 := by rw [hw4]; exact (Touch.refl _ _ _).setCell (by simp) (by simp) _
  refine hK _ _ (.inl rfl) ?_
  try simp only [Act.put, List.setIfInBounds_toArray, List.set_cons_succ, List.set_cons_zero, List.getElem_toArray, List.getElem_cons_succ, List.getElem_cons_zero]
  clear hK K hw4 c5 f5 bx5
  refine wpAnyM_done (by kernel_rfl) ?_ _
  have hsz5 : w3.heap.size ≤ w5.heap.size := hq5
  have hs8 := hS8.size
  replace o1 := (o1.below hS9).touch ht4 (by omega)
  replace oF := (oF.below hS9).touch ht4 (by omega)
  replace oM := oM.touch ht4 (by omega)
  have hq10 := ht4.size
  have hbF : Below L w v4 := (hbL.trans (hS9.mono (by omega))).trans (ht4.below hlp (by omega))
  have HW : Hid (WkE v4 L p (trnM m (-1))) := Lib.hid (by
    rw [HT.out]
    refine ⟨A1, C1, F, G, M, N, ?_, hlp, l1, h1, _, _, _, _, o1, by rw [HX2.out]; exact oF, by rw [HX3.out]; exact oM, ?_⟩
    · rw [HX2.out, HX3.out]; exact bx6
    · omega)
  clear o1 o3 oF oM ht4 bx6 hS hS6 hS7 hS8 hS9 H1 H2
  go_wp2
  go_end0
  exact ⟨rfl, HW.out, hbF⟩
end Go.Proofs.YtlahobdopmdfmaaDoor

/- DoM -/
namespace Go.Proofs.YtlahobdopmdfmaaDoor
open Go.RowKit

theorem okB_digs {b : Int} {zs : List Int} (b0 : 2 ≤ b) (b1 : b ≤ 16) (n0 : 1 ≤ zs.length) (n1 : zs.length ≤ 16) (hd : DigsM b zs) (hf : b ^ zs.length - 1 ≤ 1000000000000) : okB b zs = true := by
  have hv := valR_lt (show 1 ≤ b by omega) hd
  have h3 : digitsB b zs = true := by rw [digitsB, decide_eq_true_eq]; exact hd
  simp only [okB, baseB, widthB, h3, Bool.and_true, Bool.and_eq_true, decide_eq_true_eq]
  omega
theorem digsM_zero {b : Int} (b0 : 1 ≤ b) (n : Nat) : DigsM b (List.replicate n 0) := by
  intro d hd; rw [List.mem_replicate] at hd; omega
theorem okB_zeros {b : Int} {zs : List Int} (h : okB b zs = true) : okB b (List.replicate zs.length 0) = true := by
  obtain ⟨b0, b1, n0, n1, hd, hv⟩ := okB_spec h
  have h3 : digitsB b (List.replicate zs.length 0) = true := by rw [digitsB, decide_eq_true_eq]; exact digsM_zero (by omega) _
  simp only [okB, baseB, widthB, h3, Bool.and_true, Bool.and_eq_true, decide_eq_true_eq, List.length_replicate, mval_zero]
  omega
/-- A stroke leads to a valid machine. -/
theorem doM_ok {m : Mac} (h : macB m = true) (k : Int) : macB (doM m k).1 = true := by
  obtain ⟨h1, h2, h3, e2, e3, f2, f3, hl, p0, p1⟩ := macB_spec h
  obtain ⟨_, _, b0, b1, n0, n12, n2, n3, n4, _, q1, q2, d1, d2, d3⟩ := macB_facts h
  have trn : ∀ s, macB (trnM m s).1 = true := by
    intro s
    have z2 := movZ_len m.b2 m.z2 (s * (unitM m * valR m.b1 m.z1))
    have z3 := movZ_len m.b3 m.z3 (s * unitM m)
    have g2 : okB m.b2 (movZ m.b2 m.z2 (s * (unitM m * valR m.b1 m.z1))) = true := okB_digs (by omega) (by omega) (by omega) (by omega) (movZ_digs (by omega) _ _) (by rw [z2, ← e2]; exact f2)
    have g3 : okB m.b3 (movZ m.b3 m.z3 (s * unitM m)) = true := okB_digs (by omega) (by omega) (by omega) (by omega) (movZ_digs (by omega) _ _) (by rw [z3, ← e3]; exact f3)
    unfold plcs at p1
    unfold macB
    rw [decide_eq_true_eq]
    simp only [trnM, plcs, z2, z3]
    exact ⟨h1, g2, g3, e2, e3, f2, f3, hl, p0, p1⟩
  have shf : ∀ s, macB (shfM m s).1 = true := by
    intro s
    unfold shfM
    split
    · rename_i hs
      unfold macB
      rw [decide_eq_true_eq]
      unfold plcs at hs ⊢
      dsimp only
      exact ⟨h1, h2, h3, e2, e3, f2, f3, hl, hs⟩
    · exact h
  unfold doM
  split
  · exact trn 1
  split
  · exact trn (-1)
  split
  · exact shf 1
  split
  · exact shf (-1)
  split
  · have g2 := okB_zeros h2
    have g3 := okB_zeros h3
    unfold plcs at p1
    unfold macB
    rw [decide_eq_true_eq]
    simp only [plcs, List.length_replicate]
    exact ⟨h1, g2, g3, e2, e3, f2, f3, hl, p0, p1⟩
  · have g1 := okB_zeros h1
    unfold plcs at p1
    unfold macB
    rw [decide_eq_true_eq]
    simp only [plcs, List.length_replicate]
    exact ⟨g1, h2, h3, e2, e3, f2, f3, hl, p0, p1⟩
theorem doM_len (m : Mac) (k : Int) : (doM m k).1.z1.length = m.z1.length ∧ (doM m k).1.z2.length = m.z2.length ∧ (doM m k).1.z3.length = m.z3.length := by
  unfold doM shfM trnM
  split
  · exact ⟨rfl, movZ_len _ _ _, movZ_len _ _ _⟩
  split
  · exact ⟨rfl, movZ_len _ _ _, movZ_len _ _ _⟩
  split
  · split <;> exact ⟨rfl, rfl, rfl⟩
  split
  · split <;> exact ⟨rfl, rfl, rfl⟩
  split <;> simp
end Go.Proofs.YtlahobdopmdfmaaDoor

/- StkI -/
namespace Go.Proofs.YtlahobdopmdfmaaDoor
open Go.RowKit

theorem zero_int64 : ∀ w, (zeroValue 2).run Tryd.prog w = .ok (.int .i64 0) w := by
  intro w
  have h := info_int64
  cases hi : Tryd.prog.info? 2 with
  | none => rw [hi] at h; cases h
  | some i =>
    rw [hi] at h
    simp only [Option.map_some, Option.some.injEq, Prod.mk.injEq] at h
    simp [zeroValue, typeInfo, hi, h.1]

theorem own_sets {t : TypeId} {lo hi g n c : Nat} : ∀ (k o : Nat) (w : World) (zs : List Int), Own t w lo hi (.slice (some ⟨g, 0, none⟩) n c) zs → o + k = zs.length →
    Own t (w.setCells g o (List.replicate k (.int .i64 0))) lo hi (.slice (some ⟨g, 0, none⟩) n c) (zs.take o ++ List.replicate k 0)
  | 0, o, w, zs, h, hl => by
    rw [List.replicate_zero, List.replicate_zero, List.append_nil, List.take_of_length_le (by omega)]; exact h
  | k + 1, o, w, zs, h, hl => by
    have ih := own_sets k (o + 1) (w.setCell ⟨g, o, none⟩ (.int .i64 0)) (zs.set o 0) (h.put o 0) (by rw [List.length_set]; omega)
    have e : (zs.set o 0).take (o + 1) ++ List.replicate k 0 = zs.take o ++ List.replicate (k + 1) 0 := by
      rw [List.replicate_succ, List.take_succ_eq_append_getElem (by rw [List.length_set]; omega), List.getElem_set_self, List.append_assoc, List.take_set_of_le (Nat.le_refl _)]
      rfl
    rw [e] at ih
    rw [List.replicate_succ]
    exact ih
theorem touch_sets {g : Nat} {v : Value} : ∀ (k o : Nat) (w : World), Touch g (g + 1) w (w.setCells g o (List.replicate k v))
  | 0, o, w => Touch.refl _ _ _
  | k + 1, o, w => by
    rw [List.replicate_succ]
    exact ((Touch.refl g (g + 1) w).setCell (p := ⟨g, o, none⟩) (Nat.le_refl _) (Nat.lt_succ_self _) v).trans (touch_sets k (o + 1) _)
/-- A row of one's own, cleared. -/
theorem clear_own {t : TypeId} {w : World} {lo hi n c : Nat} {A : Option Addr} {zs : List Int} (h : Own t w lo hi (.slice A n c) zs) (hn : n = zs.length) (h0 : 0 < zs.length) (ty : TypeId) :
    ∃ w' g, lo ≤ g ∧ g < hi ∧ (Builtin.clear_ #[24] ty #[.slice A n c]).run Tryd.prog w = .ok (.tuple #[]) w' ∧ Own t w' lo hi (.slice A n c) (List.replicate zs.length 0) ∧ Touch g (g + 1) w w' := by
  subst hn
  obtain ⟨g, rfl, h1, h2⟩ : ∃ p, A = some ⟨p, 0, none⟩ ∧ lo ≤ p ∧ p < hi := by
    rcases h.row.2 with ⟨_, h0'⟩ | ⟨g, cap, cur, hv, _⟩
    · omega
    · injection hv with hA
      subst hA
      have := h.lo_le (k := g) rfl
      exact ⟨g, rfl, this.1, this.2.1⟩
  refine ⟨_, g, h1, h2, Lib.run_clear_slice w _ _ ty _ Tryd.underlying24 zero_int64 rfl rfl g 0 zs.length c h0 (fun j hj => ?_) (fun j _ => ?_), ?_, touch_sets _ _ _⟩
  · rw [Nat.zero_add, h.get hj]; rfl
  · exact h.thaw _
  · have := own_sets zs.length 0 w zs h (by omega)
    simpa using this

theorem Wk.below {w w' : World} {L p : Nat} {m : Mac} {t : Bool} {A1 : Option Addr} {C1 : Nat} {A2 : Option Addr} {C2 : Nat} {A3 : Option Addr} {C3 : Nat} (h : Wk w L p m t A1 C1 A2 C2 A3 C3) (hb : Below w.heap.size w w') : Wk w' L p m t A1 C1 A2 C2 A3 C3 := by
  obtain ⟨l1, h1, l2, h2, l3, h3, o1, o2, o3, s⟩ := h.ex
  have := hb.size
  exact ⟨h.bx.below hb, h.lp, l1, h1, l2, h2, l3, h3, o1.below hb, o2.below hb, o3.below hb, by omega⟩
theorem Wk.bell {w : World} {L p : Nat} {m : Mac} {t : Bool} {A1 : Option Addr} {C1 : Nat} {A2 : Option Addr} {C2 : Nat} {A3 : Option Addr} {C3 : Nat} (h : Wk w L p m t A1 C1 A2 C2 A3 C3) (t' : Bool) : Wk (w.setCell ⟨p, 7, none⟩ (.bool t')) L p m t' A1 C1 A2 C2 A3 C3 := by
  obtain ⟨l1, h1, l2, h2, l3, h3, o1, o2, o3, s⟩ := h.ex
  exact ⟨h.bx.set_ 7 _, h.lp, l1, h1, l2, h2, l3, h3, o1.setCell (by simp; omega) _, o2.setCell (by simp; omega) _, o3.setCell (by simp; omega) _, by simpa using s⟩
theorem Wk.move {w : World} {L p : Nat} {m : Mac} {t : Bool} {A1 : Option Addr} {C1 : Nat} {A2 : Option Addr} {C2 : Nat} {A3 : Option Addr} {C3 : Nat} (h : Wk w L p m t A1 C1 A2 C2 A3 C3) (k : Int) : Wk (w.setCell ⟨p, 6, none⟩ (.int .i64 k)) L p ⟨m.b1, m.z1, m.b2, m.z2, m.b3, m.z3, k⟩ t A1 C1 A2 C2 A3 C3 := by
  obtain ⟨l1, h1, l2, h2, l3, h3, o1, o2, o3, s⟩ := h.ex
  exact ⟨h.bx.set_ 6 _, h.lp, l1, h1, l2, h2, l3, h3, o1.setCell (by simp; omega) _, o2.setCell (by simp; omega) _, o3.setCell (by simp; omega) _, by simpa using s⟩
theorem Wk.belowL {w : World} {L p : Nat} {m : Mac} {t : Bool} {A1 : Option Addr} {C1 : Nat} {A2 : Option Addr} {C2 : Nat} {A3 : Option Addr} {C3 : Nat} (h : Wk w L p m t A1 C1 A2 C2 A3 C3) (i : Nat) (v : Value) : Below L w (w.setCell ⟨p, i, none⟩ v) := (Below.mono (Below.refl _ _) (by have := h.lp; have := h.bx.lt; omega)).setCell h.lp _

set_option maxRecDepth 100000 in
set_option maxHeartbeats 2000000 in
theorem moveTo_any (L p : Nat) (m : Mac) (t : Bool) (A1 : Option Addr) (C1 : Nat) (A2 : Option Addr) (C2 : Nat) (A3 : Option Addr) (C3 : Nat) (k : Int) (w : World) (hk : Wk w L p m t A1 C1 A2 C2 A3 C3) (hl : m.z1.length ≤ 1000000000 ∧ m.z2.length ≤ 1000000000 ∧ m.z3.length ≤ 1000000000) :
    Calls Tryd.prog 156 #[.pointer (some ⟨p, 0, none⟩), .int .i64 k] w fun e w' => e = .returned (.tuple #[]) ∧
      WkE w' L p (if inB k 0 (plcs m - 1) = true then (⟨m.b1, m.z1, m.b2, m.z2, m.b3, m.z3, k⟩, t) else (m, true)) ∧ Below L w w' := by
  have HP := Lib.hid (hasPlace_any m A1 C1 A2 C2 A3 C3 k w hl)
  have bx := hk.bx
  have c0 := bx.at_ 0 rfl
  have c1 := bx.at_ 1 rfl
  have c2 := bx.at_ 2 rfl
  have c3 := bx.at_ 3 rfl
  have c4 := bx.at_ 4 rfl
  have c5 := bx.at_ 5 rfl
  have c6 := bx.at_ 6 rfl
  have hLs : L ≤ w.heap.size := by have := hk.lp; have := bx.lt; omega
  cases hq : inB k 0 (plcs m - 1) with
  | false =>
    rw [hq] at HP
    go_enter Tryd.func156, Tryd.ntmps156
    go_wp2_with fail
    refine HP.out.mono ?_
    rintro e w1 ⟨rfl, hb⟩
    have hk1 := hk.below hb
    have HW := Lib.hid (hk1.bell true)
    have HB := Lib.hid ((hb.mono hLs).trans (hk1.belowL 7 (.bool true)))
    have d7 := hk1.bx.at_ 7 rfl
    have f7 := hk1.bx.thaw 7
    clear c0 c1 c2 c3 c4 c5 c6 bx hk hk1 hb hq
    go_wp2
    first | go_end0 | refine bodyPost_ret (results_none (by first | rfl | kernel_rfl) _ _ _) rfl ?_
    exact ⟨rfl, ⟨_, _, _, _, _, _, HW.out⟩, HB.out⟩
  | true =>
    rw [hq] at HP
    go_enter Tryd.func156, Tryd.ntmps156
    go_wp2_with fail
    refine HP.out.mono ?_
    rintro e w1 ⟨rfl, hb⟩
    have hk1 := hk.below hb
    have HW := Lib.hid (hk1.move k)
    have HB := Lib.hid ((hb.mono hLs).trans (hk1.belowL 6 (.int .i64 k)))
    have d6 := hk1.bx.at_ 6 rfl
    have f6 := hk1.bx.thaw 6
    clear c0 c1 c2 c3 c4 c5 c6 bx hk hk1 hb hq
    go_wp2
    first | go_end0 | refine bodyPost_ret (results_none (by first | rfl | kernel_rfl) _ _ _) rfl ?_
    exact ⟨rfl, ⟨_, _, _, _, _, _, HW.out⟩, HB.out⟩

theorem below_trans {L : Nat} {a b c : World} (h : Below L a b) (k : Below L b c) : Below L a c := h.trans k

set_option maxRecDepth 100000 in
set_option maxHeartbeats 8000000 in
theorem stroke_any (L p : Nat) (m : Mac) (t : Bool) (A1 : Option Addr) (C1 : Nat) (A2 : Option Addr) (C2 : Nat) (A3 : Option Addr) (C3 : Nat) (k : Int) (w : World) (hk : Wk w L p m t A1 C1 A2 C2 A3 C3) (hm : macB m = true) (h1 : 1 ≤ k) (h6 : k ≤ 6) :
    Calls Tryd.prog 94 #[.pointer (some ⟨p, 0, none⟩), .int .i64 k] w fun e w' => e = .returned (.tuple #[]) ∧ WkE w' L p (doM m k) ∧ Below L w w' := by
  have d7 := hk.bx.at_ 7 rfl
  have f7 := hk.bx.thaw 7
  obtain ⟨e2, e3, b0, b1, n0, n12, n2, n3, n4, p0, p1, p2, d1, d2, d3⟩ := macB_facts hm
  have hl : m.z1.length ≤ 1000000000 ∧ m.z2.length ≤ 1000000000 ∧ m.z3.length ≤ 1000000000 := by omega
  clear e2 e3 b0 b1 n12 n2 n4 d1 d2 d3
  rcases (show k = 1 ∨ k = 2 ∨ k = 3 ∨ k = 4 ∨ k = 5 ∨ k = 6 by omega) with h | h | h | h | h | h
  all_goals
    subst h
    clear h1 h6
  · have HE := Lib.hid (show doM m 1 = trnM m 1 by simp [doM])
    go_enter Tryd.func94, Tryd.ntmps94
    go_upto_region 1 with fail
    obtain ⟨w1, hw1⟩ : ∃ v, v = w.setCell ⟨p, 7, none⟩ (.bool false) := ⟨_, rfl⟩
    try rw [← hw1]
    have hk1 : Wk w1 L p m false A1 C1 A2 C2 A3 C3 := by rw [hw1]; exact hk.bell false
    have hB1 : Below L w w1 := by rw [hw1]; exact hk.belowL 7 _
    clear hw1 hk d7 f7
    go_wp2_with fail
    refine (crank_turnOn L p m false A1 C1 A2 C2 A3 C3 w1 hk1 hm).mono ?_
    rintro e w2 ⟨rfl, hW, hb⟩
    go_wp2
    first | go_end0 | refine bodyPost_ret (results_none (by first | rfl | kernel_rfl) _ _ _) rfl ?_
    exact ⟨rfl, by rw [HE.out]; exact hW, hB1.trans hb⟩
  · have HE := Lib.hid (show doM m 2 = trnM m (-1) by simp [doM])
    go_enter Tryd.func94, Tryd.ntmps94
    go_upto_region 1 with fail
    obtain ⟨w1, hw1⟩ : ∃ v, v = w.setCell ⟨p, 7, none⟩ (.bool false) := ⟨_, rfl⟩
    try rw [← hw1]
    have hk1 : Wk w1 L p m false A1 C1 A2 C2 A3 C3 := by rw [hw1]; exact hk.bell false
    have hB1 : Below L w w1 := by rw [hw1]; exact hk.belowL 7 _
    clear hw1 hk d7 f7
    go_wp2_with fail
    refine (crank_turnBack L p m false A1 C1 A2 C2 A3 C3 w1 hk1 hm).mono ?_
    rintro e w2 ⟨rfl, hW, hb⟩
    go_wp2
    first | go_end0 | refine bodyPost_ret (results_none (by first | rfl | kernel_rfl) _ _ _) rfl ?_
    exact ⟨rfl, by rw [HE.out]; exact hW, hB1.trans hb⟩
  · have HE := Lib.hid (show doM m 3 = if inB (m.p + 1) 0 (plcs m - 1) = true then (⟨m.b1, m.z1, m.b2, m.z2, m.b3, m.z3, m.p + 1⟩, false) else (m, true) by
      rw [show doM m 3 = shfM m 1 by simp [doM], shfM, inB_eq, show m.p + 1 = m.p + 1 by omega]
      simp only [decide_eq_true_eq])
    have hw2 : IntKind.i64.wrap (m.p + 1) = m.p + 1 := IntWalk.i64_in _ (by omega)
    go_enter Tryd.func94, Tryd.ntmps94
    go_upto_region 1 with fail
    obtain ⟨w1, hw1⟩ : ∃ v, v = w.setCell ⟨p, 7, none⟩ (.bool false) := ⟨_, rfl⟩
    try rw [← hw1]
    have hk1 : Wk w1 L p m false A1 C1 A2 C2 A3 C3 := by rw [hw1]; exact hk.bell false
    have hB1 : Below L w w1 := by rw [hw1]; exact hk.belowL 7 _
    clear hw1 hk d7 f7
    have c6 := hk1.bx.at_ 6 rfl
    go_wp2_with fail
    refine (moveTo_any L p m false A1 C1 A2 C2 A3 C3 (m.p + 1) w1 hk1 hl).mono ?_
    rintro e w2 ⟨rfl, hW, hb⟩
    clear c6
    go_wp2
    first | go_end0 | refine bodyPost_ret (results_none (by first | rfl | kernel_rfl) _ _ _) rfl ?_
    exact ⟨rfl, by rw [HE.out]; exact hW, hB1.trans hb⟩
  · have HE := Lib.hid (show doM m 4 = if inB (m.p - 1) 0 (plcs m - 1) = true then (⟨m.b1, m.z1, m.b2, m.z2, m.b3, m.z3, m.p - 1⟩, false) else (m, true) by
      rw [show doM m 4 = shfM m (-1) by simp [doM], shfM, inB_eq, show m.p + (-1) = m.p - 1 by omega]
      simp only [decide_eq_true_eq])
    have hw2 : IntKind.i64.wrap (m.p - 1) = m.p - 1 := IntWalk.i64_in _ (by omega)
    go_enter Tryd.func94, Tryd.ntmps94
    go_upto_region 1 with fail
    obtain ⟨w1, hw1⟩ : ∃ v, v = w.setCell ⟨p, 7, none⟩ (.bool false) := ⟨_, rfl⟩
    try rw [← hw1]
    have hk1 : Wk w1 L p m false A1 C1 A2 C2 A3 C3 := by rw [hw1]; exact hk.bell false
    have hB1 : Below L w w1 := by rw [hw1]; exact hk.belowL 7 _
    clear hw1 hk d7 f7
    have c6 := hk1.bx.at_ 6 rfl
    go_wp2_with fail
    refine (moveTo_any L p m false A1 C1 A2 C2 A3 C3 (m.p - 1) w1 hk1 hl).mono ?_
    rintro e w2 ⟨rfl, hW, hb⟩
    clear c6
    go_wp2
    first | go_end0 | refine bodyPost_ret (results_none (by first | rfl | kernel_rfl) _ _ _) rfl ?_
    exact ⟨rfl, by rw [HE.out]; exact hW, hB1.trans hb⟩
  · have HE := Lib.hid (show doM m 5 = (⟨m.b1, m.z1, m.b2, List.replicate m.z2.length 0, m.b3, List.replicate m.z3.length 0, m.p⟩, false) by simp [doM])
    go_enter Tryd.func94, Tryd.ntmps94
    go_upto_region 1 with fail
    obtain ⟨w1, hw1⟩ : ∃ v, v = w.setCell ⟨p, 7, none⟩ (.bool false) := ⟨_, rfl⟩
    try rw [← hw1]
    have hk1 : Wk w1 L p m false A1 C1 A2 C2 A3 C3 := by rw [hw1]; exact hk.bell false
    have hB1 : Below L w w1 := by rw [hw1]; exact hk.belowL 7 _
    clear hw1 hk d7 f7
    obtain ⟨l1, h1, l2, h2, l3, h3, o1, o2, o3, s⟩ := hk1.ex
    obtain ⟨w2, g2, q1, q2, hr2, o2', ht2⟩ := clear_own o2 rfl (by omega) 0
    have o3' := o3.touch ht2 (by omega)
    obtain ⟨w3, g3, q3, q4, hr3, o3'', ht3⟩ := clear_own o3' rfl (by omega) 0
    have c3 := hk1.bx.at_ 3 rfl
    have bx2 := hk1.bx.touch ht2 (by omega)
    have c5 := bx2.at_ 5 rfl
    have bx3 := bx2.touch ht3 (by omega)
    have hz2 := ht2.size
    have hz3 := ht3.size
    have hlt := hk1.bx.lt
    have HB := Lib.hid ((hB1.trans (ht2.below (by omega) (by have := hk1.lp; omega))).trans (ht3.below (by omega) (by have := hk1.lp; omega)))
    have HW : Hid (WkE w3 L p (⟨m.b1, m.z1, m.b2, List.replicate m.z2.length 0, m.b3, List.replicate m.z3.length 0, m.p⟩, false)) := Lib.hid (by
      refine ⟨A1, C1, A2, C2, A3, C3, by simp only [List.length_replicate]; exact bx3, hk1.lp, l1, h1, l2, h2, l3, h3, (o1.touch ht2 (by omega)).touch ht3 (by omega), by simp only [List.length_replicate]; exact o2'.touch ht3 (by omega), by simp only [List.length_replicate]; exact o3'', by omega⟩)
    clear o1 o2 o3 o2' o3' o3'' ht2 ht3 bx2 bx3 hk1 s hB1
    go_wp2
    first | go_end0 | refine bodyPost_ret (results_none (by first | rfl | kernel_rfl) _ _ _) rfl ?_
    exact ⟨rfl, by rw [HE.out]; exact HW.out, HB.out⟩
  · have HE := Lib.hid (show doM m 6 = (⟨m.b1, List.replicate m.z1.length 0, m.b2, m.z2, m.b3, m.z3, m.p⟩, false) by simp [doM])
    go_enter Tryd.func94, Tryd.ntmps94
    go_upto_region 1 with fail
    obtain ⟨w1, hw1⟩ : ∃ v, v = w.setCell ⟨p, 7, none⟩ (.bool false) := ⟨_, rfl⟩
    try rw [← hw1]
    have hk1 : Wk w1 L p m false A1 C1 A2 C2 A3 C3 := by rw [hw1]; exact hk.bell false
    have hB1 : Below L w w1 := by rw [hw1]; exact hk.belowL 7 _
    clear hw1 hk d7 f7
    obtain ⟨l1, h1, l2, h2, l3, h3, o1, o2, o3, s⟩ := hk1.ex
    obtain ⟨w2, g2, q1, q2, hr2, o1', ht2⟩ := clear_own o1 rfl (by omega) 0
    have c1 := hk1.bx.at_ 1 rfl
    have bx2 := hk1.bx.touch ht2 (by omega)
    have hz2 := ht2.size
    have hlt := hk1.bx.lt
    have HB := Lib.hid (hB1.trans (ht2.below (by omega) (by have := hk1.lp; omega)))
    have HW : Hid (WkE w2 L p (⟨m.b1, List.replicate m.z1.length 0, m.b2, m.z2, m.b3, m.z3, m.p⟩, false)) := Lib.hid (by
      refine ⟨A1, C1, A2, C2, A3, C3, by simp only [List.length_replicate]; exact bx2, hk1.lp, l1, h1, l2, h2, l3, h3, by simp only [List.length_replicate]; exact o1', o2.touch ht2 (by omega), o3.touch ht2 (by omega), by omega⟩)
    clear o1 o2 o3 o1' ht2 bx2 hk1 s hB1
    go_wp2
    first | go_end0 | refine bodyPost_ret (results_none (by first | rfl | kernel_rfl) _ _ _) rfl ?_
    exact ⟨rfl, by rw [HE.out]; exact HW.out, HB.out⟩
end Go.Proofs.YtlahobdopmdfmaaDoor

/- MdsI -/
namespace Go.Proofs.YtlahobdopmdfmaaDoor
open Go.RowKit

/-- The code of strokes that are to be made. -/
def scR (m : Mac) (l : List Int) : Int := if macB m = true then (if rangeB 1 6 l = true then 0 else 2) else 1
theorem rangeB_str (l : List Int) : rangeB 1 6 l = strB l := by
  rw [Bool.eq_iff_iff, rangeB_true, strB, decide_eq_true_eq]
  constructor
  · intro h k hk; exact inB_true (h k hk)
  · intro h k hk; rw [inB_eq, decide_eq_true_eq]; exact h k hk

set_option maxHeartbeats 1000000 in
theorem areStrokes_any (a : Option Addr) (c : Nat) (zs : List Int) (w : World) (ha : Rd w a zs) :
    Calls Tryd.prog 147 #[.slice a zs.length c] w fun e w' => e = .returned (.bool (rangeB 1 6 zs)) ∧ w' = w := by
  go_enter Tryd.func147, Tryd.ntmps147
  go_wp2_with fail
  refine (within_any 1 6 a c zs w ha).mono ?_
  rintro e w1 ⟨rfl, hw⟩
  subst w1
  go_wp2
  go_ret
  exact ⟨rfl, rfl⟩

set_option maxRecDepth 100000 in
set_option maxHeartbeats 2000000 in
theorem strokesCode_any (m : Mac) (A1 : Option Addr) (C1 : Nat) (A2 : Option Addr) (C2 : Nat) (A3 : Option Addr) (C3 : Nat) (a : Option Addr) (c : Nat) (zs : List Int) (w : World) (h : Rd3 w A1 m.z1 A2 m.z2 A3 m.z3) (z : All64 m.z1 ∧ All64 m.z2 ∧ All64 m.z3) (y : I64 m.b1 ∧ I64 m.b2 ∧ I64 m.b3 ∧ I64 m.p) (hD : BellD w) (ha : Rd w a zs) :
    Calls Tryd.prog 92 #[.agg #[.int .i64 m.b1, .slice A1 m.z1.length C1, .int .i64 m.b2, .slice A2 m.z2.length C2, .int .i64 m.b3, .slice A3 m.z3.length C3, .int .i64 m.p], .slice a zs.length c] w fun e w' => e = .returned (.int .i64 (scR m zs)) ∧ Below w.heap.size w w' := by
  obtain ⟨u, hu⟩ : ∃ u, u = w.alloc (.cells #[.int .i64 m.b1, .slice A1 m.z1.length C1, .int .i64 m.b2, .slice A2 m.z2.length C2, .int .i64 m.b3, .slice A3 m.z3.length C3, .int .i64 m.p] 28) := ⟨_, rfl⟩
  have hbel : Below w.heap.size w u := by rw [hu]; exact (by repeat (first | exact Below.refl _ _ | refine Below.setCell ?_ (by first | omega | (simp <;> omega)) _ | refine Below.alloc ?_ (by first | omega | (simp <;> omega)) _ | refine Below.drew ?_))
  have HV := Lib.hid (implValidMachine m A1 C1 A2 C2 A3 C3 u (h.below hbel) z y (hD.below hbel))
  have HU := Lib.hid hu
  clear hu h z y hD
  cases hm : macB m with
  | false =>
    have HR := Lib.hid (show scR m zs = 1 by simp [scR, hm])
    rw [hm] at HV
    clear hm
    go_enter Tryd.func92, Tryd.ntmps92
    go_wp2_with fail
    rw [← HU.out]
    refine HV.out.mono ?_
    rintro e w1 ⟨rfl, hb⟩
    go_wp2
    go_ret
    exact ⟨ret_int HR.out.symm, hbel.trans (hb.mono hbel.size)⟩
  | true =>
    rw [hm] at HV
    cases hs : rangeB 1 6 zs
    all_goals
      have HR := Lib.hid (show scR m zs = if rangeB 1 6 zs = true then 0 else 2 by simp [scR, hm])
      rw [hs] at HR
      simp only [if_true, if_false, Bool.false_eq_true] at HR
      clear hm
      go_enter Tryd.func92, Tryd.ntmps92
      go_wp2_with fail
      rw [← HU.out]
      refine HV.out.mono ?_
      rintro e w1 ⟨rfl, hb⟩
      replace hbel := hbel.trans (hb.mono hbel.size)
      clear hb
      go_wp2_with fail
      refine (areStrokes_any a c zs w1 (ha.below hbel)).mono ?_
      rintro e w2 ⟨rfl, hw⟩
      subst w2
      rw [hs]
      clear hs
      go_wp2
      go_ret
      exact ⟨ret_int HR.out.symm, hbel⟩

set_option maxRecDepth 100000 in
set_option maxHeartbeats 2000000 in
theorem workingOf_any (m : Mac) (A1 : Option Addr) (C1 : Nat) (A2 : Option Addr) (C2 : Nat) (A3 : Option Addr) (C3 : Nat) (w : World) (h : Rd3 w A1 m.z1 A2 m.z2 A3 m.z3) (n1 : 0 < m.z1.length) (n2 : 0 < m.z2.length) (n3 : 0 < m.z3.length) :
    Calls Tryd.prog 93 #[.agg #[.int .i64 m.b1, .slice A1 m.z1.length C1, .int .i64 m.b2, .slice A2 m.z2.length C2, .int .i64 m.b3, .slice A3 m.z3.length C3, .int .i64 m.p]] w fun e w' => ∃ p, e = .returned (.pointer (some ⟨p, 0, none⟩)) ∧ WkE w' w.heap.size p (m, false) ∧ Below w.heap.size w w' := by
  obtain ⟨u, hu⟩ : ∃ u, u = w.alloc (.cells #[.int .i64 m.b1, .slice A1 m.z1.length C1, .int .i64 m.b2, .slice A2 m.z2.length C2, .int .i64 m.b3, .slice A3 m.z3.length C3, .int .i64 m.p] 28) := ⟨_, rfl⟩
  have hbel : Below w.heap.size w u := by rw [hu]; exact (by repeat (first | exact Below.refl _ _ | refine Below.setCell ?_ (by first | omega | (simp <;> omega)) _ | refine Below.alloc ?_ (by first | omega | (simp <;> omega)) _ | refine Below.drew ?_))
  have HC := Lib.hid (copied_any m A1 C1 A2 C2 A3 C3 u (h.below hbel) n1 n2 n3)
  have hz := hbel.size
  have HU := Lib.hid hu
  clear hu h n1 n2 n3
  go_enter Tryd.func93, Tryd.ntmps93
  go_wp2_with fail
  rw [← HU.out]
  refine HC.out.mono ?_
  rintro e w1 ⟨D1, E1, D2, E2, D3, E3, rfl, own, hb⟩
  have hz1 := hb.size
  replace hbel := hbel.trans (hb.mono hbel.size)
  clear hb
  have HW : Hid (WkE (w1.alloc (.cells #[.int .i64 m.b1, .slice D1 m.z1.length E1, .int .i64 m.b2, .slice D2 m.z2.length E2, .int .i64 m.b3, .slice D3 m.z3.length E3, .int .i64 m.p, .bool false] 103)) w.heap.size w1.heap.size (m, false)) := Lib.hid (by
    obtain ⟨l1, h1, l2, h2, l3, h3, o1, o2, o3, s⟩ := own.ex
    exact ⟨D1, E1, D2, E2, D3, E3, Bx.new _ _ _, by omega, l1, h1, l2, h2, l3, h3, o1.alloc _, o2.alloc _, o3.alloc _, by simp; omega⟩)
  have HB := Lib.hid (hbel.alloc hbel.size (.cells #[.int .i64 m.b1, .slice D1 m.z1.length E1, .int .i64 m.b2, .slice D2 m.z2.length E2, .int .i64 m.b3, .slice D3 m.z3.length E3, .int .i64 m.p, .bool false] 103))
  clear own
  go_wp2
  go_ret
  exact ⟨_, rfl, HW.out, HB.out⟩

/-- A machine of its own, a bool, a code. -/
def MacBC (R : Mac × Bool × Int) (w : World) (e : Ending) (w' : World) : Prop := ∃ (A1 : Option Addr) (C1 : Nat) (A2 : Option Addr) (C2 : Nat) (A3 : Option Addr) (C3 : Nat),
  e = .returned (.tuple #[.agg #[.int .i64 R.1.b1, .slice A1 R.1.z1.length C1, .int .i64 R.1.b2, .slice A2 R.1.z2.length C2, .int .i64 R.1.b3, .slice A3 R.1.z3.length C3, .int .i64 R.1.p], .bool R.2.1, .int .i64 R.2.2]) ∧ Own3 2 w' w.heap.size w'.heap.size (.slice A1 R.1.z1.length C1) R.1.z1 (.slice A2 R.1.z2.length C2) R.1.z2 (.slice A3 R.1.z3.length C3) R.1.z3 ∧ Below w.heap.size w w'
theorem macBC_err {R : Mac × Bool × Int} {c : Int} {w w' : World} {e : Ending} (h : R = (mac0, false, c)) (he : e = .returned (.tuple #[.agg #[.int .i64 0, .slice none 0 0, .int .i64 0, .slice none 0 0, .int .i64 0, .slice none 0 0, .int .i64 0], .bool false, .int .i64 c])) (hb : Below w.heap.size w w') : MacBC R w e w' := by
  subst h
  exact ⟨none, 0, none, 0, none, 0, he, own3_nil _ _ _ _ hb.size, hb⟩
theorem macBC_ok {R : Mac × Bool × Int} {m : Mac} {t : Bool} {w w' : World} {A1 : Option Addr} {C1 : Nat} {A2 : Option Addr} {C2 : Nat} {A3 : Option Addr} {C3 : Nat} {lo hi : Nat} {e : Ending} (h : R = (m, t, 0)) (he : e = .returned (.tuple #[.agg #[.int .i64 m.b1, .slice A1 m.z1.length C1, .int .i64 m.b2, .slice A2 m.z2.length C2, .int .i64 m.b3, .slice A3 m.z3.length C3, .int .i64 m.p], .bool t, .int .i64 0]))
    (ho : Own3 2 w' lo hi (.slice A1 m.z1.length C1) m.z1 (.slice A2 m.z2.length C2) m.z2 (.slice A3 m.z3.length C3) m.z3) (hl : w.heap.size ≤ lo) (hh : hi ≤ w'.heap.size) (hb : Below w.heap.size w w') : MacBC R w e w' := by
  subst h
  exact ⟨A1, C1, A2, C2, A3, C3, he, ho.wide hl hh, hb⟩
theorem Wk.own {w : World} {L p : Nat} {m : Mac} {t : Bool} {A1 : Option Addr} {C1 : Nat} {A2 : Option Addr} {C2 : Nat} {A3 : Option Addr} {C3 : Nat} (h : Wk w L p m t A1 C1 A2 C2 A3 C3) : Own3 2 w L w.heap.size (.slice A1 m.z1.length C1) m.z1 (.slice A2 m.z2.length C2) m.z2 (.slice A3 m.z3.length C3) m.z3 := by
  obtain ⟨l1, h1, l2, h2, l3, h3, o1, o2, o3, s⟩ := h.ex
  exact ⟨l1, h1, l2, h2, l3, h3, o1, o2, o3, by omega⟩

set_option maxRecDepth 100000 in
set_option maxHeartbeats 8000000 in
theorem implDoStroke (m : Mac) (A1 : Option Addr) (C1 : Nat) (A2 : Option Addr) (C2 : Nat) (A3 : Option Addr) (C3 : Nat) (k : Int) (w : World) (h : Rd3 w A1 m.z1 A2 m.z2 A3 m.z3) (z : All64 m.z1 ∧ All64 m.z2 ∧ All64 m.z3) (y : I64 m.b1 ∧ I64 m.b2 ∧ I64 m.b3 ∧ I64 m.p) (_ : I64 k) (hD : BellD w) :
    Calls Tryd.prog 70 #[.agg #[.int .i64 m.b1, .slice A1 m.z1.length C1, .int .i64 m.b2, .slice A2 m.z2.length C2, .int .i64 m.b3, .slice A3 m.z3.length C3, .int .i64 m.p], .int .i64 k] w (MacBC (dsR m k) w) := by
  have R := Tryd.results70
  have hlen := h.len
  obtain ⟨g, hg⟩ : ∃ g, g = w.heap.size := ⟨_, rfl⟩
  obtain ⟨u, hu⟩ : ∃ u, u = (w.alloc (.cells #[.int .i64 m.b1, .slice A1 m.z1.length C1, .int .i64 m.b2, .slice A2 m.z2.length C2, .int .i64 m.b3, .slice A3 m.z3.length C3, .int .i64 m.p] 28)).alloc (.cells #[.int .i64 0, .slice none 0 0, .int .i64 0, .slice none 0 0, .int .i64 0, .slice none 0 0, .int .i64 0] 28) := ⟨_, rfl⟩
  have hbel : Below w.heap.size w u := by rw [hu]; exact (by repeat (first | exact Below.refl _ _ | refine Below.setCell ?_ (by first | omega | (simp <;> omega)) _ | refine Below.alloc ?_ (by first | omega | (simp <;> omega)) _ | refine Below.drew ?_))
  have bm : Bx u g 28 #[.int .i64 m.b1, .slice A1 m.z1.length C1, .int .i64 m.b2, .slice A2 m.z2.length C2, .int .i64 m.b3, .slice A3 m.z3.length C3, .int .i64 m.p] := by rw [hu, hg]; exact (Bx.new _ _ _).alloc _
  have br : Bx u (g + 1) 28 #[.int .i64 0, .slice none 0 0, .int .i64 0, .slice none 0 0, .int .i64 0, .slice none 0 0, .int .i64 0] := by rw [hu, hg]; simpa using Bx.new (w.alloc (.cells #[.int .i64 m.b1, .slice A1 m.z1.length C1, .int .i64 m.b2, .slice A2 m.z2.length C2, .int .i64 m.b3, .slice A3 m.z3.length C3, .int .i64 m.p] 28)) #[.int .i64 0, .slice none 0 0, .int .i64 0, .slice none 0 0, .int .i64 0, .slice none 0 0, .int .i64 0] 28
  have hgu : g + 1 < u.heap.size := br.lt
  obtain ⟨u2, hu2⟩ : ∃ v, v = u.alloc (.cells #[.int .i64 k] 2) := ⟨_, rfl⟩
  have hb2 : Below u.heap.size u u2 := by rw [hu2]; exact (Below.refl _ _).alloc (Nat.le_refl _) _
  have hdig : Rd u2 (some ⟨u.heap.size, 0, none⟩) [k] := by rw [hu2]; exact rd_new1 u k _
  have hbel2 : Below w.heap.size w u2 := hbel.trans (hb2.mono hbel.size)
  have HC0 := strokesCode_any m A1 C1 A2 C2 A3 C3 (some ⟨u.heap.size, 0, none⟩) 1 [k] u2 (h.below hbel2) z y (hD.below hbel2) hdig
  rw [List.length_singleton] at HC0
  have HC := Lib.hid HC0
  clear HC0
  have HG := Lib.hid hg
  have HU := Lib.hid hu
  have HU2 := Lib.hid hu2
  have HBM := Lib.hid bm
  have bm2 := bm.below hb2
  have br2 := br.below hb2
  have hg2 : g + 1 < u2.heap.size := br2.lt
  have HX : Hid ((macB m = true ∧ 1 ≤ k ∧ k ≤ 6 ∧ scR m [k] = 0 ∧ dsR m k = ((doM m k).1, (doM m k).2, 0)) ∨ ∃ c, scR m [k] = c ∧ c ≠ 0 ∧ dsR m k = (mac0, false, c)) := Lib.hid (by
    unfold scR dsR
    rw [within1, inB_eq]
    by_cases hm : macB m = true
    · by_cases hk : 1 ≤ k ∧ k ≤ 6
      · exact .inl ⟨hm, hk.1, hk.2, by simp [hm, hk], by simp [hm, hk]⟩
      · exact .inr ⟨2, by simp [hm]; omega, by omega, by simp [hm]; omega⟩
    · exact .inr ⟨1, by simp [hm], by omega, by simp [hm]⟩)
  clear hu z y hD hu2 hdig bm br hb2 hgu
  rcases HX.out with ⟨hm, h1, h6, hc, HR⟩ | ⟨c, hc, hne, HR⟩
  · rw [hc] at HC
    obtain ⟨e2, e3, b0, b1, n0, n12, n2, n3, n4, p0, p1, p2, d1, d2, d3⟩ := macB_facts hm
    have HK := Lib.hid (fun (v : World) (hb : Below w.heap.size w v) => workingOf_any m A1 C1 A2 C2 A3 C3 v (h.below hb) (by omega) (by omega) (by omega))
    have HM := Lib.hid hm
    have HN := Lib.hid (show 1 ≤ k ∧ k ≤ 6 from ⟨h1, h6⟩)
    clear hc HX h e2 e3 b0 b1 n0 n12 n2 n3 n4 p0 p1 p2 d1 d2 d3 hm h1 h6
    go_enter Tryd.func70, Tryd.ntmps70
    go_upto_region 1 with fail
    rw [← HU.out, ← hg]
    clear hg
    have x0 := HBM.out.at_ 0 rfl
    have x1 := HBM.out.at_ 1 rfl
    have x2 := HBM.out.at_ 2 rfl
    have x3 := HBM.out.at_ 3 rfl
    have x4 := HBM.out.at_ 4 rfl
    have x5 := HBM.out.at_ 5 rfl
    have x6 := HBM.out.at_ 6 rfl
    go_wp2_with fail
    rw [← HU2.out]
    clear x0 x1 x2 x3 x4 x5 x6
    with_reducible refine HC.out.mono ?_
    rintro e w1 ⟨rfl, hb⟩
    have hz1 := hb.size
    replace br2 := br2.below hb
    replace bm2 := bm2.below hb
    replace hbel2 := hbel2.trans (hb.mono hbel2.size)
    clear hb
    have c0 := bm2.at_ 0 rfl
    have c1 := bm2.at_ 1 rfl
    have c2 := bm2.at_ 2 rfl
    have c3 := bm2.at_ 3 rfl
    have c4 := bm2.at_ 4 rfl
    have c5 := bm2.at_ 5 rfl
    have c6 := bm2.at_ 6 rfl
    go_wp2_with fail
    refine (HK.out w1 hbel2).mono ?_
    rintro e w2 ⟨p, rfl, ⟨D1, E1, D2, E2, D3, E3, hk⟩, hb⟩
    have hz2 := hb.size
    replace br2 := br2.below hb
    replace hbel2 := hbel2.trans (hb.mono hbel2.size)
    clear hb c0 c1 c2 c3 c4 c5 c6 bm2
    go_wp2_with fail
    refine (stroke_any w1.heap.size p m false D1 E1 D2 E2 D3 E3 k w2 hk HM.out HN.out.1 HN.out.2).mono ?_
    rintro e w3 ⟨rfl, ⟨F1, G1, F2, G2, F3, G3, hk3⟩, hb⟩
    have hz3 := hb.size
    replace br2 := br2.lo hb (by omega)
    replace hbel2 := hbel2.trans (hb.mono (by have := HG.out; omega))
    clear hb hk HC HK
    obtain ⟨m3, hm3⟩ : ∃ x, x = (doM m k).1 := ⟨_, rfl⟩
    obtain ⟨t3, ht3⟩ : ∃ x, x = (doM m k).2 := ⟨_, rfl⟩
    rw [← hm3, ← ht3] at hk3 HR
    clear hm3 ht3
    have bx := hk3.bx
    have hpL := hk3.lp
    go_upto_region 6 with fail
    refine wp_region_marked (fun w' => Bx w' p 103 #[.int .i64 m3.b1, .slice F1 m3.z1.length G1, .int .i64 m3.b2, .slice F2 m3.z2.length G2, .int .i64 m3.b3, .slice F3 m3.z3.length G3, .int .i64 m3.p, .bool t3]) 10 (by kernel_rfl) ?_
    have hS : Bx w3.drew p 103 #[.int .i64 m3.b1, .slice F1 m3.z1.length G1, .int .i64 m3.b2, .slice F2 m3.z2.length G2, .int .i64 m3.b3, .slice F3 m3.z3.length G3, .int .i64 m3.p, .bool t3] := bx
    have k0 : ∀ w', Bx w' p 103 #[.int .i64 m3.b1, .slice F1 m3.z1.length G1, .int .i64 m3.b2, .slice F2 m3.z2.length G2, .int .i64 m3.b3, .slice F3 m3.z3.length G3, .int .i64 m3.p, .bool t3] → w'.cell? ⟨p, 0, none⟩ = some (.int .i64 m3.b1) := fun _ h => h.at_ 0 rfl
    have k1 : ∀ w', Bx w' p 103 #[.int .i64 m3.b1, .slice F1 m3.z1.length G1, .int .i64 m3.b2, .slice F2 m3.z2.length G2, .int .i64 m3.b3, .slice F3 m3.z3.length G3, .int .i64 m3.p, .bool t3] → w'.cell? ⟨p, 1, none⟩ = some (.slice F1 m3.z1.length G1) := fun _ h => h.at_ 1 rfl
    have k2 : ∀ w', Bx w' p 103 #[.int .i64 m3.b1, .slice F1 m3.z1.length G1, .int .i64 m3.b2, .slice F2 m3.z2.length G2, .int .i64 m3.b3, .slice F3 m3.z3.length G3, .int .i64 m3.p, .bool t3] → w'.cell? ⟨p, 2, none⟩ = some (.int .i64 m3.b2) := fun _ h => h.at_ 2 rfl
    have k3 : ∀ w', Bx w' p 103 #[.int .i64 m3.b1, .slice F1 m3.z1.length G1, .int .i64 m3.b2, .slice F2 m3.z2.length G2, .int .i64 m3.b3, .slice F3 m3.z3.length G3, .int .i64 m3.p, .bool t3] → w'.cell? ⟨p, 3, none⟩ = some (.slice F2 m3.z2.length G2) := fun _ h => h.at_ 3 rfl
    have k4 : ∀ w', Bx w' p 103 #[.int .i64 m3.b1, .slice F1 m3.z1.length G1, .int .i64 m3.b2, .slice F2 m3.z2.length G2, .int .i64 m3.b3, .slice F3 m3.z3.length G3, .int .i64 m3.p, .bool t3] → w'.cell? ⟨p, 4, none⟩ = some (.int .i64 m3.b3) := fun _ h => h.at_ 4 rfl
    have k5 : ∀ w', Bx w' p 103 #[.int .i64 m3.b1, .slice F1 m3.z1.length G1, .int .i64 m3.b2, .slice F2 m3.z2.length G2, .int .i64 m3.b3, .slice F3 m3.z3.length G3, .int .i64 m3.p, .bool t3] → w'.cell? ⟨p, 5, none⟩ = some (.slice F3 m3.z3.length G3) := fun _ h => h.at_ 5 rfl
    have k6 : ∀ w', Bx w' p 103 #[.int .i64 m3.b1, .slice F1 m3.z1.length G1, .int .i64 m3.b2, .slice F2 m3.z2.length G2, .int .i64 m3.b3, .slice F3 m3.z3.length G3, .int .i64 m3.p, .bool t3] → w'.cell? ⟨p, 6, none⟩ = some (.int .i64 m3.p) := fun _ h => h.at_ 6 rfl
    have k7 : ∀ w', Bx w' p 103 #[.int .i64 m3.b1, .slice F1 m3.z1.length G1, .int .i64 m3.b2, .slice F2 m3.z2.length G2, .int .i64 m3.b3, .slice F3 m3.z3.length G3, .int .i64 m3.p, .bool t3] → w'.cell? ⟨p, 7, none⟩ = some (.bool t3) := fun _ h => h.at_ 7 rfl
    refine wpAnyM_take (i := 0) (v := ?_) rfl (by kernel_rfl) (by kernel_rfl) (by kernel_rfl) (by kernel_rfl) (by kernel_rfl) (fun _ _ _ h => h) hS (.inl ⟨by rfl, ?_⟩) ?_
    rotate_left 1
    · intro w' hS'; go_simp; try with_reducible rfl
    simp only [Act.put, List.setIfInBounds_toArray, List.set_cons_succ, List.set_cons_zero, List.getElem_toArray, List.getElem_cons_zero]
    refine wpAnyM_take (i := 1) (v := ?_) rfl (by kernel_rfl) (by kernel_rfl) (by kernel_rfl) (by kernel_rfl) (by kernel_rfl) (fun _ _ _ h => h) hS (.inl ⟨by rfl, ?_⟩) ?_
    rotate_left 1
    · intro w' hS'; go_simp; try with_reducible rfl
    simp only [Act.put, List.setIfInBounds_toArray, List.set_cons_succ, List.set_cons_zero, List.getElem_toArray, List.getElem_cons_succ, List.getElem_cons_zero]
    refine wpAnyM_take (i := 2) (v := ?_) rfl (by kernel_rfl) (by kernel_rfl) (by kernel_rfl) (by kernel_rfl) (by kernel_rfl) (fun _ _ _ h => h) hS (.inl ⟨by rfl, ?_⟩) ?_
    rotate_left 1
    · intro w' hS'; go_simp; try with_reducible rfl
    simp only [Act.put, List.setIfInBounds_toArray, List.set_cons_succ, List.set_cons_zero, List.getElem_toArray, List.getElem_cons_succ, List.getElem_cons_zero]
    refine wpAnyM_take (i := 3) (v := ?_) rfl (by kernel_rfl) (by kernel_rfl) (by kernel_rfl) (by kernel_rfl) (by kernel_rfl) (fun _ _ _ h => h) hS (.inl ⟨by rfl, ?_⟩) ?_
    rotate_left 1
    · intro w' hS'; go_simp; try with_reducible rfl
    simp only [Act.put, List.setIfInBounds_toArray, List.set_cons_succ, List.set_cons_zero, List.getElem_toArray, List.getElem_cons_succ, List.getElem_cons_zero]
    refine wpAnyM_take (i := 4) (v := ?_) rfl (by kernel_rfl) (by kernel_rfl) (by kernel_rfl) (by kernel_rfl) (by kernel_rfl) (fun _ _ _ h => h) hS (.inl ⟨by rfl, ?_⟩) ?_
    rotate_left 1
    · intro w' hS'; go_simp; try with_reducible rfl
    simp only [Act.put, List.setIfInBounds_toArray, List.set_cons_succ, List.set_cons_zero, List.getElem_toArray, List.getElem_cons_succ, List.getElem_cons_zero]
    refine wpAnyM_take (i := 5) (v := ?_) rfl (by kernel_rfl) (by kernel_rfl) (by kernel_rfl) (by kernel_rfl) (by kernel_rfl) (fun _ _ _ h => h) hS (.inl ⟨by rfl, ?_⟩) ?_
    rotate_left 1
    · intro w' hS'; go_simp; try with_reducible rfl
    simp only [Act.put, List.setIfInBounds_toArray, List.set_cons_succ, List.set_cons_zero, List.getElem_toArray, List.getElem_cons_succ, List.getElem_cons_zero]
    refine wpAnyM_take (i := 6) (v := ?_) rfl (by kernel_rfl) (by kernel_rfl) (by kernel_rfl) (by kernel_rfl) (by kernel_rfl) (fun _ _ _ h => h) hS (.inl ⟨by rfl, ?_⟩) ?_
    rotate_left 1
    · intro w' hS'; go_simp; try with_reducible rfl
    simp only [Act.put, List.setIfInBounds_toArray, List.set_cons_succ, List.set_cons_zero, List.getElem_toArray, List.getElem_cons_succ, List.getElem_cons_zero]
    refine wpAnyM_take (i := 7) (v := ?_) rfl (by kernel_rfl) (by kernel_rfl) (by kernel_rfl) (by kernel_rfl) (by kernel_rfl) (fun _ _ _ h => h) hS (.inl ⟨by rfl, ?_⟩) ?_
    rotate_left 1
    · intro w' hS'; go_simp; try with_reducible rfl
    simp only [Act.put, List.setIfInBounds_toArray, List.set_cons_succ, List.set_cons_zero, List.getElem_toArray, List.getElem_cons_succ, List.getElem_cons_zero]
    clear k0 k1 k2 k3 k4 k5 k6 k7
    have j0 := br2.at_ 0 rfl
    have j1 := br2.at_ 1 rfl
    have j2 := br2.at_ 2 rfl
    have j3 := br2.at_ 3 rfl
    have j4 := br2.at_ 4 rfl
    have j5 := br2.at_ 5 rfl
    have j6 := br2.at_ 6 rfl
    have f0 := br2.thaw 0
    have f1 := br2.thaw 1
    have f2 := br2.thaw 2
    have f3 := br2.thaw 3
    have f4 := br2.thaw 4
    have f5 := br2.thaw 5
    have f6 := br2.thaw 6
    have hl := br2.lt
    refine wpAnyM_one (i := 8) (by kernel_rfl) rfl (by rfl) (fun K hK => ?_)
    go_simp
    obtain ⟨w8, hw8⟩ : ∃ v, v = World.drew (((((((w3.setCell ⟨g + 1, 0, none⟩ (.int .i64 m3.b1)).setCell ⟨g + 1, 1, none⟩ (.slice F1 m3.z1.length G1)).setCell ⟨g + 1, 2, none⟩ (.int .i64 m3.b2)).setCell ⟨g + 1, 3, none⟩ (.slice F2 m3.z2.length G2)).setCell ⟨g + 1, 4, none⟩ (.int .i64 m3.b3)).setCell ⟨g + 1, 5, none⟩ (.slice F3 m3.z3.length G3)).setCell ⟨g + 1, 6, none⟩ (.int .i64 m3.p)) := ⟨_, rfl⟩
    rw [← hw8]
    have b9 : Bx w8 (g + 1) 28 #[.int .i64 m3.b1, .slice F1 m3.z1.length G1, .int .i64 m3.b2, .slice F2 m3.z2.length G2, .int .i64 m3.b3, .slice F3 m3.z3.length G3, .int .i64 m3.p] := by rw [hw8]; exact (bx_put7 br2).drew
    have t9 : Touch (g + 1) (g + 1 + 1) w3 w8 := by rw [hw8]; exact (touch_put7 _ _).drewN 1
    have hS8 : Bx w8 p 103 #[.int .i64 m3.b1, .slice F1 m3.z1.length G1, .int .i64 m3.b2, .slice F2 m3.z2.length G2, .int .i64 m3.b3, .slice F3 m3.z3.length G3, .int .i64 m3.p, .bool t3] := (show Bx w3 p 103 #[.int .i64 m3.b1, .slice F1 m3.z1.length G1, .int .i64 m3.b2, .slice F2 m3.z2.length G2, .int .i64 m3.b3, .slice F3 m3.z3.length G3, .int .i64 m3.p, .bool t3] from hS).touch t9 (by omega)
    have hO : Own3 2 w8 w1.heap.size w3.heap.size (.slice F1 m3.z1.length G1) m3.z1 (.slice F2 m3.z2.length G2) m3.z2 (.slice F3 m3.z3.length G3) m3.z3 := hk3.own.touch t9 (.inr (by omega))
    have hbF : Below w.heap.size w w8 := hbel2.trans (t9.below (by have := HG.out; omega) hbel2.size)
    have hz8 := t9.size
    clear hw8 j0 j1 j2 j3 j4 j5 j6 f0 f1 f2 f3 f4 f5 f6 hl hk3 t9 bx
    refine hK _ _ (.inr hS8) ?_
    try simp only [Act.put, List.setIfInBounds_toArray, List.set_cons_succ, List.set_cons_zero, List.getElem_toArray, List.getElem_cons_succ, List.getElem_cons_zero]
    clear hK K
    refine wpAnyM_one (i := 9) (by kernel_rfl) rfl (by rfl) (fun K hK => ?_)
    go_simp
    refine hK _ _ (.inr hS8) ?_
    try simp only [Act.put, List.setIfInBounds_toArray, List.set_cons_succ, List.set_cons_zero, List.getElem_toArray, List.getElem_cons_succ, List.getElem_cons_zero]
    clear hK K
    refine wpAnyM_one (i := 10) (by kernel_rfl) rfl (by rfl) (fun K hK => ?_)
    go_simp
    refine hK _ _ (.inl rfl) ?_
    try simp only [Act.put, List.setIfInBounds_toArray, List.set_cons_succ, List.set_cons_zero, List.getElem_toArray, List.getElem_cons_succ, List.getElem_cons_zero]
    clear hK K
    refine wpAnyM_done (by kernel_rfl) ?_ _
    have c0 := b9.at_ 0 rfl
    have c1 := b9.at_ 1 rfl
    have c2 := b9.at_ 2 rfl
    have c3 := b9.at_ 3 rfl
    have c4 := b9.at_ 4 rfl
    have c5 := b9.at_ 5 rfl
    have c6 := b9.at_ 6 rfl
    have HO := Lib.hid hO
    have HBF := Lib.hid hbF
    have HZ := Lib.hid (show w.heap.size ≤ w1.heap.size ∧ w3.heap.size ≤ w8.heap.size by have := HG.out; omega)
    clear hO hbF hS hS8 br2 b9 hz1 hz2 hz3 hz8
    go_wp2
    exact bodyPost_ret (v := .tuple #[.agg #[.int .i64 m3.b1, .slice F1 m3.z1.length G1, .int .i64 m3.b2, .slice F2 m3.z2.length G2, .int .i64 m3.b3, .slice F3 m3.z3.length G3, .int .i64 m3.p], .bool t3, .int .i64 0]) (by simp [results, go_sem, c0, c1, c2, c3, c4, c5, c6]) rfl
      (macBC_ok HR rfl HO.out HZ.out.1 HZ.out.2 HBF.out)
  · rw [hc] at HC
    have hnb : (c != 0) = true := by simp [hne]
    clear hc hne HX h
    go_enter Tryd.func70, Tryd.ntmps70
    go_upto_region 1 with fail
    rw [← HU.out, ← hg]
    clear hg
    have x0 := HBM.out.at_ 0 rfl
    have x1 := HBM.out.at_ 1 rfl
    have x2 := HBM.out.at_ 2 rfl
    have x3 := HBM.out.at_ 3 rfl
    have x4 := HBM.out.at_ 4 rfl
    have x5 := HBM.out.at_ 5 rfl
    have x6 := HBM.out.at_ 6 rfl
    go_wp2_with fail
    rw [← HU2.out]
    clear x0 x1 x2 x3 x4 x5 x6
    with_reducible refine HC.out.mono ?_
    rintro e w1 ⟨rfl, hb⟩
    replace br2 := br2.below hb
    replace hbel2 := hbel2.trans (hb.mono hbel2.size)
    clear hb bm2
    have r0 := br2.at_ 0 rfl
    have r1 := br2.at_ 1 rfl
    have r2 := br2.at_ 2 rfl
    have r3 := br2.at_ 3 rfl
    have r4 := br2.at_ 4 rfl
    have r5 := br2.at_ 5 rfl
    have r6 := br2.at_ 6 rfl
    have f0 := br2.thaw 0
    have f1 := br2.thaw 1
    have f2 := br2.thaw 2
    have f3 := br2.thaw 3
    have f4 := br2.thaw 4
    have f5 := br2.thaw 5
    have f6 := br2.thaw 6
    have hl := br2.lt
    go_wp2
    exact bodyPost_ret (v := .tuple #[.agg #[.int .i64 0, .slice none 0 0, .int .i64 0, .slice none 0 0, .int .i64 0, .slice none 0 0, .int .i64 0], .bool false, .int .i64 c]) (by simp [results, go_sem, r0, r1, r2, r3, r4, r5, r6]) rfl (macBC_err HR rfl (by have := HG.out; exact (by repeat (first | with_reducible exact hbel2 | with_reducible refine Below.setCell ?_ (by first | omega | (simp <;> omega)) _ | with_reducible refine Below.alloc ?_ (by first | omega | (simp <;> omega)) _ | with_reducible refine Below.drew ?_))))
end Go.Proofs.YtlahobdopmdfmaaDoor

/- MdtI -/
namespace Go.Proofs.YtlahobdopmdfmaaDoor
open Go.RowKit

/-- A machine of its own, a number, a code. -/
def MacIC (R : Mac × Int × Int) (w : World) (e : Ending) (w' : World) : Prop := ∃ (A1 : Option Addr) (C1 : Nat) (A2 : Option Addr) (C2 : Nat) (A3 : Option Addr) (C3 : Nat),
  e = .returned (.tuple #[.agg #[.int .i64 R.1.b1, .slice A1 R.1.z1.length C1, .int .i64 R.1.b2, .slice A2 R.1.z2.length C2, .int .i64 R.1.b3, .slice A3 R.1.z3.length C3, .int .i64 R.1.p], .int .i64 R.2.1, .int .i64 R.2.2]) ∧ Own3 2 w' w.heap.size w'.heap.size (.slice A1 R.1.z1.length C1) R.1.z1 (.slice A2 R.1.z2.length C2) R.1.z2 (.slice A3 R.1.z3.length C3) R.1.z3 ∧ Below w.heap.size w w'
theorem macIC_err {R : Mac × Int × Int} {c : Int} {w w' : World} {e : Ending} (h : R = (mac0, 0, c)) (he : e = .returned (.tuple #[.agg #[.int .i64 0, .slice none 0 0, .int .i64 0, .slice none 0 0, .int .i64 0, .slice none 0 0, .int .i64 0], .int .i64 0, .int .i64 c])) (hb : Below w.heap.size w w') : MacIC R w e w' := by
  subst h
  exact ⟨none, 0, none, 0, none, 0, he, own3_nil _ _ _ _ hb.size, hb⟩
theorem macIC_ok {R : Mac × Int × Int} {m : Mac} {t : Int} {w w' : World} {A1 : Option Addr} {C1 : Nat} {A2 : Option Addr} {C2 : Nat} {A3 : Option Addr} {C3 : Nat} {lo hi : Nat} {e : Ending} (h : R = (m, t, 0)) (he : e = .returned (.tuple #[.agg #[.int .i64 m.b1, .slice A1 m.z1.length C1, .int .i64 m.b2, .slice A2 m.z2.length C2, .int .i64 m.b3, .slice A3 m.z3.length C3, .int .i64 m.p], .int .i64 t, .int .i64 0]))
    (ho : Own3 2 w' lo hi (.slice A1 m.z1.length C1) m.z1 (.slice A2 m.z2.length C2) m.z2 (.slice A3 m.z3.length C3) m.z3) (hl : w.heap.size ≤ lo) (hh : hi ≤ w'.heap.size) (hb : Below w.heap.size w w') : MacIC R w e w' := by
  subst h
  exact ⟨A1, C1, A2, C2, A3, C3, he, ho.wide hl hh, hb⟩

/-- What is left when k strokes have been made without a bell. -/
def RunTo (m : Mac) (l : List Int) (k : Nat) (mk : Mac) : Prop := macB mk = true ∧ runM m l = ((runM mk (l.drop k)).1, (runM mk (l.drop k)).2 + k)
theorem runTo_zero {m : Mac} (h : macB m = true) (l : List Int) : RunTo m l 0 m := ⟨h, by simp⟩
theorem runTo_bell {m mk : Mac} {l : List Int} {k : Nat} (h : RunTo m l k mk) (hk : k < l.length) (hb : (doM mk (nth l k)).2 = true) : runM m l = ((doM mk (nth l k)).1, (k : Int) + 1) := by
  rw [h.2, drop_nth hk, runM, if_pos hb]; simp only [Prod.mk.injEq, true_and]; omega
theorem runTo_next {m mk : Mac} {l : List Int} {k : Nat} (h : RunTo m l k mk) (hk : k < l.length) (hb : (doM mk (nth l k)).2 = false) : RunTo m l (k + 1) (doM mk (nth l k)).1 := by
  refine ⟨doM_ok h.1 _, ?_⟩
  rw [h.2, drop_nth hk, runM, if_neg (by rw [hb]; simp)]
  simp only [Prod.mk.injEq, true_and]; omega
theorem runTo_end {m mk : Mac} {l : List Int} (h : RunTo m l l.length mk) : runM m l = (mk, (l.length : Int)) := by
  rw [h.2, List.drop_length, runM]; simp

set_option maxRecDepth 100000 in
set_option maxHeartbeats 8000000 in
theorem implDoStrokes (m : Mac) (A1 : Option Addr) (C1 : Nat) (A2 : Option Addr) (C2 : Nat) (A3 : Option Addr) (C3 : Nat) (a : Option Addr) (c : Nat) (zs : List Int) (w : World) (h : Rd3 w A1 m.z1 A2 m.z2 A3 m.z3) (z : All64 m.z1 ∧ All64 m.z2 ∧ All64 m.z3) (y : I64 m.b1 ∧ I64 m.b2 ∧ I64 m.b3 ∧ I64 m.p) (ha : Rd w a zs) (_ : All64 zs) (hD : BellD w) :
    Calls Tryd.prog 20 #[.agg #[.int .i64 m.b1, .slice A1 m.z1.length C1, .int .i64 m.b2, .slice A2 m.z2.length C2, .int .i64 m.b3, .slice A3 m.z3.length C3, .int .i64 m.p], .slice a zs.length c] w (MacIC (dssR m zs) w) := by
  have R := Tryd.results20
  have hlen := h.len
  obtain ⟨g, hg⟩ : ∃ g, g = w.heap.size := ⟨_, rfl⟩
  obtain ⟨u, hu⟩ : ∃ u, u = (w.alloc (.cells #[.int .i64 m.b1, .slice A1 m.z1.length C1, .int .i64 m.b2, .slice A2 m.z2.length C2, .int .i64 m.b3, .slice A3 m.z3.length C3, .int .i64 m.p] 28)).alloc (.cells #[.int .i64 0, .slice none 0 0, .int .i64 0, .slice none 0 0, .int .i64 0, .slice none 0 0, .int .i64 0] 28) := ⟨_, rfl⟩
  have hbel : Below w.heap.size w u := by rw [hu]; exact (by repeat (first | exact Below.refl _ _ | refine Below.setCell ?_ (by first | omega | (simp <;> omega)) _ | refine Below.alloc ?_ (by first | omega | (simp <;> omega)) _ | refine Below.drew ?_))
  have bm : Bx u g 28 #[.int .i64 m.b1, .slice A1 m.z1.length C1, .int .i64 m.b2, .slice A2 m.z2.length C2, .int .i64 m.b3, .slice A3 m.z3.length C3, .int .i64 m.p] := by rw [hu, hg]; exact (Bx.new _ _ _).alloc _
  have br : Bx u (g + 1) 28 #[.int .i64 0, .slice none 0 0, .int .i64 0, .slice none 0 0, .int .i64 0, .slice none 0 0, .int .i64 0] := by rw [hu, hg]; simpa using Bx.new (w.alloc (.cells #[.int .i64 m.b1, .slice A1 m.z1.length C1, .int .i64 m.b2, .slice A2 m.z2.length C2, .int .i64 m.b3, .slice A3 m.z3.length C3, .int .i64 m.p] 28)) #[.int .i64 0, .slice none 0 0, .int .i64 0, .slice none 0 0, .int .i64 0, .slice none 0 0, .int .i64 0] 28
  have hgu : g + 1 < u.heap.size := br.lt
  have HC := Lib.hid (strokesCode_any m A1 C1 A2 C2 A3 C3 a c zs u (h.below hbel) z y (hD.below hbel) (ha.below hbel))
  have hzl := ha.len
  have HG := Lib.hid hg
  have HU := Lib.hid hu
  have HX : Hid ((macB m = true ∧ strB zs = true ∧ scR m zs = 0) ∨ ∃ c, scR m zs = c ∧ c ≠ 0 ∧ dssR m zs = (mac0, 0, c)) := Lib.hid (by
    unfold scR dssR
    rw [rangeB_str]
    by_cases hm : macB m = true
    · by_cases hk : strB zs = true
      · exact .inl ⟨hm, hk, by simp [hm, hk]⟩
      · exact .inr ⟨2, by simp [hm, hk], by omega, by simp [hm, hk]⟩
    · exact .inr ⟨1, by simp [hm], by omega, by simp [hm]⟩)
  clear hu z y hD
  rcases HX.out with ⟨hm, hst, hc⟩ | ⟨c, hc, hne, HR⟩
  · rw [hc] at HC
    clear hc HX
    rcases Nat.lt_or_ge 300 zs.length with hl | hl
    · have HR := Lib.hid (show dssR m zs = (mac0, 0, 5) by rw [dssR, if_pos hm, if_pos hst, if_neg (by omega)])
      have hl2 : (300 : Int) < zs.length := by omega
      clear hm hst h
      go_enter Tryd.func20, Tryd.ntmps20
      go_wp2_with fail
      rw [← HU.out, ← hg]
      clear hg
      with_reducible refine HC.out.mono ?_
      rintro e w1 ⟨rfl, hb⟩
      replace br := br.below hb
      replace hbel := hbel.trans (hb.mono hbel.size)
      clear hb bm
      have r0 := br.at_ 0 rfl
      have r1 := br.at_ 1 rfl
      have r2 := br.at_ 2 rfl
      have r3 := br.at_ 3 rfl
      have r4 := br.at_ 4 rfl
      have r5 := br.at_ 5 rfl
      have r6 := br.at_ 6 rfl
      have f0 := br.thaw 0
      have f1 := br.thaw 1
      have f2 := br.thaw 2
      have f3 := br.thaw 3
      have f4 := br.thaw 4
      have f5 := br.thaw 5
      have f6 := br.thaw 6
      have hl := br.lt
      go_wp2
      exact bodyPost_ret (v := .tuple #[.agg #[.int .i64 0, .slice none 0 0, .int .i64 0, .slice none 0 0, .int .i64 0, .slice none 0 0, .int .i64 0], .int .i64 0, .int .i64 5]) (by simp [results, go_sem, r0, r1, r2, r3, r4, r5, r6]) rfl (macIC_err HR.out rfl (by have := HG.out; exact (by repeat (first | with_reducible exact hbel | with_reducible refine Below.setCell ?_ (by first | omega | (simp <;> omega)) _ | with_reducible refine Below.alloc ?_ (by first | omega | (simp <;> omega)) _ | with_reducible refine Below.drew ?_))))
    · have HR := Lib.hid (show dssR m zs = ((runM m zs).1, (runM m zs).2, 0) by rw [dssR, if_pos hm, if_pos hst, if_pos (by omega)])
      obtain ⟨e2, e3, b0, b1, n0, n12, n2, n3, n4, p0, p1, p2, d1, d2, d3⟩ := macB_facts hm
      have HK := Lib.hid (fun (v : World) (hb : Below w.heap.size w v) => workingOf_any m A1 C1 A2 C2 A3 C3 v (h.below hb) (by omega) (by omega) (by omega))
      have HM := Lib.hid (runTo_zero hm zs)
      have HN := Lib.hid (show ∀ k, k < zs.length → 1 ≤ nth zs k ∧ nth zs k ≤ 6 from fun k hk => by
        rw [strB, decide_eq_true_eq] at hst
        rw [nth_get hk]; exact hst _ (List.getElem_mem hk))
      have hl2 : ¬ (300 : Int) < zs.length := by omega
      clear hm hst h e2 e3 b0 b1 n0 n12 n2 n3 n4 p0 p1 p2 d1 d2 d3
      go_enter Tryd.func20, Tryd.ntmps20
      go_wp2_with fail
      rw [← HU.out, ← hg]
      clear hg
      with_reducible refine HC.out.mono ?_
      rintro e w1 ⟨rfl, hb⟩
      have hz1 := hb.size
      replace br := br.below hb
      replace bm := bm.below hb
      replace hbel := hbel.trans (hb.mono hbel.size)
      clear hb
      have c0 := bm.at_ 0 rfl
      have c1 := bm.at_ 1 rfl
      have c2 := bm.at_ 2 rfl
      have c3 := bm.at_ 3 rfl
      have c4 := bm.at_ 4 rfl
      have c5 := bm.at_ 5 rfl
      have c6 := bm.at_ 6 rfl
      go_wp2_with fail
      refine (HK.out w1 hbel).mono ?_
      rintro e w2 ⟨p, rfl, hk, hb⟩
      have hz2 := hb.size
      replace br := br.below hb
      replace hbel := hbel.trans (hb.mono hbel.size)
      have hgw : g + 1 < w1.heap.size := by omega
      clear hb c0 c1 c2 c3 c4 c5 c6 bm HC HK hl2
      go_wp2_with fail
      go_loopw [9, 11, 27] (fun q _ i wr => ∃ (k : Nat) (mk : Mac), k ≤ zs.length ∧ q = .int .i64 (k : Int) ∧ i = .int .i64 (k : Int) ∧ Hid (RunTo m zs k mk) ∧ WkE wr w1.heap.size p (mk, false) ∧ Bx wr (g + 1) 28 #[.int .i64 0, .slice none 0 0, .int .i64 0, .slice none 0 0, .int .i64 0, .slice none 0 0, .int .i64 0] ∧ Below w.heap.size w wr) (fun _ _ i _ => zs.length - (intOf i).toNat)
      case atStart => exact ⟨0, m, Nat.zero_le _, rfl, rfl, HM, hk, br, hbel⟩
      case round =>
        obtain ⟨k, mk, hkl, rfl, rfl, HT, ⟨D1, E1, D2, E2, D3, E3, hw⟩, brr, hbr⟩ := hrel
        have hbs := hbr.size
        by_cases hlt : k < zs.length
        · obtain ⟨pb, po, rfl, hcz⟩ := ha.at_ hlt
          have hz := kept hbr hcz
          have hN := HN.out k hlt
          go_wp2_with fail
          refine (stroke_any w1.heap.size p mk false D1 E1 D2 E2 D3 E3 (nth zs k) wr hw HT.out.1 hN.1 hN.2).mono ?_
          rintro e w3 ⟨rfl, ⟨F1, G1, F2, G2, F3, G3, hk3⟩, hb⟩
          replace brr := brr.lo hb (by omega)
          replace hbr := hbr.trans (hb.mono (by have := HG.out; omega))
          obtain ⟨m3, hm3⟩ : ∃ x, x = (doM mk (nth zs k)).1 := ⟨_, rfl⟩
          cases ht3 : (doM mk (nth zs k)).2 with
          | true =>
            have hrun := runTo_bell HT.out hlt ht3
            rw [ht3, ← hm3] at hk3
            rw [← hm3] at hrun
            have HRR := Lib.hid (HR.out.trans (by rw [hrun]))
            have HO := Lib.hid hk3.own
            have HS := Lib.hid (show w.heap.size ≤ w1.heap.size ∧ g + 1 < w1.heap.size by have := HG.out; omega)
            have q0 := hk3.bx.at_ 0 rfl
            have q1 := hk3.bx.at_ 1 rfl
            have q2 := hk3.bx.at_ 2 rfl
            have q3 := hk3.bx.at_ 3 rfl
            have q4 := hk3.bx.at_ 4 rfl
            have q5 := hk3.bx.at_ 5 rfl
            have q6 := hk3.bx.at_ 6 rfl
            have q7 := hk3.bx.at_ 7 rfl
            have j0 := brr.at_ 0 rfl
            have j1 := brr.at_ 1 rfl
            have j2 := brr.at_ 2 rfl
            have j3 := brr.at_ 3 rfl
            have j4 := brr.at_ 4 rfl
            have j5 := brr.at_ 5 rfl
            have j6 := brr.at_ 6 rfl
            have f0 := brr.thaw 0
            have f1 := brr.thaw 1
            have f2 := brr.thaw 2
            have f3 := brr.thaw 3
            have f4 := brr.thaw 4
            have f5 := brr.thaw 5
            have f6 := brr.thaw 6
            have hl := brr.lt
            have bz : Bx (((((((w3.setCell ⟨g + 1, 0, none⟩ (.int .i64 m3.b1)).setCell ⟨g + 1, 1, none⟩ (.slice F1 m3.z1.length G1)).setCell ⟨g + 1, 2, none⟩ (.int .i64 m3.b2)).setCell ⟨g + 1, 3, none⟩ (.slice F2 m3.z2.length G2)).setCell ⟨g + 1, 4, none⟩ (.int .i64 m3.b3)).setCell ⟨g + 1, 5, none⟩ (.slice F3 m3.z3.length G3)).setCell ⟨g + 1, 6, none⟩ (.int .i64 m3.p)) (g + 1) 28 #[.int .i64 m3.b1, .slice F1 m3.z1.length G1, .int .i64 m3.b2, .slice F2 m3.z2.length G2, .int .i64 m3.b3, .slice F3 m3.z3.length G3, .int .i64 m3.p] := bx_put7 brr
            have r0 := bz.at_ 0 rfl
            have r1 := bz.at_ 1 rfl
            have r2 := bz.at_ 2 rfl
            have r3 := bz.at_ 3 rfl
            have r4 := bz.at_ 4 rfl
            have r5 := bz.at_ 5 rfl
            have r6 := bz.at_ 6 rfl
            clear bz
            clear HT hN hz hcz ht3 hm3 hrun hk3 hb hw HN HR HM hk br hbel hz1 hz2 hbs
            go_wp2
            exact bodyPost_ret (v := .tuple #[.agg #[.int .i64 m3.b1, .slice F1 m3.z1.length G1, .int .i64 m3.b2, .slice F2 m3.z2.length G2, .int .i64 m3.b3, .slice F3 m3.z3.length G3, .int .i64 m3.p], .int .i64 ((k : Int) + 1), .int .i64 0]) (by simp [results, go_sem, r0, r1, r2, r3, r4, r5, r6]) rfl
              (macIC_ok HRR.out rfl (((((((HO.out.setCell (p := ⟨g + 1, 0, none⟩) (.inl HS.out.2) _).setCell (p := ⟨g + 1, 1, none⟩) (.inl HS.out.2) _).setCell (p := ⟨g + 1, 2, none⟩) (.inl HS.out.2) _).setCell (p := ⟨g + 1, 3, none⟩) (.inl HS.out.2) _).setCell (p := ⟨g + 1, 4, none⟩) (.inl HS.out.2) _).setCell (p := ⟨g + 1, 5, none⟩) (.inl HS.out.2) _).setCell (p := ⟨g + 1, 6, none⟩) (.inl HS.out.2) _) HS.out.1 (by simp) (by have := HG.out; exact (by repeat (first | with_reducible exact hbr | with_reducible refine Below.setCell ?_ (by first | omega | (simp <;> omega)) _ | with_reducible refine Below.alloc ?_ (by first | omega | (simp <;> omega)) _ | with_reducible refine Below.drew ?_))))
          | false =>
            have HT2 := Lib.hid (runTo_next HT.out hlt ht3)
            rw [ht3, ← hm3] at hk3
            rw [← hm3] at HT2
            have q7 := hk3.bx.at_ 7 rfl
            clear ht3 hm3 HT hN hz hcz hw hb
            go_wp2
            go_roundw
            case rel => exact ⟨k + 1, m3, by omega, by go_num, by go_num, HT2, ⟨F1, G1, F2, G2, F3, G3, hk3⟩, brr, hbr⟩
            case measure => (simp [intOf]) <;> omega
        · obtain rfl : k = zs.length := by omega
          have hrun := runTo_end HT.out
          have HRR := Lib.hid (HR.out.trans (by rw [hrun]))
          have HO := Lib.hid hw.own
          have HS := Lib.hid (show w.heap.size ≤ w1.heap.size ∧ g + 1 < w1.heap.size by have := HG.out; omega)
          have q0 := hw.bx.at_ 0 rfl
          have q1 := hw.bx.at_ 1 rfl
          have q2 := hw.bx.at_ 2 rfl
          have q3 := hw.bx.at_ 3 rfl
          have q4 := hw.bx.at_ 4 rfl
          have q5 := hw.bx.at_ 5 rfl
          have q6 := hw.bx.at_ 6 rfl
          have j0 := brr.at_ 0 rfl
          have j1 := brr.at_ 1 rfl
          have j2 := brr.at_ 2 rfl
          have j3 := brr.at_ 3 rfl
          have j4 := brr.at_ 4 rfl
          have j5 := brr.at_ 5 rfl
          have j6 := brr.at_ 6 rfl
          have f0 := brr.thaw 0
          have f1 := brr.thaw 1
          have f2 := brr.thaw 2
          have f3 := brr.thaw 3
          have f4 := brr.thaw 4
          have f5 := brr.thaw 5
          have f6 := brr.thaw 6
          have hl := brr.lt
          have bz : Bx (((((((wr.setCell ⟨g + 1, 0, none⟩ (.int .i64 mk.b1)).setCell ⟨g + 1, 1, none⟩ (.slice D1 mk.z1.length E1)).setCell ⟨g + 1, 2, none⟩ (.int .i64 mk.b2)).setCell ⟨g + 1, 3, none⟩ (.slice D2 mk.z2.length E2)).setCell ⟨g + 1, 4, none⟩ (.int .i64 mk.b3)).setCell ⟨g + 1, 5, none⟩ (.slice D3 mk.z3.length E3)).setCell ⟨g + 1, 6, none⟩ (.int .i64 mk.p)) (g + 1) 28 #[.int .i64 mk.b1, .slice D1 mk.z1.length E1, .int .i64 mk.b2, .slice D2 mk.z2.length E2, .int .i64 mk.b3, .slice D3 mk.z3.length E3, .int .i64 mk.p] := bx_put7 brr
          have r0 := bz.at_ 0 rfl
          have r1 := bz.at_ 1 rfl
          have r2 := bz.at_ 2 rfl
          have r3 := bz.at_ 3 rfl
          have r4 := bz.at_ 4 rfl
          have r5 := bz.at_ 5 rfl
          have r6 := bz.at_ 6 rfl
          clear bz
          clear HT hrun hw HN HR HM hk br hbel hz1 hz2 hbs
          go_wp2
          exact bodyPost_ret (v := .tuple #[.agg #[.int .i64 mk.b1, .slice D1 mk.z1.length E1, .int .i64 mk.b2, .slice D2 mk.z2.length E2, .int .i64 mk.b3, .slice D3 mk.z3.length E3, .int .i64 mk.p], .int .i64 zs.length, .int .i64 0]) (by simp [results, go_sem, r0, r1, r2, r3, r4, r5, r6]) rfl
            (macIC_ok HRR.out rfl (((((((HO.out.setCell (p := ⟨g + 1, 0, none⟩) (.inl HS.out.2) _).setCell (p := ⟨g + 1, 1, none⟩) (.inl HS.out.2) _).setCell (p := ⟨g + 1, 2, none⟩) (.inl HS.out.2) _).setCell (p := ⟨g + 1, 3, none⟩) (.inl HS.out.2) _).setCell (p := ⟨g + 1, 4, none⟩) (.inl HS.out.2) _).setCell (p := ⟨g + 1, 5, none⟩) (.inl HS.out.2) _).setCell (p := ⟨g + 1, 6, none⟩) (.inl HS.out.2) _) HS.out.1 (by simp) (by have := HG.out; exact (by repeat (first | with_reducible exact hbr | with_reducible refine Below.setCell ?_ (by first | omega | (simp <;> omega)) _ | with_reducible refine Below.alloc ?_ (by first | omega | (simp <;> omega)) _ | with_reducible refine Below.drew ?_))))
  · rw [hc] at HC
    have hnb : (c != 0) = true := by simp [hne]
    clear hc hne HX h
    go_enter Tryd.func20, Tryd.ntmps20
    go_wp2_with fail
    rw [← HU.out, ← hg]
    clear hg
    with_reducible refine HC.out.mono ?_
    rintro e w1 ⟨rfl, hb⟩
    replace br := br.below hb
    replace hbel := hbel.trans (hb.mono hbel.size)
    clear hb bm
    have r0 := br.at_ 0 rfl
    have r1 := br.at_ 1 rfl
    have r2 := br.at_ 2 rfl
    have r3 := br.at_ 3 rfl
    have r4 := br.at_ 4 rfl
    have r5 := br.at_ 5 rfl
    have r6 := br.at_ 6 rfl
    have f0 := br.thaw 0
    have f1 := br.thaw 1
    have f2 := br.thaw 2
    have f3 := br.thaw 3
    have f4 := br.thaw 4
    have f5 := br.thaw 5
    have f6 := br.thaw 6
    have hl := br.lt
    go_wp2
    exact bodyPost_ret (v := .tuple #[.agg #[.int .i64 0, .slice none 0 0, .int .i64 0, .slice none 0 0, .int .i64 0, .slice none 0 0, .int .i64 0], .int .i64 0, .int .i64 c]) (by simp [results, go_sem, r0, r1, r2, r3, r4, r5, r6]) rfl (macIC_err HR rfl (by have := HG.out; exact (by repeat (first | with_reducible exact hbel | with_reducible refine Below.setCell ?_ (by first | omega | (simp <;> omega)) _ | with_reducible refine Below.alloc ?_ (by first | omega | (simp <;> omega)) _ | with_reducible refine Below.drew ?_))))
end Go.Proofs.YtlahobdopmdfmaaDoor

/- MmvS -/
namespace Go.Proofs.YtlahobdopmdfmaaDoor
open Go.RowKit Go.BigFrame

set_option maxRecDepth 100000 in
set_option maxHeartbeats 8000000 in
theorem l10Move_any (p o : Nat) (B : Int) (A : Option Addr) (C : Nat) (zs : List Int) (x : Int) (w : World) (ha : Rd w A zs) (hp0 : w.cell? ⟨p, o, none⟩ = some (.int .i64 B)) (hp1 : w.cell? ⟨p, o + 1, none⟩ = some (.slice A zs.length C)) (h : accB B zs = true)
    (x0 : -1000000000001 ≤ x) (x1 : x ≤ 1000000000001) :
    Calls Tryd.prog 182 #[.pointer (some ⟨p, o, none⟩), .int .i64 x] w fun e w' => ∃ D E, e = .returned (.tuple #[.agg #[.int .i64 B, .slice D zs.length E], .bool (movO B zs x)]) ∧
      Own 2 w' w.heap.size w'.heap.size (.slice D zs.length E) (movZ B zs x) ∧ Below w.heap.size w w' := by
  have R := Tryd.results182
  have hpl : p < w.heap.size := World.block_lt_of_cell? _ _ hp0
  obtain ⟨hok, hf⟩ := accB_spec h
  obtain ⟨b0, b1, n0, n1, hd, hv⟩ := okB_spec hok
  have hlt := valR_lt (show 1 ≤ B by omega) hd
  have hpw := pow_mono' b0 n0
  rw [Int.pow_one] at hpw
  have HP := Lib.hid (fun v => l10Power_any B zs.length v (by omega) b1 n1)
  rw [capW_full hf] at HP
  have HV := Lib.hid (fun (v : World) (hb : Below w.heap.size w v) => l02Value_any B A C zs v (ha.below hb) b0 b1 hd)
  rw [capV_ok b0 hd hv] at HV
  have HZ := Lib.hid (show movZ B zs x = digsR B zs.length ((valR B zs + x) % B ^ zs.length) from rfl)
  have HO := Lib.hid (show movO B zs x = !(inB (valR B zs + x) 0 (B ^ zs.length - 1)) by rw [movO, inB_dec])
  obtain ⟨N, hN⟩ : ∃ N, N = B ^ zs.length := ⟨_, rfl⟩
  obtain ⟨V, hV⟩ : ∃ V, V = valR B zs := ⟨_, rfl⟩
  rw [← hN] at HP HZ HO hlt hpw hf
  rw [← hV] at HV HZ HO hlt hv
  obtain ⟨m1, m2, m3⟩ := mod_twiceS (n := V + x) (c := N) (by omega)
  have hm0 := Int.emod_nonneg (V + x) (show N ≠ 0 by omega)
  have hm1 := Int.emod_lt_of_pos (V + x) (show 0 < N by omega)
  obtain ⟨r, hr⟩ : ∃ r, (V + x).tmod N = r := ⟨_, rfl⟩
  obtain ⟨q, hq⟩ : ∃ q, q = (V + x) % N := ⟨_, rfl⟩
  rw [hr] at m1 m2 m3
  rw [← hq] at m3 hm0 hm1 HZ
  have hc0 : ¬ N = 0 := by omega
  have hws : IntKind.i64.wrap (V + x) = V + x := IntWalk.i64_in _ (by omega)
  have hw1 : IntKind.i64.wrap (r + N) = r + N := IntWalk.i64_in _ (by omega)
  have hw2 : wrap64 (r + N) = r + N := by unfold wrap64; omega
  have hw3 : IntKind.i64.wrap (N - 1) = N - 1 := IntWalk.i64_in _ (by omega)
  have HN := Lib.hid (fun v => specl02New_any B q zs.length v b0 b1 n1 hm0 (by omega))
  have HI := Lib.hid (fun v => l00In_any (V + x) 0 (N - 1) v)
  obtain ⟨t, ht⟩ : ∃ t, t = inB (V + x) 0 (N - 1) := ⟨_, rfl⟩
  rw [← ht] at HI HO
  have HL := Lib.hid (digsR_len B zs.length q)
  obtain ⟨Z, hZ⟩ : ∃ Z, Z = digsR B zs.length q := ⟨_, rfl⟩
  rw [← hZ] at HN HZ HL
  obtain ⟨k, hk⟩ : ∃ k, k = leftR B zs.length q := ⟨_, rfl⟩
  rw [← hk] at HN
  obtain ⟨g, hg⟩ : ∃ g, g = w.heap.size := ⟨_, rfl⟩
  obtain ⟨u, hu⟩ : ∃ u, u = w.alloc (.cells #[.int .i64 0, .slice none 0 0] 26) := ⟨_, rfl⟩
  have hbel : Below w.heap.size w u := by rw [hu]; exact (by repeat (first | exact Below.refl _ _ | refine Below.setCell ?_ (by first | omega | (simp <;> omega)) _ | refine Below.alloc ?_ (by first | omega | (simp <;> omega)) _ | refine Below.drew ?_))
  have br : Bx u g 26 #[.int .i64 0, .slice none 0 0] := by rw [hu, hg]; exact Bx.new _ _ _
  have hgu : g < u.heap.size := br.lt
  have hpg : p < g := by omega
  have HG := Lib.hid hg
  have HU := Lib.hid hu
  have c0 := kept hbel hp0
  have c1 := kept hbel hp1
  clear hu h hok hf b0 b1 n0 n1 hd hv hlt hpw hN hV hq hZ hk ha hp0 hp1 ht hm0 hm1 m1 m2 x0 x1
  go_enter Tryd.func182, Tryd.ntmps182
  go_upto_region 1 with fail
  rw [← HU.out, ← hg]
  clear hg
  go_wp2_with fail
  refine (HP.out u).mono ?_
  rintro e w1 ⟨rfl, hw⟩
  subst w1
  go_upto_region 3 with fail
  have k0 := kept_after c0
  have k1 := kept_after c1
  have HV2 := Lib.hid (fun (v : World) (hb : Below u.heap.size u v) => HV.out v (hbel.trans (hb.mono hbel.size)))
  refine wp_region_after (by kernel_rfl) (by kernel_rfl) ?_
  repeat (go_big_quiet_step ((go_at_call 97; exact calls_after ((HV2.out _ (After.ok _)).mono fun e w' ⟨x, y⟩ => ⟨x, (by rw [y]; exact Below.refl _ _)⟩))))
  refine wpQuiet_nil ?_
  intro uu
  clear k0 k1 HV2 HV
  obtain ⟨W, hW⟩ : ∃ W, W = uu.now := ⟨_, rfl⟩
  have hbW : Below u.heap.size u W := by rw [hW]; exact uu.ok
  rw [← hW]
  clear hW uu
  have hzW := hbW.size
  replace br := br.below hbW
  replace c0 := kept hbW c0
  replace c1 := kept hbW c1
  replace hbel := hbel.trans (hbW.mono hbel.size)
  clear hbW
  go_upto_region 4 with fail
  go_cut [9, 10] from 11 (fun sl9 sl10 wx => BoxReg W B Z sl9 wx ∧ sl10 = .int .i64 k)
  case first =>
    have k0 := kept_all c0
    have k1 := kept_all c1
    clear br
    go_region_held3 (fun w' => Below W.heap.size W w') (first | exact hk | exact (Below.refl _ _).drew | exact hk.alloc hk.size _ | exact (Below.refl _ _).drew.alloc (Nat.le_refl _) _ | exact (hk.alloc hk.size _).setCell hk.size _ | exact (hk.setCell bg.out _).setCell bg.out _)
      (first
      | (go_at_call 129; have qB := ‹Below W.heap.size W _›; ((with_reducible refine (HN.out ((W.alloc (.cells #[.int .i64 0, .slice none 0 0] 26)).drew)).mono ?_)); rintro e w3 ⟨D, E, rfl, own, hb⟩; have bz := ((Bx.new W #[.int .i64 0, .slice none 0 0] 26).drew); have bg : Hid (W.heap.size ≤ W.drew.heap.size) := Lib.hid (Nat.le_refl _); have bh := Lib.hid bz.lt; replace bz := bz.below hb; have bz0 := bz.at_ 0 rfl; have bf0 := bz.thaw 0; have bz1 := bz.at_ 1 rfl; have bf1 := bz.thaw 1; have hkU := qB; have hbU := hb; have hk := qB.trans (hb.mono qB.size))
      | (go_at_call 129; have qB := ‹Below W.heap.size W _›; ((with_reducible refine (HN.out W.drew).mono ?_)); rintro e w3 ⟨D, E, rfl, own, hb⟩; have hkU := qB; have hbU := hb; have hk := qB.trans (hb.mono qB.size)))
    all_goals (go_wp2_with fail; go_meet; case rel => (rw [← HL.out] at own ⊢; first | with_reducible exact ⟨boxReg_after hkU hbU own, rfl⟩ | with_reducible exact ⟨boxReg_before hkU hbU own bz bg bh, rfl⟩ | exact ⟨boxReg_after hkU hbU own, rfl⟩ | exact ⟨boxReg_before hkU hbU own bz bg bh, rfl⟩))
  case rest =>
  obtain ⟨⟨c, A', C', lo, hi, rfl, cq0, cq1, own, s1, s2, s3, s4, s5, hb⟩, rfl⟩ := hcut
  obtain ⟨w2, rfl⟩ : ∃ u, u = wc := ⟨_, rfl⟩
  have hz2 := hb.size
  replace br := br.below hb
  replace hbel := hbel.trans (hb.mono hbel.size)
  rw [HL.out] at cq1 own
  clear hb c0 c1 HN
  have hcg : ¬ c = g := by have := s3.out; omega
  have hgc : ¬ g = c := fun e => hcg e.symm
  go_upto_region 5 with fail
  refine wp_region_marked (fun w' => w'.cell? ⟨c, 0, none⟩ = some (.int .i64 B) ∧ w'.cell? ⟨c, 1, none⟩ = some (.slice A' zs.length C')) 7 (by kernel_rfl) ?_
  have hS : w2.drew.cell? ⟨c, 0, none⟩ = some (.int .i64 B) ∧ w2.drew.cell? ⟨c, 1, none⟩ = some (.slice A' zs.length C') := ⟨cq0, cq1⟩
  have k0 : ∀ w' : World, (w'.cell? ⟨c, 0, none⟩ = some (.int .i64 B) ∧ w'.cell? ⟨c, 1, none⟩ = some (.slice A' zs.length C')) → w'.cell? ⟨c, 0, none⟩ = some (.int .i64 B) := fun _ h => h.1
  have k1 : ∀ w' : World, (w'.cell? ⟨c, 0, none⟩ = some (.int .i64 B) ∧ w'.cell? ⟨c, 1, none⟩ = some (.slice A' zs.length C')) → w'.cell? ⟨c, 1, none⟩ = some (.slice A' zs.length C') := fun _ h => h.2
  refine wpAnyM_take (i := 0) (v := ?_) rfl (by kernel_rfl) (by kernel_rfl) (by kernel_rfl) (by kernel_rfl) (by kernel_rfl) (fun _ _ _ h => h) hS (.inl ⟨by rfl, ?_⟩) ?_
  rotate_left 1
  · intro w' hS'; go_simp; try with_reducible rfl
  simp only [Act.put, List.setIfInBounds_toArray, List.set_cons_succ, List.set_cons_zero, List.getElem_toArray, List.getElem_cons_zero]
  clear k0 k1
  refine wpAnyM_take (i := 1) (v := ?_) rfl (by kernel_rfl) (by kernel_rfl) (by kernel_rfl) (by kernel_rfl) (by kernel_rfl) (fun _ _ _ h => h) hS (.inl ⟨by rfl, ?_⟩) ?_
  rotate_left 1
  · intro w' hS'; go_simp; try with_reducible rfl
  simp only [Act.put, List.setIfInBounds_toArray, List.set_cons_succ, List.set_cons_zero, List.getElem_toArray, List.getElem_cons_succ, List.getElem_cons_zero]
  refine wpAnyM_take (i := 2) (v := ?_) rfl (by kernel_rfl) (by kernel_rfl) (by kernel_rfl) (by kernel_rfl) (by kernel_rfl) (fun _ _ _ h => h) hS (.inl ⟨by rfl, ?_⟩) ?_
  rotate_left 1
  · intro w' hS'; go_simp; try with_reducible rfl
  simp only [Act.put, List.setIfInBounds_toArray, List.set_cons_succ, List.set_cons_zero, List.getElem_toArray, List.getElem_cons_succ, List.getElem_cons_zero]
  refine wpAnyM_take (i := 3) (v := ?_) rfl (by kernel_rfl) (by kernel_rfl) (by kernel_rfl) (by kernel_rfl) (by kernel_rfl) (fun _ _ _ h => h) hS (.inl ⟨by rfl, ?_⟩) ?_
  rotate_left 1
  · intro w' hS'; go_simp; try with_reducible rfl
  simp only [Act.put, List.setIfInBounds_toArray, List.set_cons_succ, List.set_cons_zero, List.getElem_toArray, List.getElem_cons_succ, List.getElem_cons_zero]
  refine wpAnyM_one (i := 4) (by kernel_rfl) rfl (by rfl) (fun K hK => ?_)
  go_simp
  refine (HI.out w2.drew).mono ?_
  rintro e w3 ⟨rfl, hw⟩
  subst w3
  refine hK _ _ (.inr hS) ?_
  try simp only [Act.put, List.setIfInBounds_toArray, List.set_cons_succ, List.set_cons_zero, List.getElem_toArray, List.getElem_cons_succ, List.getElem_cons_zero]
  clear hK K
  refine wpAnyM_take (i := 5) (v := ?_) rfl (by kernel_rfl) (by kernel_rfl) (by kernel_rfl) (by kernel_rfl) (by kernel_rfl) (fun _ _ _ h => h) hS (.inl ⟨by rfl, ?_⟩) ?_
  rotate_left 1
  · intro w' hS'; go_simp; try with_reducible rfl
  simp only [Act.put, List.setIfInBounds_toArray, List.set_cons_succ, List.set_cons_zero, List.getElem_toArray, List.getElem_cons_succ, List.getElem_cons_zero]
  have r0 := br.at_ 0 rfl
  have r1 := br.at_ 1 rfl
  have f0 := br.thaw 0
  have f1 := br.thaw 1
  have hl := br.lt
  clear cq0 cq1
  refine wpAnyM_one (i := 6) (by kernel_rfl) rfl (by rfl) (fun K hK => ?_)
  go_simp
  obtain ⟨w8, hw8⟩ : ∃ v, v = World.drew ((w2.setCell ⟨g, 0, none⟩ (.int .i64 B)).setCell ⟨g, 1, none⟩ (.slice A' zs.length C')) := ⟨_, rfl⟩
  rw [← hw8]
  have b9 : Bx w8 g 26 #[.int .i64 B, .slice A' zs.length C'] := by rw [hw8]; exact ((br.set_ 0 _).set_ 1 _).drew
  have hS8 : w8.cell? ⟨c, 0, none⟩ = some (.int .i64 B) ∧ w8.cell? ⟨c, 1, none⟩ = some (.slice A' zs.length C') := by
    rw [hw8]
    exact ⟨cell_far (cell_far hS.1 (by simpa using hcg) _) (by simpa using hcg) _, cell_far (cell_far hS.2 (by simpa using hcg) _) (by simpa using hcg) _⟩
  have s2o := s2.out
  have o8 : Own 2 w8 lo hi (.slice A' zs.length C') Z := by rw [hw8]; exact ((own.setCell (.inl (by simp; omega)) _).setCell (.inl (by simp; omega)) _).drew
  have hb8 : Below w.heap.size w w8 := by rw [hw8]; have := HG.out; exact ((hbel.setCell (by simp; omega) _).setCell (by simp; omega) _).drew
  have hz8 : w8.heap.size = w2.heap.size := by rw [hw8]; simp
  clear hw8 r0 r1 f0 f1 hl br own
  refine hK _ _ (.inr hS8) ?_
  try simp only [Act.put, List.setIfInBounds_toArray, List.set_cons_succ, List.set_cons_zero, List.getElem_toArray, List.getElem_cons_succ, List.getElem_cons_zero]
  clear hK K
  refine wpAnyM_one (i := 7) (by kernel_rfl) rfl (by rfl) (fun K hK => ?_)
  go_simp
  refine hK _ _ (.inl rfl) ?_
  try simp only [Act.put, List.setIfInBounds_toArray, List.set_cons_succ, List.set_cons_zero, List.getElem_toArray, List.getElem_cons_succ, List.getElem_cons_zero]
  clear hK K
  refine wpAnyM_done (by kernel_rfl) ?_ _
  have r0 := b9.at_ 0 rfl
  have r1 := b9.at_ 1 rfl
  have HE := Lib.hid o8
  have HB := Lib.hid hb8
  have HS := Lib.hid (show w.heap.size ≤ lo ∧ hi ≤ w8.heap.size by have := HG.out; have := s5.out; omega)
  clear o8 hb8 hS hS8 s2o hz8 hbel
  go_wp2
  exact bodyPost_ret (v := .tuple #[.agg #[.int .i64 B, .slice A' zs.length C'], .bool (!t)]) (by simp [results, go_sem, r0, r1]) rfl
    ⟨A', C', by rw [HO.out], by rw [HZ.out]; exact HE.out.wide HS.out.1 HS.out.2, HB.out⟩
end Go.Proofs.YtlahobdopmdfmaaDoor

/- MtnS -/
namespace Go.Proofs.YtlahobdopmdfmaaDoor
open Go.RowKit Go.BigFrame

/-- A machine in the box p: its rows lie at L or behind it, apart from each other and from the box. -/
structure Wm (w : World) (L p : Nat) (m : Mac) (A1 : Option Addr) (C1 : Nat) (A2 : Option Addr) (C2 : Nat) (A3 : Option Addr) (C3 : Nat) : Prop where
  bx : Bx w p 28 #[.int .i64 m.b1, .slice A1 m.z1.length C1, .int .i64 m.b2, .slice A2 m.z2.length C2, .int .i64 m.b3, .slice A3 m.z3.length C3, .int .i64 m.p]
  lp : L ≤ p
  ex : ∃ l1 h1 l2 h2 l3 h3 : Nat, Own 2 w l1 h1 (.slice A1 m.z1.length C1) m.z1 ∧ Own 2 w l2 h2 (.slice A2 m.z2.length C2) m.z2 ∧ Own 2 w l3 h3 (.slice A3 m.z3.length C3) m.z3 ∧
    L ≤ l1 ∧ L ≤ l2 ∧ L ≤ l3 ∧ h1 ≤ w.heap.size ∧ h2 ≤ w.heap.size ∧ h3 ≤ w.heap.size ∧ (h1 ≤ l2 ∨ h2 ≤ l1) ∧ (h1 ≤ l3 ∨ h3 ≤ l1) ∧ (h2 ≤ l3 ∨ h3 ≤ l2) ∧ (p < l1 ∨ h1 ≤ p) ∧ (p < l2 ∨ h2 ≤ p) ∧ (p < l3 ∨ h3 ≤ p)
/-- The same, wherever its rows lie. -/
def WmE (w : World) (L p : Nat) (m : Mac) : Prop := ∃ (A1 : Option Addr) (C1 : Nat) (A2 : Option Addr) (C2 : Nat) (A3 : Option Addr) (C3 : Nat), Wm w L p m A1 C1 A2 C2 A3 C3
theorem Wm.below {w w' : World} {L p : Nat} {m : Mac} {A1 : Option Addr} {C1 : Nat} {A2 : Option Addr} {C2 : Nat} {A3 : Option Addr} {C3 : Nat} (h : Wm w L p m A1 C1 A2 C2 A3 C3) (hb : Below w.heap.size w w') : Wm w' L p m A1 C1 A2 C2 A3 C3 := by
  obtain ⟨l1, h1, l2, h2, l3, h3, o1, o2, o3, s⟩ := h.ex
  have := hb.size
  exact ⟨h.bx.below hb, h.lp, l1, h1, l2, h2, l3, h3, o1.below hb, o2.below hb, o3.below hb, by omega⟩
theorem Wm.move {w : World} {L p : Nat} {m : Mac} {A1 : Option Addr} {C1 : Nat} {A2 : Option Addr} {C2 : Nat} {A3 : Option Addr} {C3 : Nat} (h : Wm w L p m A1 C1 A2 C2 A3 C3) (k : Int) : Wm (w.setCell ⟨p, 6, none⟩ (.int .i64 k)) L p ⟨m.b1, m.z1, m.b2, m.z2, m.b3, m.z3, k⟩ A1 C1 A2 C2 A3 C3 := by
  obtain ⟨l1, h1, l2, h2, l3, h3, o1, o2, o3, s⟩ := h.ex
  exact ⟨h.bx.set_ 6 _, h.lp, l1, h1, l2, h2, l3, h3, o1.setCell (by simp; omega) _, o2.setCell (by simp; omega) _, o3.setCell (by simp; omega) _, by simpa using s⟩
theorem Wm.belowL {w : World} {L p : Nat} {m : Mac} {A1 : Option Addr} {C1 : Nat} {A2 : Option Addr} {C2 : Nat} {A3 : Option Addr} {C3 : Nat} (h : Wm w L p m A1 C1 A2 C2 A3 C3) (i : Nat) (v : Value) : Below L w (w.setCell ⟨p, i, none⟩ v) := (Below.mono (Below.refl _ _) (by have := h.lp; have := h.bx.lt; omega)).setCell h.lp _
theorem Wm.rd {w : World} {L p : Nat} {m : Mac} {A1 : Option Addr} {C1 : Nat} {A2 : Option Addr} {C2 : Nat} {A3 : Option Addr} {C3 : Nat} (h : Wm w L p m A1 C1 A2 C2 A3 C3) : Rd3 w A1 m.z1 A2 m.z2 A3 m.z3 := by
  obtain ⟨l1, h1, l2, h2, l3, h3, o1, o2, o3, s⟩ := h.ex
  exact ⟨o1.rd, o2.rd, o3.rd⟩
theorem Wm.own {w : World} {L p : Nat} {m : Mac} {A1 : Option Addr} {C1 : Nat} {A2 : Option Addr} {C2 : Nat} {A3 : Option Addr} {C3 : Nat} (h : Wm w L p m A1 C1 A2 C2 A3 C3) : Own3 2 w L w.heap.size (.slice A1 m.z1.length C1) m.z1 (.slice A2 m.z2.length C2) m.z2 (.slice A3 m.z3.length C3) m.z3 := by
  obtain ⟨l1, h1, l2, h2, l3, h3, o1, o2, o3, s⟩ := h.ex
  exact ⟨l1, h1, l2, h2, l3, h3, o1, o2, o3, by omega⟩

theorem unit_bd {m : Mac} (h : macB m = true) : 1 ≤ unitM m ∧ unitM m ≤ 1000000000001 ∧ 0 ≤ valR m.b1 m.z1 ∧ unitM m * valR m.b1 m.z1 ≤ 1000000000001 ∧ 0 ≤ unitM m * valR m.b1 m.z1 := by
  obtain ⟨_, _, _, _, _, f2, f3, _⟩ := macB_spec h
  obtain ⟨e2, e3, b0, b1, n0, n12, n2, n3, n4, p0, p1, p2, d1, d2, d3⟩ := macB_facts h
  have h1 := pow_pos' (show 1 ≤ m.b1 by omega) m.p.toNat
  have h2 := pow_mono' b0 (show m.p.toNat ≤ m.z3.length by omega)
  have hv := valR_lt (show 1 ≤ m.b1 by omega) d1
  have h3 := pow_mono' b0 (show m.p.toNat + m.z1.length ≤ m.z2.length by omega)
  rw [Int.pow_add] at h3
  have h4 : m.b1 ^ m.p.toNat * valR m.b1 m.z1 ≤ m.b1 ^ m.p.toNat * m.b1 ^ m.z1.length := Int.mul_le_mul_of_nonneg_left (by omega) (by omega)
  have h5 : 0 ≤ m.b1 ^ m.p.toNat * valR m.b1 m.z1 := Int.mul_nonneg (by omega) hv.1
  unfold unitM
  omega

set_option maxRecDepth 100000 in
set_option maxHeartbeats 8000000 in
theorem l10Turn_any (L p : Nat) (m : Mac) (A1 : Option Addr) (C1 : Nat) (A2 : Option Addr) (C2 : Nat) (A3 : Option Addr) (C3 : Nat) (s : Int) (w : World) (hk : Wm w L p m A1 C1 A2 C2 A3 C3) (hm : macB m = true) (hs : s = 1 ∨ s = -1) :
    Calls Tryd.prog 150 #[.pointer (some ⟨p, 0, none⟩), .int .i64 s] w fun e w' => e = .returned (.bool (trnM m s).2) ∧ WmE w' L p (trnM m s).1 ∧ Below L w w' := by
  have hacc := macB_acc hm
  obtain ⟨e2, e3, b0, b1, n0, n12, n2, n3, n4, p0, p1, p2, d1, d2, d3⟩ := macB_facts hm
  have hok := okB_spec (macB_spec hm).1
  obtain ⟨U1, U2, V0, UV1, UV0⟩ := unit_bd hm
  obtain ⟨P, hP⟩ := Int.eq_ofNat_of_zero_le p0
  have HU : Hid (unitM m = m.b1 ^ P) := Lib.hid (by rw [unitM, hP]; rfl)
  have HPw := Lib.hid (fun v => l10Power_any m.b1 P v (by omega) b1 (by omega))
  rw [capW_full (by have := HU.out; omega), ← HU.out] at HPw
  have HT := Lib.hid (show trnM m s = (⟨m.b1, m.z1, m.b2, movZ m.b2 m.z2 (s * unitM m * valR m.b1 m.z1), m.b3, movZ m.b3 m.z3 (s * unitM m), m.p⟩, movO m.b2 m.z2 (s * unitM m * valR m.b1 m.z1)) by rw [trnM, Int.mul_assoc])
  obtain ⟨U, hU⟩ : ∃ U, U = unitM m := ⟨_, rfl⟩
  obtain ⟨V, hV⟩ : ∃ V, V = valR m.b1 m.z1 := ⟨_, rfl⟩
  have HV := Lib.hid (fun (v : World) (hr : Rd v A1 m.z1) => l02Value_any m.b1 A1 C1 m.z1 v hr b0 b1 d1)
  rw [capV_ok b0 d1 hok.2.2.2.2.2, ← hV] at HV
  rw [← hU] at HPw HT U1 U2 UV1 UV0
  rw [← hV] at HT V0 UV1 UV0
  have hy : -1000000000001 ≤ s * U ∧ s * U ≤ 1000000000001 := by rcases hs with rfl | rfl <;> omega
  have hx : -1000000000001 ≤ s * U * V ∧ s * U * V ≤ 1000000000001 := by rw [Int.mul_assoc]; rcases hs with rfl | rfl <;> omega
  have hw1 : IntKind.i64.wrap (s * U) = s * U := IntWalk.i64_in _ (by omega)
  have hw2 : IntKind.i64.wrap (s * U * V) = s * U * V := IntWalk.i64_in _ (by omega)
  have hw3 : wrap64 (s * U) = s * U := by unfold wrap64; omega
  have hw4 : wrap64 (s * U * V) = s * U * V := by unfold wrap64; omega
  obtain ⟨y, hyd⟩ : ∃ y, s * U = y := ⟨_, rfl⟩
  rw [hyd] at HT hy hx hw1 hw2 hw3 hw4
  obtain ⟨x, hxd⟩ : ∃ x, y * V = x := ⟨_, rfl⟩
  rw [hxd] at HT hx hw2 hw4
  have HM2 := Lib.hid (fun (v : World) (h : Wm v L p m A1 C1 A2 C2 A3 C3) => l10Move_any p 2 m.b2 A2 C2 m.z2 x v h.rd.y (h.bx.at_ 2 rfl) (h.bx.at_ 3 rfl) hacc.1 hx.1 hx.2)
  have HM3 := Lib.hid (fun (v : World) (h : Wm v L p m A1 C1 A2 C2 A3 C3) => l10Move_any p 4 m.b3 A3 C3 m.z3 y v h.rd.z (h.bx.at_ 4 rfl) (h.bx.at_ 5 rfl) hacc.2 hy.1 hy.2)
  have HL2 := Lib.hid (movZ_len m.b2 m.z2 x)
  have HL3 := Lib.hid (movZ_len m.b3 m.z3 y)
  obtain ⟨X2, hX2⟩ : ∃ X, X = movZ m.b2 m.z2 x := ⟨_, rfl⟩
  obtain ⟨X3, hX3⟩ : ∃ X, X = movZ m.b3 m.z3 y := ⟨_, rfl⟩
  obtain ⟨t, ht⟩ : ∃ t, t = movO m.b2 m.z2 x := ⟨_, rfl⟩
  rw [← hX2, ← ht] at HM2
  rw [← hX3] at HM3
  rw [← hX2, ← hX3, ← ht] at HT
  rw [← hX2] at HL2
  rw [← hX3] at HL3
  rw [HT.out]
  clear e2 e3 b0 b1 n0 n12 n2 n3 n4 p0 p1 p2 d1 d2 d3 hok hU hV U1 U2 V0 UV1 UV0 hX2 hX3 ht hx hy hs hacc hm HU
  have HP2 := Lib.hid hP
  have k0 := kept_after (hk.bx.at_ 0 rfl)
  have k6 := kept_after (hk.bx.at_ 6 rfl)
  rw [hP] at k6
  clear hP
  go_enter Tryd.func150, Tryd.ntmps150
  go_upto_region 1 with fail
  refine wp_region_after (by kernel_rfl) (by kernel_rfl) ?_
  repeat (go_big_quiet_step ((go_at_call 103; exact calls_after ((HPw.out _).mono fun e w' ⟨x, y⟩ => ⟨x, (by rw [y]; exact Below.refl _ _)⟩))))
  refine wpQuiet_nil ?_
  intro uu
  clear k0 k6
  obtain ⟨W, hW⟩ : ∃ W, W = uu.now := ⟨_, rfl⟩
  have hbW : Below w.heap.size w W := by rw [hW]; exact uu.ok
  rw [← hW]
  clear hW uu
  have hLs : L ≤ w.heap.size := by have := hk.lp; have := hk.bx.lt; omega
  replace hk := hk.below hbW
  have hpW := Lib.hid (show p < W.heap.size from hk.bx.lt)
  obtain ⟨l1, h1, l2, h2, l3, h3, o1, o2, o3, s⟩ := hk.ex
  clear o2 o3
  replace hbW : Below L w W := hbW.mono hLs
  go_upto_region 2 with fail
  go_cut [6, 7] from 10 (fun sl6 sl7 wx => BoxReg W m.b2 X2 sl6 wx ∧ sl7 = .bool t)
  case first =>
    have k0 := kept_all (hk.bx.at_ 0 rfl)
    have k1 := kept_all (hk.bx.at_ 1 rfl)
    go_region_held3 (fun w' => Below W.heap.size W w') (first | exact hk' | exact (Below.refl _ _).drew | exact hk'.alloc hk'.size _ | exact (Below.refl _ _).drew.alloc (Nat.le_refl _) _ | exact (hk'.alloc hk'.size _).setCell hk'.size _ | exact (hk'.setCell bg.out _).setCell bg.out _)
      (first
      | (go_at_call 97; have qB := ‹Below W.heap.size W _›; ((with_reducible refine (HV.out ((W.alloc (.cells #[.int .i64 0, .slice none 0 0] 26)).drew) (hk.rd.x.below qB)).mono ?_)); rintro e v1 ⟨rfl, hv1⟩; subst v1; have bz := ((Bx.new W #[.int .i64 0, .slice none 0 0] 26).drew); have bg : Hid (W.heap.size ≤ W.drew.heap.size) := Lib.hid (Nat.le_refl _); have hk' := qB)
      | (go_at_call 97; have qB := ‹Below W.heap.size W _›; ((with_reducible refine (HV.out W.drew (hk.rd.x.below qB)).mono ?_)); rintro e v1 ⟨rfl, hv1⟩; subst v1; have hk' := qB)
      | (go_at_call 182; have qB := ‹Below W.heap.size W _›; ((with_reducible refine (HM2.out ((W.alloc (.cells #[.int .i64 0, .slice none 0 0] 26)).drew) (hk.below qB)).mono ?_)); rintro e w3 ⟨D, E, rfl, own, hb⟩; have bz := ((Bx.new W #[.int .i64 0, .slice none 0 0] 26).drew); have bg : Hid (W.heap.size ≤ W.drew.heap.size) := Lib.hid (Nat.le_refl _); have bh := Lib.hid bz.lt; replace bz := bz.below hb; have bz0 := bz.at_ 0 rfl; have bf0 := bz.thaw 0; have bz1 := bz.at_ 1 rfl; have bf1 := bz.thaw 1; have hkU := qB; have hbU := hb; have hk' := qB.trans (hb.mono qB.size))
      | (go_at_call 182; have qB := ‹Below W.heap.size W _›; ((with_reducible refine (HM2.out W.drew (hk.below qB)).mono ?_)); rintro e w3 ⟨D, E, rfl, own, hb⟩; have hkU := qB; have hbU := hb; have hk' := qB.trans (hb.mono qB.size)))
    all_goals (go_wp2_with fail; go_meet; case rel => (rw [← HL2.out] at own ⊢; first | with_reducible exact ⟨boxReg_after hkU hbU own, rfl⟩ | with_reducible exact ⟨boxReg_before hkU hbU own bz bg bh, rfl⟩ | exact ⟨boxReg_after hkU hbU own, rfl⟩ | exact ⟨boxReg_before hkU hbU own bz bg bh, rfl⟩))
  case rest =>
  obtain ⟨⟨c, A', C', lo, hi, rfl, cq0, cq1, own, s1, s2, s3, s4, s5, hb⟩, rfl⟩ := hcut
  obtain ⟨w2, rfl⟩ : ∃ u, u = wc := ⟨_, rfl⟩
  have hz2 := hb.size
  replace hk := hk.below hb
  replace o1 := o1.below hb
  replace hbW : Below L w w2 := hbW.trans (hb.mono (by have := hbW.size; omega))
  rw [HL2.out] at cq1 own
  clear hb HM2 HV HPw
  go_wp2_with fail
  refine (HM3.out w2 hk).mono ?_
  rintro e w3 ⟨D, E, rfl, own3, hb⟩
  have hz3 := hb.size
  have hcw : c < w2.heap.size := s4.out
  replace hk := hk.below hb
  replace o1 := o1.below hb
  replace hbW : Below L w w3 := hbW.trans (hb.mono (by have := hbW.size; omega))
  replace cq0 := kept hb cq0
  replace cq1 := kept hb cq1
  replace own := own.below hb
  clear hb HM3
  go_upto_region 4 with fail
  obtain ⟨d, hd⟩ : ∃ d, d = w3.heap.size := ⟨_, rfl⟩
  obtain ⟨V4, hV⟩ : ∃ V4, V4 = w3.alloc (.cells #[.int .i64 m.b3, .slice D m.z3.length E] 26) := ⟨_, rfl⟩
  try rw [← hd, ← hV]
  have bd : Bx V4 d 26 #[.int .i64 m.b3, .slice D m.z3.length E] := by rw [hV, hd]; exact Bx.new _ _ _
  have hb : Below w3.heap.size w3 V4 := by rw [hV]; exact (Below.refl _ _).alloc (Nat.le_refl _) _
  have hz4 := hb.size
  replace hk := hk.below hb
  replace o1 := o1.below hb
  replace hbW : Below L w V4 := hbW.trans (hb.mono (by have := hbW.size; omega))
  replace cq0 := kept hb cq0
  replace cq1 := kept hb cq1
  replace own := own.below hb
  replace own3 := own3.below hb
  have hpl := hpW.out
  have hd3 : w3.heap.size ≤ d := by omega
  clear hb hV hd
  have bx := hk.bx
  have hlp := hk.lp
  have p2 := bx.at_ 2 rfl
  have p3 := bx.at_ 3 rfl
  have f2 := bx.thaw 2
  have f3 := bx.thaw 3
  go_upto_region 5 with fail
  obtain ⟨V5, hV⟩ : ∃ V5, V5 = (V4.setCell ⟨p, 2, none⟩ (.int .i64 m.b2)).setCell ⟨p, 3, none⟩ (.slice A' m.z2.length C') := ⟨_, rfl⟩
  try rw [← hV]
  have hpd : ¬ p = d := by omega
  have bx5 : Bx V5 p 28 #[.int .i64 m.b1, .slice A1 m.z1.length C1, .int .i64 m.b2, .slice A' m.z2.length C', .int .i64 m.b3, .slice A3 m.z3.length C3, .int .i64 m.p] := by rw [hV]; exact (bx.set_ 2 _).set_ 3 _
  have bd5 : Bx V5 d 26 #[.int .i64 m.b3, .slice D m.z3.length E] := by rw [hV]; exact (bd.far (by simp; omega) _).far (by simp; omega) _
  have ht5 : Touch p (p + 1) V4 V5 := by rw [hV]; exact ((Touch.refl _ _ _).setCell (by simp) (by simp) _).setCell (by simp) (by simp) _
  have hbW5 : Below L w V5 := hbW.trans (ht5.below hlp (by have := hbW.size; omega))
  have s2o := s2.out
  have s5o := s5.out
  replace o1 := o1.touch ht5 (by omega)
  replace own := own.touch ht5 (by omega)
  replace own3 := own3.touch ht5 (by omega)
  have hz5 := ht5.size
  clear hV p2 p3 f2 f3 bx bd cq0 cq1 hk ht5 hbW
  have d0 := bd5.at_ 0 rfl
  have d1 := bd5.at_ 1 rfl
  have p4 := bx5.at_ 4 rfl
  have p5 := bx5.at_ 5 rfl
  have f4 := bx5.thaw 4
  have f5 := bx5.thaw 5
  go_upto_region 6 with fail
  obtain ⟨V6, hV⟩ : ∃ V6, V6 = (V5.setCell ⟨p, 4, none⟩ (.int .i64 m.b3)).setCell ⟨p, 5, none⟩ (.slice D m.z3.length E) := ⟨_, rfl⟩
  try rw [← hV]
  have bx6 : Bx V6 p 28 #[.int .i64 m.b1, .slice A1 m.z1.length C1, .int .i64 m.b2, .slice A' m.z2.length C', .int .i64 m.b3, .slice D m.z3.length E, .int .i64 m.p] := by rw [hV]; exact (bx5.set_ 4 _).set_ 5 _
  have ht6 : Touch p (p + 1) V5 V6 := by rw [hV]; exact ((Touch.refl _ _ _).setCell (by simp) (by simp) _).setCell (by simp) (by simp) _
  have hbW6 : Below L w V6 := hbW5.trans (ht6.below hlp (by have := hbW5.size; omega))
  replace o1 := o1.touch ht6 (by omega)
  replace own := own.touch ht6 (by omega)
  replace own3 := own3.touch ht6 (by omega)
  have hz6 := ht6.size
  have HB := Lib.hid hbW6
  have HW : Hid (WmE V6 L p ⟨m.b1, m.z1, m.b2, X2, m.b3, X3, m.p⟩) := Lib.hid (by
    refine ⟨A1, C1, A', C', D, E, by simp only [HL2.out, HL3.out]; exact bx6, hlp, l1, h1, lo, hi, _, _, o1, by simp only [HL2.out]; exact own, by simp only [HL3.out]; exact own3, ?_⟩
    omega)
  clear hV bx5 bd5 d0 d1 p4 p5 f4 f5 o1 own own3 ht6 hbW5 hbW6 bx6
  go_wp2
  go_ret
  exact ⟨rfl, HW.out, HB.out⟩
end Go.Proofs.YtlahobdopmdfmaaDoor

/- MdoS -/
namespace Go.Proofs.YtlahobdopmdfmaaDoor
open Go.RowKit Go.BigFrame

set_option maxRecDepth 100000 in
set_option maxHeartbeats 4000000 in
theorem l10Shift_any (L p : Nat) (m : Mac) (A1 : Option Addr) (C1 : Nat) (A2 : Option Addr) (C2 : Nat) (A3 : Option Addr) (C3 : Nat) (s : Int) (w : World) (hk : Wm w L p m A1 C1 A2 C2 A3 C3) (hm : macB m = true) (hs : s = 1 ∨ s = -1) :
    Calls Tryd.prog 151 #[.pointer (some ⟨p, 0, none⟩), .int .i64 s] w fun e w' => e = .returned (.bool (shfM m s).2) ∧ WmE w' L p (shfM m s).1 ∧ Below L w w' := by
  obtain ⟨e2, e3, b0, b1, n0, n12, n2, n3, n4, p0, p1, p2, d1, d2, d3⟩ := macB_facts hm
  have hl : m.z1.length ≤ 1000000000 ∧ m.z2.length ≤ 1000000000 ∧ m.z3.length ≤ 1000000000 := by omega
  have hpb : -1000000000 ≤ plcs m ∧ plcs m ≤ 1000000000 := by unfold plcs; omega
  have HS : Hid (shfM m s = if inB (m.p + s) 0 (plcs m - 1) = true then (⟨m.b1, m.z1, m.b2, m.z2, m.b3, m.z3, m.p + s⟩, false) else (m, true)) := Lib.hid (by
    rw [shfM, inB_dec]; simp only [decide_eq_true_eq])
  have HP := Lib.hid (fun (v : World) (hb : Below w.heap.size w v) => l10Places_any p m A1 C1 A2 C2 A3 C3 v (hk.bx.below hb) hl)
  have hw1 : IntKind.i64.wrap (m.p + s) = m.p + s := IntWalk.i64_in _ (by rcases hs with rfl | rfl <;> omega)
  have HI := Lib.hid (fun v => l00In_b (m.p + s) 0 (plcs m - 1) v)
  obtain ⟨q, hq⟩ : ∃ q, q = plcs m := ⟨_, rfl⟩
  rw [← hq] at HP HI HS hpb
  have hw2 : IntKind.i64.wrap (q - 1) = q - 1 := IntWalk.i64_in _ (by omega)
  obtain ⟨y, hy⟩ : ∃ y, m.p + s = y := ⟨_, rfl⟩
  rw [hy] at HI HS hw1
  have k6 := kept_after (hk.bx.at_ 6 rfl)
  have hLs : L ≤ w.heap.size := by have := hk.lp; have := hk.bx.lt; omega
  clear e2 e3 b0 b1 n0 n12 n2 n3 n4 p0 p1 p2 d1 d2 d3 hq hs hl
  cases hi : inB y 0 (q - 1)
  all_goals
    rw [hi] at HI HS
    simp only [Bool.false_eq_true, if_false, if_true] at HS
    rw [HS.out]
    clear hi
    go_enter Tryd.func151, Tryd.ntmps151
    go_upto_region 1 with fail
    refine wp_region_after (by kernel_rfl) (by kernel_rfl) ?_
    repeat (go_big_quiet_step (first | (go_at_call 142; with_reducible exact calls_after (HP.out _ (After.ok _))) | (go_at_call 118; with_reducible exact calls_after (HI.out _))))
    refine wpQuiet_nil ?_
    intro uu
    clear k6
    obtain ⟨W, hW⟩ : ∃ W, W = uu.now := ⟨_, rfl⟩
    have hbW : Below w.heap.size w W := by rw [hW]; exact uu.ok
    rw [← hW]
    clear hW uu
    replace hk := hk.below hbW
    replace hbW : Below L w W := hbW.mono hLs
  · go_wp2
    go_ret
    exact ⟨rfl, ⟨_, _, _, _, _, _, hk⟩, hbW⟩
  · have c6 := hk.bx.at_ 6 rfl
    have f6 := hk.bx.thaw 6
    have HW := Lib.hid (hk.move y)
    have HB := Lib.hid (hbW.trans (hk.belowL 6 (.int .i64 y)))
    clear hk hbW
    go_wp2
    go_ret
    exact ⟨rfl, ⟨_, _, _, _, _, _, HW.out⟩, HB.out⟩

theorem zeros_set {zs : List Int} {k : Nat} (h : k < zs.length) : (List.replicate k 0 ++ zs.drop k).set k 0 = List.replicate (k + 1) 0 ++ zs.drop (k + 1) := by
  rw [List.set_append_right _ _ (by simp), List.length_replicate, Nat.sub_self, List.drop_eq_getElem_cons h, List.set_cons_zero, List.replicate_succ', List.append_assoc]
  rfl

set_option maxRecDepth 100000 in
set_option maxHeartbeats 4000000 in
theorem l10Zero_any (p o lo hi : Nat) (A : Option Addr) (C : Nat) (zs : List Int) (w : World) (hp1 : w.cell? ⟨p, o + 1, none⟩ = some (.slice A zs.length C)) (ho : Own 2 w lo hi (.slice A zs.length C) zs) (h0 : 0 < zs.length) (hl : zs.length ≤ 16) (hap : p < lo ∨ hi ≤ p) :
    Calls Tryd.prog 152 #[.pointer (some ⟨p, o, none⟩)] w fun e w' => e = .returned (.tuple #[]) ∧ ∃ g, lo ≤ g ∧ g < hi ∧ Own 2 w' lo hi (.slice A zs.length C) (List.replicate zs.length 0) ∧ Touch g (g + 1) w w' := by
  obtain ⟨g, rfl, hg1, hg2⟩ := own_firstS ho h0
  go_enter Tryd.func152, Tryd.ntmps152
  go_wp2_with fail
  go_loopw [2] (fun i wr => ∃ k : Nat, k ≤ zs.length ∧ i = .int .i64 (k : Int) ∧ Own 2 wr lo hi (.slice (some ⟨g, 0, none⟩) zs.length C) (List.replicate k 0 ++ zs.drop k) ∧ Touch g (g + 1) w wr) (fun i _ => zs.length - (intOf i).toNat)
  case atStart => exact ⟨0, Nat.zero_le _, rfl, by simpa using ho, Touch.refl _ _ _⟩
  case round =>
    obtain ⟨k, hk, rfl, hown, htou⟩ := hrel
    have c1 := keptT htou hp1 (by omega)
    by_cases hlt : k < zs.length
    · have hget := hown.get (j := k) (by simp; omega)
      have hthaw := hown.thaw k
      have HP := Lib.hid (zeros_set hlt ▸ hown.put k 0)
      have HT := Lib.hid (htou.setCell (p := ⟨g, k, none⟩) (Nat.le_refl _) (Nat.lt_succ_self _) (.int .i64 0))
      clear hown htou
      go_wp2
      go_roundw
      case rel => exact ⟨k + 1, by omega, by go_num, HP.out, HT.out⟩
      case measure => (simp [intOf]) <;> omega
    · obtain rfl : k = zs.length := by omega
      rw [List.drop_length, List.append_nil] at hown
      go_wp2
      go_end0
      exact ⟨rfl, g, hg1, hg2, hown, htou⟩

set_option maxRecDepth 100000 in
set_option maxHeartbeats 4000000 in
theorem l10Do_any (L p : Nat) (m : Mac) (A1 : Option Addr) (C1 : Nat) (A2 : Option Addr) (C2 : Nat) (A3 : Option Addr) (C3 : Nat) (k : Int) (w : World) (hk : Wm w L p m A1 C1 A2 C2 A3 C3) (hm : macB m = true) (h1 : 1 ≤ k) (h6 : k ≤ 6) :
    Calls Tryd.prog 91 #[.pointer (some ⟨p, 0, none⟩), .int .i64 k] w fun e w' => e = .returned (.bool (doM m k).2) ∧ WmE w' L p (doM m k).1 ∧ Below L w w' := by
  obtain ⟨e2, e3, b0, b1, n0, n12, n2, n3, n4, p0, p1, p2, d1, d2, d3⟩ := macB_facts hm
  clear e2 e3 b0 b1 p0 p1 p2 d1 d2 d3
  rcases (show k = 1 ∨ k = 2 ∨ k = 3 ∨ k = 4 ∨ k = 5 ∨ k = 6 by omega) with h | h | h | h | h | h
  all_goals
    subst h
    clear h1 h6
  · have HE := Lib.hid (show doM m 1 = trnM m 1 by simp [doM])
    go_enter Tryd.func91, Tryd.ntmps91
    go_wp2_with fail
    refine (l10Turn_any L p m A1 C1 A2 C2 A3 C3 1 w hk hm (by simp)).mono ?_
    rintro e w2 ⟨rfl, hW, hb⟩
    go_wp2
    go_ret
    exact ⟨by rw [HE.out]; rfl, by rw [HE.out]; exact hW, hb⟩
  · have HE := Lib.hid (show doM m 2 = trnM m (-1) by simp [doM])
    go_enter Tryd.func91, Tryd.ntmps91
    go_wp2_with fail
    refine (l10Turn_any L p m A1 C1 A2 C2 A3 C3 (-1) w hk hm (by simp)).mono ?_
    rintro e w2 ⟨rfl, hW, hb⟩
    go_wp2
    go_ret
    exact ⟨by rw [HE.out]; rfl, by rw [HE.out]; exact hW, hb⟩
  · have HE := Lib.hid (show doM m 3 = shfM m 1 by simp [doM])
    go_enter Tryd.func91, Tryd.ntmps91
    go_wp2_with fail
    refine (l10Shift_any L p m A1 C1 A2 C2 A3 C3 1 w hk hm (by simp)).mono ?_
    rintro e w2 ⟨rfl, hW, hb⟩
    go_wp2
    go_ret
    exact ⟨by rw [HE.out]; rfl, by rw [HE.out]; exact hW, hb⟩
  · have HE := Lib.hid (show doM m 4 = shfM m (-1) by simp [doM])
    go_enter Tryd.func91, Tryd.ntmps91
    go_wp2_with fail
    refine (l10Shift_any L p m A1 C1 A2 C2 A3 C3 (-1) w hk hm (by simp)).mono ?_
    rintro e w2 ⟨rfl, hW, hb⟩
    go_wp2
    go_ret
    exact ⟨by rw [HE.out]; rfl, by rw [HE.out]; exact hW, hb⟩
  · have HE := Lib.hid (show doM m 5 = (⟨m.b1, m.z1, m.b2, List.replicate m.z2.length 0, m.b3, List.replicate m.z3.length 0, m.p⟩, false) by simp [doM])
    obtain ⟨l1, h1, l2, h2, l3, h3, o1, o2, o3, s⟩ := hk.ex
    have hlp := hk.lp
    have bx := hk.bx
    have hlt := bx.lt
    go_enter Tryd.func91, Tryd.ntmps91
    go_wp2_with fail
    refine (l10Zero_any p 2 l2 h2 A2 C2 m.z2 w (bx.at_ 3 rfl) o2 (by omega) n2 (by omega)).mono ?_
    rintro e w2 ⟨rfl, g2, q1, q2, o2', ht2⟩
    replace bx := bx.touch ht2 (by omega)
    replace o1 := o1.touch ht2 (by omega)
    replace o3 := o3.touch ht2 (by omega)
    have hz2 := ht2.size
    go_wp2_with fail
    refine (l10Zero_any p 4 l3 h3 A3 C3 m.z3 w2 (bx.at_ 5 rfl) o3 (by omega) n4 (by omega)).mono ?_
    rintro e w3 ⟨rfl, g3, q3, q4, o3', ht3⟩
    replace bx := bx.touch ht3 (by omega)
    replace o1 := o1.touch ht3 (by omega)
    replace o2' := o2'.touch ht3 (by omega)
    have hz3 := ht3.size
    have HB : Hid (Below L w w3) := Lib.hid ((ht2.below (by omega) (by omega)).trans (ht3.below (by omega) (by omega)))
    have HW : Hid (WmE w3 L p ⟨m.b1, m.z1, m.b2, List.replicate m.z2.length 0, m.b3, List.replicate m.z3.length 0, m.p⟩) := Lib.hid (by
      refine ⟨A1, C1, A2, C2, A3, C3, by simp only [List.length_replicate]; exact bx, hlp, l1, h1, l2, h2, l3, h3, o1, by simp only [List.length_replicate]; exact o2', by simp only [List.length_replicate]; exact o3', by omega⟩)
    clear bx o1 o2 o2' o3 o3' ht2 ht3 hk
    go_wp2
    go_ret
    exact ⟨by rw [HE.out]; rfl, by rw [HE.out]; exact HW.out, HB.out⟩
  · have HE := Lib.hid (show doM m 6 = (⟨m.b1, List.replicate m.z1.length 0, m.b2, m.z2, m.b3, m.z3, m.p⟩, false) by simp [doM])
    obtain ⟨l1, h1, l2, h2, l3, h3, o1, o2, o3, s⟩ := hk.ex
    have hlp := hk.lp
    have bx := hk.bx
    have hlt := bx.lt
    go_enter Tryd.func91, Tryd.ntmps91
    go_wp2_with fail
    refine (l10Zero_any p 0 l1 h1 A1 C1 m.z1 w (bx.at_ 1 rfl) o1 (by omega) (by omega) (by omega)).mono ?_
    rintro e w2 ⟨rfl, g2, q1, q2, o1', ht2⟩
    replace bx := bx.touch ht2 (by omega)
    replace o2 := o2.touch ht2 (by omega)
    replace o3 := o3.touch ht2 (by omega)
    have hz2 := ht2.size
    have HB : Hid (Below L w w2) := Lib.hid (ht2.below (by omega) (by omega))
    have HW : Hid (WmE w2 L p ⟨m.b1, List.replicate m.z1.length 0, m.b2, m.z2, m.b3, m.z3, m.p⟩) := Lib.hid (by
      refine ⟨A1, C1, A2, C2, A3, C3, by simp only [List.length_replicate]; exact bx, hlp, l1, h1, l2, h2, l3, h3, by simp only [List.length_replicate]; exact o1', o2, o3, by omega⟩)
    clear bx o1 o1' o2 o3 ht2 hk
    go_wp2
    go_ret
    exact ⟨by rw [HE.out]; rfl, by rw [HE.out]; exact HW.out, HB.out⟩
end Go.Proofs.YtlahobdopmdfmaaDoor

/- MdsS -/
namespace Go.Proofs.YtlahobdopmdfmaaDoor
open Go.RowKit

theorem l10Kind_any (k : Int) (w : World) : Calls Tryd.prog 89 #[.int .i64 k] w fun e w' => e = .returned (.bool (inB k 1 6)) ∧ w' = w := by
  go_enter Tryd.func89, Tryd.ntmps89
  go_wp2_with fail
  refine (l00In_any k 1 6 w).mono ?_
  rintro e w1 ⟨rfl, hw⟩
  subst w1
  go_wp2
  go_ret
  exact ⟨rfl, rfl⟩

set_option maxRecDepth 100000 in
set_option maxHeartbeats 8000000 in
theorem specDoStroke (m : Mac) (A1 : Option Addr) (C1 : Nat) (A2 : Option Addr) (C2 : Nat) (A3 : Option Addr) (C3 : Nat) (k : Int) (w : World) (h : Rd3 w A1 m.z1 A2 m.z2 A3 m.z3) (_ : All64 m.z1 ∧ All64 m.z2 ∧ All64 m.z3) (_ : I64 m.b1 ∧ I64 m.b2 ∧ I64 m.b3 ∧ I64 m.p) (_ : I64 k) :
    Calls Tryd.prog 18 #[.agg #[.int .i64 m.b1, .slice A1 m.z1.length C1, .int .i64 m.b2, .slice A2 m.z2.length C2, .int .i64 m.b3, .slice A3 m.z3.length C3, .int .i64 m.p], .int .i64 k] w (MacBC (dsR m k) w) := by
  have R := Tryd.results18
  have hlen := h.len
  obtain ⟨g, hg⟩ : ∃ g, g = w.heap.size := ⟨_, rfl⟩
  obtain ⟨u, hu⟩ : ∃ u, u = (w.alloc (.cells #[.int .i64 m.b1, .slice A1 m.z1.length C1, .int .i64 m.b2, .slice A2 m.z2.length C2, .int .i64 m.b3, .slice A3 m.z3.length C3, .int .i64 m.p] 28)).alloc (.cells #[.int .i64 0, .slice none 0 0, .int .i64 0, .slice none 0 0, .int .i64 0, .slice none 0 0, .int .i64 0] 28) := ⟨_, rfl⟩
  have hbel : Below w.heap.size w u := by rw [hu]; exact (by repeat (first | exact Below.refl _ _ | refine Below.setCell ?_ (by first | omega | (simp <;> omega)) _ | refine Below.alloc ?_ (by first | omega | (simp <;> omega)) _ | refine Below.drew ?_))
  have bm : Bx u g 28 #[.int .i64 m.b1, .slice A1 m.z1.length C1, .int .i64 m.b2, .slice A2 m.z2.length C2, .int .i64 m.b3, .slice A3 m.z3.length C3, .int .i64 m.p] := by rw [hu, hg]; exact (Bx.new _ _ _).alloc _
  have br : Bx u (g + 1) 28 #[.int .i64 0, .slice none 0 0, .int .i64 0, .slice none 0 0, .int .i64 0, .slice none 0 0, .int .i64 0] := by rw [hu, hg]; simpa using Bx.new (w.alloc (.cells #[.int .i64 m.b1, .slice A1 m.z1.length C1, .int .i64 m.b2, .slice A2 m.z2.length C2, .int .i64 m.b3, .slice A3 m.z3.length C3, .int .i64 m.p] 28)) #[.int .i64 0, .slice none 0 0, .int .i64 0, .slice none 0 0, .int .i64 0, .slice none 0 0, .int .i64 0] 28
  have hgu : g + 1 < u.heap.size := br.lt
  have HV := Lib.hid (l10Ok_any g m A1 C1 A2 C2 A3 C3 u (h.below hbel) bm)
  have HG := Lib.hid hg
  have HU := Lib.hid hu
  clear hu
  cases hm : macB m with
  | false =>
    have HR := Lib.hid (show dsR m k = (mac0, false, 1) by simp [dsR, hm])
    rw [hm] at HV
    clear hm h
    go_enter Tryd.func18, Tryd.ntmps18
    go_wp2_with fail
    rw [← HU.out, ← hg]
    clear hg
    refine HV.out.mono ?_
    rintro e w1 ⟨rfl, hb⟩
    replace br := br.below hb
    replace hbel := hbel.trans (hb.mono hbel.size)
    clear hb bm
    have r0 := br.at_ 0 rfl
    have r1 := br.at_ 1 rfl
    have r2 := br.at_ 2 rfl
    have r3 := br.at_ 3 rfl
    have r4 := br.at_ 4 rfl
    have r5 := br.at_ 5 rfl
    have r6 := br.at_ 6 rfl
    have f0 := br.thaw 0
    have f1 := br.thaw 1
    have f2 := br.thaw 2
    have f3 := br.thaw 3
    have f4 := br.thaw 4
    have f5 := br.thaw 5
    have f6 := br.thaw 6
    have hl := br.lt
    go_wp2
    exact bodyPost_ret (v := .tuple #[.agg #[.int .i64 0, .slice none 0 0, .int .i64 0, .slice none 0 0, .int .i64 0, .slice none 0 0, .int .i64 0], .bool false, .int .i64 1]) (by simp [results, go_sem, r0, r1, r2, r3, r4, r5, r6]) rfl (macBC_err HR.out rfl (by have := HG.out; exact (by repeat (first | with_reducible exact hbel | with_reducible refine Below.setCell ?_ (by first | omega | (simp <;> omega)) _ | with_reducible refine Below.alloc ?_ (by first | omega | (simp <;> omega)) _ | with_reducible refine Below.drew ?_))))
  | true =>
    obtain ⟨e2, e3, b0, b1, n0, n12, n2, n3, n4, p0, p1, p2, d1, d2, d3⟩ := macB_facts hm
    have HC := Lib.hid (fun (v : World) (hb : Below w.heap.size w v) (bp : Bx v g 28 #[.int .i64 m.b1, .slice A1 m.z1.length C1, .int .i64 m.b2, .slice A2 m.z2.length C2, .int .i64 m.b3, .slice A3 m.z3.length C3, .int .i64 m.p]) => l10Own_any g m A1 C1 A2 C2 A3 C3 v (h.below hb) (by omega) (by omega) (by omega) bp)
    have HK := Lib.hid (l10Kind_any k)
    have HM := Lib.hid hm
    have HX : Hid (dsR m k = if inB k 1 6 = true then ((doM m k).1, (doM m k).2, 0) else (mac0, false, 2)) := Lib.hid (by
      rw [dsR, if_pos hm, inB_dec]; simp only [decide_eq_true_eq])
    rw [hm] at HV
    clear hm h e2 e3 b0 b1 n0 n12 n2 n3 n4 p0 p1 p2 d1 d2 d3
    cases hi : inB k 1 6 with
    | false =>
      have HR := Lib.hid (HX.out.trans (if_neg (by rw [hi]; simp)))
      rw [hi] at HK
      clear hi HX HC
      go_enter Tryd.func18, Tryd.ntmps18
      go_wp2_with fail
      rw [← HU.out, ← hg]
      clear hg
      refine HV.out.mono ?_
      rintro e w1 ⟨rfl, hb⟩
      replace br := br.below hb
      replace hbel := hbel.trans (hb.mono hbel.size)
      clear hb bm
      go_wp2_with fail
      refine (HK.out w1).mono ?_
      rintro e w2 ⟨rfl, hw⟩
      subst w2
      have r0 := br.at_ 0 rfl
      have r1 := br.at_ 1 rfl
      have r2 := br.at_ 2 rfl
      have r3 := br.at_ 3 rfl
      have r4 := br.at_ 4 rfl
      have r5 := br.at_ 5 rfl
      have r6 := br.at_ 6 rfl
      have f0 := br.thaw 0
      have f1 := br.thaw 1
      have f2 := br.thaw 2
      have f3 := br.thaw 3
      have f4 := br.thaw 4
      have f5 := br.thaw 5
      have f6 := br.thaw 6
      have hl := br.lt
      go_wp2
      exact bodyPost_ret (v := .tuple #[.agg #[.int .i64 0, .slice none 0 0, .int .i64 0, .slice none 0 0, .int .i64 0, .slice none 0 0, .int .i64 0], .bool false, .int .i64 2]) (by simp [results, go_sem, r0, r1, r2, r3, r4, r5, r6]) rfl (macBC_err HR.out rfl (by have := HG.out; exact (by repeat (first | with_reducible exact hbel | with_reducible refine Below.setCell ?_ (by first | omega | (simp <;> omega)) _ | with_reducible refine Below.alloc ?_ (by first | omega | (simp <;> omega)) _ | with_reducible refine Below.drew ?_))))
    | true =>
      have HR := Lib.hid (HX.out.trans (if_pos hi))
      have hN := inB_true hi
      have HN := Lib.hid hN
      rw [hi] at HK
      clear hi HX hN
      go_enter Tryd.func18, Tryd.ntmps18
      go_wp2_with fail
      rw [← HU.out, ← hg]
      clear hg
      refine HV.out.mono ?_
      rintro e w1 ⟨rfl, hb⟩
      have hz1 := hb.size
      replace bm := bm.below hb
      replace br := br.below hb
      replace hbel := hbel.trans (hb.mono hbel.size)
      clear hb
      go_wp2_with fail
      refine (HK.out w1).mono ?_
      rintro e w2 ⟨rfl, hw⟩
      subst w2
      go_wp2_with fail
      refine (HC.out w1 hbel bm).mono ?_
      rintro e w2 ⟨D1, E1, D2, E2, D3, E3, rfl, own, hb⟩
      have hz2 := hb.size
      replace br := br.below hb
      replace hbel := hbel.trans (hb.mono hbel.size)
      clear hb bm
      go_upto_region 6 with fail
      obtain ⟨c, hc⟩ : ∃ c, c = w2.heap.size := ⟨_, rfl⟩
      obtain ⟨V, hV⟩ : ∃ V, V = w2.alloc (.cells #[.int .i64 m.b1, .slice D1 m.z1.length E1, .int .i64 m.b2, .slice D2 m.z2.length E2, .int .i64 m.b3, .slice D3 m.z3.length E3, .int .i64 m.p] 28) := ⟨_, rfl⟩
      try rw [← hc, ← hV]
      have hk : Wm V w1.heap.size c m D1 E1 D2 E2 D3 E3 := by
        obtain ⟨l1, h1, l2, h2, l3, h3, o1, o2, o3, s⟩ := own.ex
        refine ⟨by rw [hV, hc]; exact Bx.new _ _ _, by omega, l1, h1, l2, h2, l3, h3, by rw [hV]; exact o1.alloc _, by rw [hV]; exact o2.alloc _, by rw [hV]; exact o3.alloc _, ?_⟩
        rw [hV, hc]; simp; omega
      have hb : Below w2.heap.size w2 V := by rw [hV]; exact (Below.refl _ _).alloc (Nat.le_refl _) _
      have hz3 := hb.size
      replace br := br.below hb
      replace hbel := hbel.trans (hb.mono hbel.size)
      clear hb hV hc own
      go_wp2_with fail
      refine (l10Do_any w1.heap.size c m D1 E1 D2 E2 D3 E3 k V hk HM.out HN.out.1 HN.out.2).mono ?_
      rintro e w3 ⟨rfl, ⟨F1, G1, F2, G2, F3, G3, hk3⟩, hb⟩
      replace br := br.lo hb (by omega)
      replace hbel := hbel.trans (hb.mono (by have := HG.out; omega))
      obtain ⟨m3, hm3⟩ : ∃ x, x = (doM m k).1 := ⟨_, rfl⟩
      obtain ⟨t3, ht3⟩ : ∃ x, x = (doM m k).2 := ⟨_, rfl⟩
      rw [← hm3] at hk3
      rw [← hm3, ← ht3] at HR
      rw [← ht3]
      clear hb hk hm3 ht3 HC
      go_upto_region 7 with fail
      have q0 := hk3.bx.at_ 0 rfl
      have q1 := hk3.bx.at_ 1 rfl
      have q2 := hk3.bx.at_ 2 rfl
      have q3 := hk3.bx.at_ 3 rfl
      have q4 := hk3.bx.at_ 4 rfl
      have q5 := hk3.bx.at_ 5 rfl
      have q6 := hk3.bx.at_ 6 rfl
      have HO := Lib.hid hk3.own
      have HS := Lib.hid (show w.heap.size ≤ w1.heap.size ∧ g + 1 < w1.heap.size by have := HG.out; omega)
      have j0 := br.at_ 0 rfl
      have j1 := br.at_ 1 rfl
      have j2 := br.at_ 2 rfl
      have j3 := br.at_ 3 rfl
      have j4 := br.at_ 4 rfl
      have j5 := br.at_ 5 rfl
      have j6 := br.at_ 6 rfl
      have f0 := br.thaw 0
      have f1 := br.thaw 1
      have f2 := br.thaw 2
      have f3 := br.thaw 3
      have f4 := br.thaw 4
      have f5 := br.thaw 5
      have f6 := br.thaw 6
      have hl := br.lt
      have bz : Bx (((((((w3.setCell ⟨g + 1, 0, none⟩ (.int .i64 m3.b1)).setCell ⟨g + 1, 1, none⟩ (.slice F1 m3.z1.length G1)).setCell ⟨g + 1, 2, none⟩ (.int .i64 m3.b2)).setCell ⟨g + 1, 3, none⟩ (.slice F2 m3.z2.length G2)).setCell ⟨g + 1, 4, none⟩ (.int .i64 m3.b3)).setCell ⟨g + 1, 5, none⟩ (.slice F3 m3.z3.length G3)).setCell ⟨g + 1, 6, none⟩ (.int .i64 m3.p)) (g + 1) 28 #[.int .i64 m3.b1, .slice F1 m3.z1.length G1, .int .i64 m3.b2, .slice F2 m3.z2.length G2, .int .i64 m3.b3, .slice F3 m3.z3.length G3, .int .i64 m3.p] := bx_put7 br
      have r0 := bz.at_ 0 rfl
      have r1 := bz.at_ 1 rfl
      have r2 := bz.at_ 2 rfl
      have r3 := bz.at_ 3 rfl
      have r4 := bz.at_ 4 rfl
      have r5 := bz.at_ 5 rfl
      have r6 := bz.at_ 6 rfl
      clear bz
      clear hk3 hz1 hz2 hz3
      go_wp2
      exact bodyPost_ret (v := .tuple #[.agg #[.int .i64 m3.b1, .slice F1 m3.z1.length G1, .int .i64 m3.b2, .slice F2 m3.z2.length G2, .int .i64 m3.b3, .slice F3 m3.z3.length G3, .int .i64 m3.p], .bool t3, .int .i64 0]) (by simp [results, go_sem, r0, r1, r2, r3, r4, r5, r6]) rfl
        (macBC_ok HR.out rfl (((((((HO.out.setCell (p := ⟨g + 1, 0, none⟩) (.inl HS.out.2) _).setCell (p := ⟨g + 1, 1, none⟩) (.inl HS.out.2) _).setCell (p := ⟨g + 1, 2, none⟩) (.inl HS.out.2) _).setCell (p := ⟨g + 1, 3, none⟩) (.inl HS.out.2) _).setCell (p := ⟨g + 1, 4, none⟩) (.inl HS.out.2) _).setCell (p := ⟨g + 1, 5, none⟩) (.inl HS.out.2) _).setCell (p := ⟨g + 1, 6, none⟩) (.inl HS.out.2) _) HS.out.1 (by simp) (by have := HG.out; exact (by repeat (first | with_reducible exact hbel | with_reducible refine Below.setCell ?_ (by first | omega | (simp <;> omega)) _ | with_reducible refine Below.alloc ?_ (by first | omega | (simp <;> omega)) _ | with_reducible refine Below.drew ?_))))

set_option maxRecDepth 100000 in
set_option maxHeartbeats 4000000 in
theorem l10Run_any (L p : Nat) (m : Mac) (A1 : Option Addr) (C1 : Nat) (A2 : Option Addr) (C2 : Nat) (A3 : Option Addr) (C3 : Nat) (a : Option Addr) (c : Nat) (zs : List Int) (w : World) (hk : Wm w L p m A1 C1 A2 C2 A3 C3) (hm : macB m = true) (hz : ∀ v, Below L w v → Rd v a zs) (hs : ∀ k, k < zs.length → 1 ≤ nth zs k ∧ nth zs k ≤ 6) :
    Calls Tryd.prog 141 #[.pointer (some ⟨p, 0, none⟩), .slice a zs.length c] w fun e w' => e = .returned (.int .i64 (runM m zs).2) ∧ WmE w' L p (runM m zs).1 ∧ Below L w w' := by
  have hLs : L ≤ w.heap.size := by have := hk.lp; have := hk.bx.lt; omega
  have hln := (hz w (Below.mono (Below.refl _ _) hLs)).len
  have HM := Lib.hid (runTo_zero hm zs)
  have HS := Lib.hid hs
  have HZ := Lib.hid hz
  clear hz hs
  go_enter Tryd.func141, Tryd.ntmps141
  go_wp2_with fail
  go_loopw [5] (fun i wr => ∃ (k : Nat) (mk : Mac), k ≤ zs.length ∧ i = .int .i64 (k : Int) ∧ Hid (RunTo m zs k mk) ∧ WmE wr L p mk ∧ Below L w wr) (fun i _ => zs.length - (intOf i).toNat)
  case atStart => exact ⟨0, m, Nat.zero_le _, rfl, HM, ⟨_, _, _, _, _, _, hk⟩, Below.mono (Below.refl _ _) hLs⟩
  case round =>
    obtain ⟨k, mk, hkl, rfl, HT, ⟨D1, E1, D2, E2, D3, E3, hw⟩, hbr⟩ := hrel
    by_cases hlt : k < zs.length
    · obtain ⟨pb, po, rfl, hcz⟩ := (HZ.out wr hbr).at_ hlt
      have hN := HS.out k hlt
      go_wp2_with fail
      refine (l10Do_any L p mk D1 E1 D2 E2 D3 E3 (nth zs k) wr hw HT.out.1 hN.1 hN.2).mono ?_
      rintro e w3 ⟨rfl, hk3, hb⟩
      replace hbr := hbr.trans hb
      obtain ⟨m3, hm3⟩ : ∃ x, x = (doM mk (nth zs k)).1 := ⟨_, rfl⟩
      cases ht3 : (doM mk (nth zs k)).2 with
      | true =>
        have hrun := Lib.hid (runTo_bell HT.out hlt ht3)
        clear HT hN hcz ht3 hm3 hb hw
        go_wp2
        go_ret
        exact ⟨by rw [hrun.out]; rfl, by rw [hrun.out]; exact hk3, hbr⟩
      | false =>
        have HT2 := Lib.hid (runTo_next HT.out hlt ht3)
        clear ht3 hm3 HT hN hcz hw hb
        go_wp2
        go_roundw
        case rel => exact ⟨k + 1, _, by omega, by go_num, HT2, hk3, hbr⟩
        case measure => (simp [intOf]) <;> omega
    · obtain rfl : k = zs.length := by omega
      have hrun := Lib.hid (runTo_end HT.out)
      go_wp2
      go_ret
      exact ⟨by rw [hrun.out]; rfl, by rw [hrun.out]; exact ⟨_, _, _, _, _, _, hw⟩, hbr⟩
end Go.Proofs.YtlahobdopmdfmaaDoor

/- MdrS -/
namespace Go.Proofs.YtlahobdopmdfmaaDoor
open Go.RowKit

theorem strB_of {l : List Int} (h : ∀ j, j < l.length → inB (nth l j) 1 6 = true) : strB l = true := by
  rw [strB, decide_eq_true_eq]
  intro x hx
  obtain ⟨j, hj, rfl⟩ := List.getElem_of_mem hx
  have := inB_true (h j hj)
  rwa [nth_get hj] at this
theorem strB_not {l : List Int} {j : Nat} (hj : j < l.length) (h : inB (nth l j) 1 6 = false) : strB l = false := by
  rw [strB, decide_eq_false_iff_not]
  intro hs
  have := hs _ (List.getElem_mem hj)
  rw [← nth_get hj] at this
  rw [inB_dec, decide_eq_false_iff_not] at h
  exact h this

set_option maxRecDepth 100000 in
set_option maxHeartbeats 8000000 in
theorem specDoStrokes (m : Mac) (A1 : Option Addr) (C1 : Nat) (A2 : Option Addr) (C2 : Nat) (A3 : Option Addr) (C3 : Nat) (a : Option Addr) (c : Nat) (zs : List Int) (w : World) (h : Rd3 w A1 m.z1 A2 m.z2 A3 m.z3) (_ : All64 m.z1 ∧ All64 m.z2 ∧ All64 m.z3) (_ : I64 m.b1 ∧ I64 m.b2 ∧ I64 m.b3 ∧ I64 m.p) (ha : Rd w a zs) (_ : All64 zs) :
    Calls Tryd.prog 71 #[.agg #[.int .i64 m.b1, .slice A1 m.z1.length C1, .int .i64 m.b2, .slice A2 m.z2.length C2, .int .i64 m.b3, .slice A3 m.z3.length C3, .int .i64 m.p], .slice a zs.length c] w (MacIC (dssR m zs) w) := by
  have R := Tryd.results71
  have hlen := h.len
  have hzl := ha.len
  obtain ⟨g, hg⟩ : ∃ g, g = w.heap.size := ⟨_, rfl⟩
  obtain ⟨u, hu⟩ : ∃ u, u = (w.alloc (.cells #[.int .i64 m.b1, .slice A1 m.z1.length C1, .int .i64 m.b2, .slice A2 m.z2.length C2, .int .i64 m.b3, .slice A3 m.z3.length C3, .int .i64 m.p] 28)).alloc (.cells #[.int .i64 0, .slice none 0 0, .int .i64 0, .slice none 0 0, .int .i64 0, .slice none 0 0, .int .i64 0] 28) := ⟨_, rfl⟩
  have hbel : Below w.heap.size w u := by rw [hu]; exact (by repeat (first | exact Below.refl _ _ | refine Below.setCell ?_ (by first | omega | (simp <;> omega)) _ | refine Below.alloc ?_ (by first | omega | (simp <;> omega)) _ | refine Below.drew ?_))
  have bm : Bx u g 28 #[.int .i64 m.b1, .slice A1 m.z1.length C1, .int .i64 m.b2, .slice A2 m.z2.length C2, .int .i64 m.b3, .slice A3 m.z3.length C3, .int .i64 m.p] := by rw [hu, hg]; exact (Bx.new _ _ _).alloc _
  have br : Bx u (g + 1) 28 #[.int .i64 0, .slice none 0 0, .int .i64 0, .slice none 0 0, .int .i64 0, .slice none 0 0, .int .i64 0] := by rw [hu, hg]; simpa using Bx.new (w.alloc (.cells #[.int .i64 m.b1, .slice A1 m.z1.length C1, .int .i64 m.b2, .slice A2 m.z2.length C2, .int .i64 m.b3, .slice A3 m.z3.length C3, .int .i64 m.p] 28)) #[.int .i64 0, .slice none 0 0, .int .i64 0, .slice none 0 0, .int .i64 0, .slice none 0 0, .int .i64 0] 28
  have hgu : g + 1 < u.heap.size := br.lt
  have HV := Lib.hid (l10Ok_any g m A1 C1 A2 C2 A3 C3 u (h.below hbel) bm)
  have HG := Lib.hid hg
  have HU := Lib.hid hu
  clear hu
  cases hm : macB m with
  | false =>
    have HR := Lib.hid (show dssR m zs = (mac0, 0, 1) by simp [dssR, hm])
    rw [hm] at HV
    clear hm h
    go_enter Tryd.func71, Tryd.ntmps71
    go_wp2_with fail
    rw [← HU.out, ← hg]
    clear hg
    refine HV.out.mono ?_
    rintro e w1 ⟨rfl, hb⟩
    replace br := br.below hb
    replace hbel := hbel.trans (hb.mono hbel.size)
    clear hb bm
    have r0 := br.at_ 0 rfl
    have r1 := br.at_ 1 rfl
    have r2 := br.at_ 2 rfl
    have r3 := br.at_ 3 rfl
    have r4 := br.at_ 4 rfl
    have r5 := br.at_ 5 rfl
    have r6 := br.at_ 6 rfl
    have f0 := br.thaw 0
    have f1 := br.thaw 1
    have f2 := br.thaw 2
    have f3 := br.thaw 3
    have f4 := br.thaw 4
    have f5 := br.thaw 5
    have f6 := br.thaw 6
    have hl := br.lt
    go_wp2
    exact bodyPost_ret (v := .tuple #[.agg #[.int .i64 0, .slice none 0 0, .int .i64 0, .slice none 0 0, .int .i64 0, .slice none 0 0, .int .i64 0], .int .i64 0, .int .i64 1]) (by simp [results, go_sem, r0, r1, r2, r3, r4, r5, r6]) rfl (macIC_err HR.out rfl (by have := HG.out; exact (by repeat (first | with_reducible exact hbel | with_reducible refine Below.setCell ?_ (by first | omega | (simp <;> omega)) _ | with_reducible refine Below.alloc ?_ (by first | omega | (simp <;> omega)) _ | with_reducible refine Below.drew ?_))))
  | true =>
    obtain ⟨e2, e3, b0, b1, n0, n12, n2, n3, n4, p0, p1, p2, d1, d2, d3⟩ := macB_facts hm
    have HC := Lib.hid (fun (v : World) (hb : Below w.heap.size w v) (bp : Bx v g 28 #[.int .i64 m.b1, .slice A1 m.z1.length C1, .int .i64 m.b2, .slice A2 m.z2.length C2, .int .i64 m.b3, .slice A3 m.z3.length C3, .int .i64 m.p]) => l10Own_any g m A1 C1 A2 C2 A3 C3 v (h.below hb) (by omega) (by omega) (by omega) bp)
    have HM := Lib.hid hm
    have HX : Hid (dssR m zs = if strB zs = true then if zs.length ≤ 300 then ((runM m zs).1, (runM m zs).2, 0) else (mac0, 0, 5) else (mac0, 0, 2)) := Lib.hid (by
      rw [dssR, if_pos hm])
    rw [hm] at HV
    clear hm h e2 e3 b0 b1 n0 n12 n2 n3 n4 p0 p1 p2 d1 d2 d3
    go_enter Tryd.func71, Tryd.ntmps71
    go_wp2_with fail
    rw [← HU.out, ← hg]
    clear hg
    refine HV.out.mono ?_
    rintro e w1 ⟨rfl, hb⟩
    have hz1 := hb.size
    replace bm := bm.below hb
    replace br := br.below hb
    replace hbel := hbel.trans (hb.mono hbel.size)
    clear hb
    go_wp2_with fail
    go_loopw [7] (fun i wr => ∃ (k : Nat), k ≤ zs.length ∧ i = .int .i64 (k : Int) ∧ wr = w1 ∧ Hid (∀ j, j < k → inB (nth zs j) 1 6 = true)) (fun i _ => zs.length - (intOf i).toNat)
    case atStart => exact ⟨0, Nat.zero_le _, rfl, rfl, Lib.hid (fun j hj => absurd hj (Nat.not_lt_zero j))⟩
    case round =>
      obtain ⟨k, hkl, rfl, rfl, HK⟩ := hrel
      by_cases hlt : k < zs.length
      · obtain ⟨pb, po, rfl, hcz⟩ := (ha.below hbel).at_ hlt
        have HI := Lib.hid (l10Kind_any (nth zs k) wr)
        cases hi : inB (nth zs k) 1 6 with
        | false =>
          have HR := Lib.hid (show dssR m zs = (mac0, 0, 2) by rw [HX.out, strB_not hlt hi]; rfl)
          rw [hi] at HI
          clear hi HC HM HX HK bm
          go_wp2_with fail
          refine HI.out.mono ?_
          rintro e w2 ⟨rfl, hw⟩
          subst w2
          have r0 := br.at_ 0 rfl
          have r1 := br.at_ 1 rfl
          have r2 := br.at_ 2 rfl
          have r3 := br.at_ 3 rfl
          have r4 := br.at_ 4 rfl
          have r5 := br.at_ 5 rfl
          have r6 := br.at_ 6 rfl
          have f0 := br.thaw 0
          have f1 := br.thaw 1
          have f2 := br.thaw 2
          have f3 := br.thaw 3
          have f4 := br.thaw 4
          have f5 := br.thaw 5
          have f6 := br.thaw 6
          have hl := br.lt
          go_wp2
          exact bodyPost_ret (v := .tuple #[.agg #[.int .i64 0, .slice none 0 0, .int .i64 0, .slice none 0 0, .int .i64 0, .slice none 0 0, .int .i64 0], .int .i64 0, .int .i64 2]) (by simp [results, go_sem, r0, r1, r2, r3, r4, r5, r6]) rfl (macIC_err HR.out rfl (by have := HG.out; exact (by repeat (first | with_reducible exact hbel | with_reducible refine Below.setCell ?_ (by first | omega | (simp <;> omega)) _ | with_reducible refine Below.alloc ?_ (by first | omega | (simp <;> omega)) _ | with_reducible refine Below.drew ?_))))
        | true =>
          rw [hi] at HI
          have HK2 := Lib.hid (show ∀ j, j < k + 1 → inB (nth zs j) 1 6 = true from fun j hj => by
            rcases Nat.lt_or_ge j k with h' | h'
            · exact HK.out j h'
            · obtain rfl : j = k := by omega
              exact hi)
          clear hi HK
          go_wp2_with fail
          refine HI.out.mono ?_
          rintro e w2 ⟨rfl, hw⟩
          subst w2
          go_wp2
          go_roundw
          case rel => exact ⟨k + 1, by omega, by go_num, trivial, HK2⟩
          case measure => (simp [intOf]) <;> omega
      · obtain rfl : k = zs.length := by omega
        have hst := strB_of HK.out
        clear HK
        rcases Nat.lt_or_ge 300 zs.length with hl | hl
        · have HR := Lib.hid (show dssR m zs = (mac0, 0, 5) by rw [HX.out, if_pos hst, if_neg (by omega)])
          have hl2 : (300 : Int) < zs.length := by omega
          clear HC HM HX hst bm
          have r0 := br.at_ 0 rfl
          have r1 := br.at_ 1 rfl
          have r2 := br.at_ 2 rfl
          have r3 := br.at_ 3 rfl
          have r4 := br.at_ 4 rfl
          have r5 := br.at_ 5 rfl
          have r6 := br.at_ 6 rfl
          have f0 := br.thaw 0
          have f1 := br.thaw 1
          have f2 := br.thaw 2
          have f3 := br.thaw 3
          have f4 := br.thaw 4
          have f5 := br.thaw 5
          have f6 := br.thaw 6
          have hl := br.lt
          go_wp2
          exact bodyPost_ret (v := .tuple #[.agg #[.int .i64 0, .slice none 0 0, .int .i64 0, .slice none 0 0, .int .i64 0, .slice none 0 0, .int .i64 0], .int .i64 0, .int .i64 5]) (by simp [results, go_sem, r0, r1, r2, r3, r4, r5, r6]) rfl (macIC_err HR.out rfl (by have := HG.out; exact (by repeat (first | with_reducible exact hbel | with_reducible refine Below.setCell ?_ (by first | omega | (simp <;> omega)) _ | with_reducible refine Below.alloc ?_ (by first | omega | (simp <;> omega)) _ | with_reducible refine Below.drew ?_))))
        · have HR := Lib.hid (show dssR m zs = ((runM m zs).1, (runM m zs).2, 0) by rw [HX.out, if_pos hst, if_pos hl])
          have hl2 : ¬ (300 : Int) < zs.length := by omega
          have HN := Lib.hid (show ∀ k, k < zs.length → 1 ≤ nth zs k ∧ nth zs k ≤ 6 from fun k hk => by
            rw [strB, decide_eq_true_eq] at hst
            rw [nth_get hk]; exact hst _ (List.getElem_mem hk))
          have HA := Lib.hid ha
          clear HX hst hl
          go_wp2_with fail
          refine (HC.out wr hbel bm).mono ?_
          rintro e w2 ⟨D1, E1, D2, E2, D3, E3, rfl, own, hb⟩
          have hz2 := hb.size
          have hbl2 := hbel.trans (hb.mono hbel.size)
          replace br := br.below hb
          clear hb bm
          go_upto_region 11 with fail
          obtain ⟨c2, hc⟩ : ∃ c, c = w2.heap.size := ⟨_, rfl⟩
          obtain ⟨V, hV⟩ : ∃ V, V = w2.alloc (.cells #[.int .i64 m.b1, .slice D1 m.z1.length E1, .int .i64 m.b2, .slice D2 m.z2.length E2, .int .i64 m.b3, .slice D3 m.z3.length E3, .int .i64 m.p] 28) := ⟨_, rfl⟩
          try rw [← hc, ← hV]
          have hk : Wm V wr.heap.size c2 m D1 E1 D2 E2 D3 E3 := by
            obtain ⟨l1, h1, l2, h2, l3, h3, o1, o2, o3, s⟩ := own.ex
            refine ⟨by rw [hV, hc]; exact Bx.new _ _ _, by omega, l1, h1, l2, h2, l3, h3, by rw [hV]; exact o1.alloc _, by rw [hV]; exact o2.alloc _, by rw [hV]; exact o3.alloc _, ?_⟩
            rw [hV, hc]; simp; omega
          have hb : Below w2.heap.size w2 V := by rw [hV]; exact (Below.refl _ _).alloc (Nat.le_refl _) _
          have hz3 := hb.size
          replace br := br.below hb
          replace hbl2 := hbl2.trans (hb.mono hbl2.size)
          clear hb hV hc own
          have hzr := hbel.size
          have HQ : Hid (∀ v, Below wr.heap.size V v → Rd v a zs) := Lib.hid (fun v hv => HA.out.below (hbl2.trans (hv.mono hzr)))
          go_wp2_with fail
          refine (l10Run_any wr.heap.size c2 m D1 E1 D2 E2 D3 E3 a c zs V hk HM.out HQ.out HN.out).mono ?_
          rintro e w3 ⟨rfl, ⟨F1, G1, F2, G2, F3, G3, hk3⟩, hb⟩
          replace br := br.lo hb (by omega)
          replace hbl2 := hbl2.trans (hb.mono hzr)
          obtain ⟨m3, hm3⟩ : ∃ x, x = (runM m zs).1 := ⟨_, rfl⟩
          obtain ⟨t3, ht3⟩ : ∃ x, x = (runM m zs).2 := ⟨_, rfl⟩
          rw [← hm3] at hk3
          rw [← hm3, ← ht3] at HR
          rw [← ht3]
          clear hb hk hm3 ht3 HC HM HN HA HQ hl2
          go_upto_region 12 with fail
          have q0 := hk3.bx.at_ 0 rfl
          have q1 := hk3.bx.at_ 1 rfl
          have q2 := hk3.bx.at_ 2 rfl
          have q3 := hk3.bx.at_ 3 rfl
          have q4 := hk3.bx.at_ 4 rfl
          have q5 := hk3.bx.at_ 5 rfl
          have q6 := hk3.bx.at_ 6 rfl
          have HO := Lib.hid hk3.own
          have HS := Lib.hid (show w.heap.size ≤ wr.heap.size ∧ g + 1 < wr.heap.size by have := HG.out; omega)
          have j0 := br.at_ 0 rfl
          have j1 := br.at_ 1 rfl
          have j2 := br.at_ 2 rfl
          have j3 := br.at_ 3 rfl
          have j4 := br.at_ 4 rfl
          have j5 := br.at_ 5 rfl
          have j6 := br.at_ 6 rfl
          have f0 := br.thaw 0
          have f1 := br.thaw 1
          have f2 := br.thaw 2
          have f3 := br.thaw 3
          have f4 := br.thaw 4
          have f5 := br.thaw 5
          have f6 := br.thaw 6
          have hl := br.lt
          have bz : Bx (((((((w3.setCell ⟨g + 1, 0, none⟩ (.int .i64 m3.b1)).setCell ⟨g + 1, 1, none⟩ (.slice F1 m3.z1.length G1)).setCell ⟨g + 1, 2, none⟩ (.int .i64 m3.b2)).setCell ⟨g + 1, 3, none⟩ (.slice F2 m3.z2.length G2)).setCell ⟨g + 1, 4, none⟩ (.int .i64 m3.b3)).setCell ⟨g + 1, 5, none⟩ (.slice F3 m3.z3.length G3)).setCell ⟨g + 1, 6, none⟩ (.int .i64 m3.p)) (g + 1) 28 #[.int .i64 m3.b1, .slice F1 m3.z1.length G1, .int .i64 m3.b2, .slice F2 m3.z2.length G2, .int .i64 m3.b3, .slice F3 m3.z3.length G3, .int .i64 m3.p] := bx_put7 br
          have r0 := bz.at_ 0 rfl
          have r1 := bz.at_ 1 rfl
          have r2 := bz.at_ 2 rfl
          have r3 := bz.at_ 3 rfl
          have r4 := bz.at_ 4 rfl
          have r5 := bz.at_ 5 rfl
          have r6 := bz.at_ 6 rfl
          clear bz
          clear hk3 hz1 hz2 hz3 hzr
          go_wp2
          exact bodyPost_ret (v := .tuple #[.agg #[.int .i64 m3.b1, .slice F1 m3.z1.length G1, .int .i64 m3.b2, .slice F2 m3.z2.length G2, .int .i64 m3.b3, .slice F3 m3.z3.length G3, .int .i64 m3.p], .int .i64 t3, .int .i64 0]) (by simp [results, go_sem, r0, r1, r2, r3, r4, r5, r6]) rfl
            (macIC_ok HR.out rfl (((((((HO.out.setCell (p := ⟨g + 1, 0, none⟩) (.inl HS.out.2) _).setCell (p := ⟨g + 1, 1, none⟩) (.inl HS.out.2) _).setCell (p := ⟨g + 1, 2, none⟩) (.inl HS.out.2) _).setCell (p := ⟨g + 1, 3, none⟩) (.inl HS.out.2) _).setCell (p := ⟨g + 1, 4, none⟩) (.inl HS.out.2) _).setCell (p := ⟨g + 1, 5, none⟩) (.inl HS.out.2) _).setCell (p := ⟨g + 1, 6, none⟩) (.inl HS.out.2) _) HS.out.1 (by simp) (by have := HG.out; exact (by repeat (first | with_reducible exact hbl2 | with_reducible refine Below.setCell ?_ (by first | omega | (simp <;> omega)) _ | with_reducible refine Below.alloc ?_ (by first | omega | (simp <;> omega)) _ | with_reducible refine Below.drew ?_))))
end Go.Proofs.YtlahobdopmdfmaaDoor

/- Src -/
namespace Go.Proofs.YtlahobdopmdfmaaDoor
open Go.RowKit

/-- The cells from this address on read as bytes. -/
structure RdU (w : World) (a : Option Addr) (zs : List Int) : Prop where
  len : zs.length ≤ 1000000000
  le : ∀ i, 0 ≤ nth zs i ∧ nth zs i ≤ 255
  cells : zs ≠ [] → ∃ b off, a = some ⟨b, off, none⟩ ∧ ∀ i, i < zs.length → w.cell? ⟨b, off + i, none⟩ = some (.int .u8 (nth zs i))
theorem RdU.at_ {w : World} {a : Option Addr} {zs : List Int} (h : RdU w a zs) {k : Nat} (hk : k < zs.length) :
    ∃ b off, a = some ⟨b, off, none⟩ ∧ w.cell? ⟨b, off + k, none⟩ = some (.int .u8 (nth zs k)) := by
  obtain ⟨b, off, rfl, hc⟩ := h.cells (by rintro rfl; simp at hk)
  exact ⟨b, off, rfl, hc k hk⟩
/-- What a source reads stays where it is, outside what is touched. -/
def Far (a : Option Addr) (g : Nat) : Prop := ∀ b off, a = some ⟨b, off, none⟩ → b < g
theorem RdU.lo {w w' : World} {a : Option Addr} {zs : List Int} {L : Nat} (h : RdU w a zs) (hb : Below L w w') (hf : Far a L) : RdU w' a zs := by
  refine ⟨h.len, h.le, fun hne => ?_⟩
  obtain ⟨b, off, rfl, hc⟩ := h.cells hne
  exact ⟨b, off, rfl, fun i hi => (hb.cell (p := ⟨b, off + i, none⟩) (hf b off rfl)).trans (hc i hi)⟩
theorem RdU.below {w w' : World} {a : Option Addr} {zs : List Int} (h : RdU w a zs) (hb : Below w.heap.size w w') : RdU w' a zs := by
  refine ⟨h.len, h.le, fun hne => ?_⟩
  obtain ⟨b, off, rfl, hc⟩ := h.cells hne
  exact ⟨b, off, rfl, fun i hi => (hb.cell (p := ⟨b, off + i, none⟩) (World.block_lt_of_cell? _ _ (hc i hi))).trans (hc i hi)⟩
theorem RdU.far {w : World} {a : Option Addr} {zs : List Int} (h : RdU w a zs) (hz : zs ≠ []) : Far a w.heap.size := by
  intro b off e
  obtain ⟨b', off', e', hc⟩ := h.cells hz
  rw [e] at e'
  injection e' with e'
  injection e' with e1 e2
  subst e1 e2
  have := hc 0 (List.length_pos_iff.2 hz)
  exact World.block_lt_of_cell? _ _ this

/-- Block g is a source that has given at most K numbers. -/
def Src (w : World) (g K : Nat) : Prop := ∃ a zs c k s, RdU w a zs ∧ (zs ≠ [] → Far a g) ∧ Bx w g 149 #[.slice a zs.length c, .int .i64 (k : Nat), .int .u64 s] ∧ k ≤ K
theorem Src.touch {w w' : World} {g K lo hi : Nat} (h : Src w g K) (ht : Touch lo hi w w') (hd : g < lo) : Src w' g K := by
  obtain ⟨a, zs, c, k, s, h1, h2, h3, h4⟩ := h
  refine ⟨a, zs, c, k, s, ⟨h1.len, h1.le, fun hne => ?_⟩, h2, h3.touch ht (.inl hd), h4⟩
  obtain ⟨b, off, rfl, hc⟩ := h1.cells hne
  have := h2 hne b off rfl
  exact ⟨b, off, rfl, fun i hi => keptT ht (hc i hi) (.inl (by omega))⟩
theorem Src.lo {w w' : World} {g K L : Nat} (h : Src w g K) (ht : Below L w w') (hd : g < L) : Src w' g K :=
  h.touch (lo := L) (hi := w'.heap.size + w.heap.size) ⟨ht.os, ht.tape, ht.output, ht.size, fun k _ ho => ht.block k (by omega)⟩ hd
theorem Src.lt {w : World} {g K : Nat} (h : Src w g K) : g < w.heap.size := by
  obtain ⟨_, _, _, _, _, _, _, h3, _⟩ := h
  exact h3.lt
theorem Src.mono {w : World} {g K M : Nat} (h : Src w g K) (hm : K ≤ M) : Src w g M := by
  obtain ⟨a, zs, c, k, s, h1, h2, h3, h4⟩ := h
  exact ⟨a, zs, c, k, s, h1, h2, h3, by omega⟩

theorem from_any (a : Option Addr) (zs : List Int) (c : Nat) (w : World) (h : RdU w a zs) :
    Calls Tryd.prog 87 #[.slice a zs.length c] w fun e w' => ∃ g, e = .returned (.pointer (some ⟨g, 0, none⟩)) ∧ w.heap.size ≤ g ∧ Src w' g 0 ∧ Below w.heap.size w w' := by
  go_enter Tryd.func87, Tryd.ntmps87
  go_wp2
  refine bodyPost_ret (v := .pointer (some ⟨w.heap.size, 0, none⟩)) (by simp [results, Tryd.results87, go_sem]) rfl ?_
  have hb : Below w.heap.size w (w.alloc (.cells #[.slice a zs.length c, .int .i64 0, .int .u64 0] 149)) := (by repeat (first | exact Below.refl _ _ | refine Below.setCell ?_ (by first | omega | (simp <;> omega)) _ | refine Below.alloc ?_ (by first | omega | (simp <;> omega)) _ | refine Below.drew ?_))
  exact ⟨_, rfl, Nat.le_refl _, ⟨a, zs, c, 0, 0, h.below hb, fun hz => h.far hz, Bx.new _ _ _, Nat.le_refl _⟩, hb⟩

theorem wrap_u64_small (n : Int) (h₀ : 0 ≤ n) (h₁ : n < 2 ^ 63) : IntKind.u64.wrap n = n := by rw [IntKind.wrap_u64]; omega
/-- The bits 40 .. 47 of a seed. -/
theorem seed_bits (s : Int) : ∃ z : Int, wrap64 (bits .and .u64 (IntKind.u64.wrap s / 1099511627776) 255) = z ∧ 0 ≤ z ∧ z ≤ 255 := by
  have h0 : 0 ≤ IntKind.u64.wrap s / 1099511627776 ∧ IntKind.u64.wrap s / 1099511627776 < 16777216 := by rw [IntKind.wrap_u64]; omega
  have h := bits_mask .u64 63 (by decide) wrap_u64_small 8 (by decide) (IntKind.u64.wrap s / 1099511627776) h0.1 (by omega)
  have e : ((2 : Int) ^ 8 - 1) = 255 := by decide
  have e2 : ((2 : Int) ^ 8) = 256 := by decide
  rw [e, e2] at h
  rw [h]
  refine ⟨_, rfl, ?_⟩
  have : wrap64 (IntKind.u64.wrap s / 1099511627776 % 256) = IntKind.u64.wrap s / 1099511627776 % 256 := by
    first
      | exact IntWalk.i64_in (IntKind.u64.wrap s / 1099511627776 % 256) (by omega)
      | exact (by unfold wrap64; omega)
  omega
theorem src_end {w : World} {g k K n m : Nat} {a : Option Addr} {zs : List Int} {c : Nat} {s t : Int} (h1 : RdU w a zs) (h2 : zs ≠ [] → Far a g) (h3 : Bx w g 149 #[.slice a zs.length c, .int .i64 (k : Nat), .int .u64 s]) (h4 : k ≤ K) :
    Src ((((w.drewN n).setCell ⟨g, 1, none⟩ (.int .i64 ((k : Int) + 1))).setCell ⟨g, 2, none⟩ (.int .u64 t)).drewN m) g (K + 1) ∧
    Touch g (g + 1) w ((((w.drewN n).setCell ⟨g, 1, none⟩ (.int .i64 ((k : Int) + 1))).setCell ⟨g, 2, none⟩ (.int .u64 t)).drewN m) := by
  have ht : Touch g (g + 1) w ((((w.drewN n).setCell ⟨g, 1, none⟩ (.int .i64 ((k : Int) + 1))).setCell ⟨g, 2, none⟩ (.int .u64 t)).drewN m) :=
    (((Touch.refl _ _ _).drewN n).setCell (by simp) (by simp) _).setCell (by simp) (by simp) _ |>.drewN m
  refine ⟨⟨a, zs, c, k + 1, t, ⟨h1.len, h1.le, fun hne => ?_⟩, h2, ?_, by omega⟩, ht⟩
  · obtain ⟨b, off, rfl, hc⟩ := h1.cells hne
    have := h2 hne b off rfl
    exact ⟨b, off, rfl, fun i hi => keptT ht (hc i hi) (.inl (by omega))⟩
  · simpa using (((h3.drewN n).set_ 1 (.int .i64 ((k : Int) + 1))).set_ 2 (.int .u64 t)).drewN m

theorem next_any (g K : Nat) (w : World) (h : Src w g K) (hK : K ≤ 1000000) :
    Calls Tryd.prog 159 #[.pointer (some ⟨g, 0, none⟩)] w fun e w' => ∃ z : Int, e = .returned (.int .i64 z) ∧ 0 ≤ z ∧ z ≤ 255 ∧ Src w' g (K + 1) ∧ Touch g (g + 1) w w' := by
  obtain ⟨a, zs, c, k, s, h1, h2, h3, h4⟩ := h
  have hlen := h1.len
  have hsz := h3.lt
  have c0 : w.cell? ⟨g, 0, none⟩ = some (.slice a zs.length c) := h3.at_ 0 rfl
  have c1 : w.cell? ⟨g, 1, none⟩ = some (.int .i64 (k : Nat)) := h3.at_ 1 rfl
  have c2 : w.cell? ⟨g, 2, none⟩ = some (.int .u64 s) := h3.at_ 2 rfl
  have f1 := h3.thaw 1
  have f2 := h3.thaw 2
  have v1 : IntKind.i64.wrap ((k : Int) + 1) = (k : Int) + 1 := IntWalk.i64_in _ (by omega)
  by_cases hlt : k < zs.length
  · obtain ⟨b, off, rfl, hc⟩ := h1.at_ hlt
    have hz := h1.le k
    have hlt' : ¬ zs.length < k + 1 := by omega
    go_enter Tryd.func159, Tryd.ntmps159
    go_wp2_with fail
    go_quiet (fail)
    go_wp2_with fail
    go_quiet (fail)
    go_wp2_with fail
    go_quiet (fail)
    go_wp2_with fail
    refine bodyPost_ret (v := .int .i64 (nth zs k)) (by simp [results, Tryd.results159, go_sem]) rfl ?_
    exact ⟨_, rfl, hz.1, hz.2, src_end h1 h2 h3 h4⟩
  · have hlt2 : ¬ k + 1 ≤ zs.length := by omega
    go_enter Tryd.func159, Tryd.ntmps159
    go_wp2_with fail
    go_quiet (fail)
    go_wp2_with fail
    go_quiet (fail)
    go_wp2_with fail
    obtain ⟨z, hz, z0, z1⟩ := seed_bits (IntKind.u64.wrap (IntKind.u64.wrap (s * 6364136223846793005)) + 1442695040888963407)
    rw [hz]
    refine bodyPost_ret (v := .int .i64 z) (by simp [results, Tryd.results159, go_sem]) rfl ?_
    exact ⟨_, rfl, z0, z1, src_end h1 h2 h3 h4⟩

theorem pick_any (g K : Nat) (n : Int) (w : World) (h : Src w g K) (hK : K ≤ 900000) (hn : n ≤ 10000) :
    Calls Tryd.prog 102 #[.pointer (some ⟨g, 0, none⟩), .int .i64 n] w fun e w' => ∃ z : Int, e = .returned (.int .i64 z) ∧ 0 ≤ z ∧ z ≤ max 0 (n - 1) ∧ Src w' g (K + 2) ∧ Touch g (g + 1) w w' := by
  by_cases h1 : n ≤ 1
  · go_enter Tryd.func102, Tryd.ntmps102
    go_wp2
    refine bodyPost_ret (v := .int .i64 0) (by simp [results, Tryd.results102, go_sem]) rfl ?_
    exact ⟨0, rfl, by omega, by omega, h.mono (by omega), Touch.refl _ _ _⟩
  · by_cases h2 : 200 < n
    · go_enter Tryd.func102, Tryd.ntmps102
      go_wp2_with fail
      refine (next_any g K w h (by omega)).mono ?_
      rintro e w1 ⟨x, rfl, x0, x1, hs1, ht1⟩
      have v1 : IntKind.i64.wrap (x * 256) = x * 256 := IntWalk.i64_in _ (by omega)
      go_wp2_with fail
      refine (next_any g (K + 1) w1 hs1 (by omega)).mono ?_
      rintro e w2 ⟨y, rfl, y0, y1, hs2, ht2⟩
      have v2 : IntKind.i64.wrap (x * 256 + y) = x * 256 + y := IntWalk.i64_in _ (by omega)
      go_wp2_with fail
      refine bodyPost_ret (v := .int .i64 ((x * 256 + y) % n)) (by simp [results, Tryd.results102, go_sem]) rfl ?_
      exact ⟨_, rfl, Int.emod_nonneg _ (by omega), by have := Int.emod_lt_of_pos (x * 256 + y) (b := n) (by omega); omega, hs2, ht1.trans ht2⟩
    · go_enter Tryd.func102, Tryd.ntmps102
      go_wp2_with fail
      refine (next_any g K w h (by omega)).mono ?_
      rintro e w1 ⟨x, rfl, x0, x1, hs1, ht1⟩
      go_wp2_with fail
      refine bodyPost_ret (v := .int .i64 (x % n)) (by simp [results, Tryd.results102, go_sem]) rfl ?_
      exact ⟨_, rfl, Int.emod_nonneg _ (by omega), by have := Int.emod_lt_of_pos x (b := n) (by omega); omega, hs1.mono (by omega), ht1⟩
end Go.Proofs.YtlahobdopmdfmaaDoor

/- DrawO -/
namespace Go.Proofs.YtlahobdopmdfmaaDoor
open Go.RowKit

theorem one_any (g K : Nat) (n : Int) (w : World) (h : Src w g K) (hK : K ≤ 900000) (hn : n ≤ 10000) :
    Calls Tryd.prog 100 #[.pointer (some ⟨g, 0, none⟩), .int .i64 n] w fun e w' => ∃ z : Bool, e = .returned (.bool z) ∧ Src w' g (K + 2) ∧ Touch g (g + 1) w w' := by
  go_enter Tryd.func100, Tryd.ntmps100
  go_wp2_with fail
  refine (pick_any g K n w h hK hn).mono ?_
  rintro e w1 ⟨x, rfl, x0, x1, hs1, ht1⟩
  go_wp2_with fail
  exact bodyPost_ret (v := .bool (x == 0)) (by simp [results, Tryd.results100, go_sem]) rfl ⟨_, rfl, hs1, ht1⟩
end Go.Proofs.YtlahobdopmdfmaaDoor

/- AppAt -/
namespace Go.Proofs.YtlahobdopmdfmaaDoor
open Go.RowKit

section
variable {P : Program} {ops : Array Oper} {rest : List Oper} {o : Oper} {a : Act} {Q : Exit → Act → World → Prop} {w : World}
theorem wp_appAt {K : Act → World → Prop} (s x : Operand) (t e : TypeId) (ho : o.op = .call { callee := .builtin .append, args := #[s, x], argTypes := #[t, t] })
    (ht : P.underlying t = some (.slice e)) (hinfo : (P.info? e).map (fun i => (i.zero, i.size, i.bytes)) = some (some (.int .i64 0), 1, 8)) {g n : Nat} {A : Option Addr} {C : Nat} {zs : List Int}
    (hs : a.eval s = .slice A n C) (hown : Own e w g (g + 1) (.slice A n C) zs) (hl : zs.length = n)
    (ad : Addr) (c : Nat) (z : Int) (hx : a.eval x = .slice (some ad) 1 c) (hc : w.cell? (ad.add 0) = some (.int .i64 z)) (hn : n < 1000000000) (hlo : g ≤ w.heap.size)
    (h : ∀ g' C' w', g' = g ∨ g' = w.heap.size → Own e w' g' (g' + 1) (.slice (some ⟨g', 0, none⟩) (n + 1) C') (zs ++ [z]) → Touch g (g + 1) w w' → K (a.put o.dst (.slice (some ⟨g', 0, none⟩) (n + 1) C')) w') :
    o.wp P a w K Q := by
  obtain ⟨i, hi1, hi2, hi3, hi4⟩ := info_parts hinfo
  have row := hown.row
  rw [hl] at row
  obtain ⟨v', w', hr, h2, h3, _, h5⟩ := run_append_own_at (P := P) w g t o.type e i _ 1 8 ht hi1 hi2 hi3 hi4 rfl (by omega) _ n _ row ad 1 c [.int .i64 z] rfl (by
    intro j v hj
    match j, hj with
    | 0, hj => simp at hj; subst hj; exact hc) (by intro u hu; simp at hu; subst hu; rfl) (by unfold maxLen; omega) (by omega) hlo
  unfold Oper.wp execOp
  simp only [ho, resolve, invoke, builtin, Sem.run_bind, Sem.run_pure, Result.andThen_ok, List.map_toArray, List.map_cons, List.map_nil, hs, hx, hr]
  rcases h2.2 with ⟨_, h0⟩ | ⟨g', cap, cur, hv, hg, r⟩
  · omega
  · subst hv
    have hk : g' = g ∨ g' = w.heap.size := by
      rcases h5 with h5 | h5
      · rw [show (Value.slice (some ⟨g', 0, none⟩) (n + 1) cap).ownBlock = some g' from rfl] at h5
        have := hown.lo_le h5.symm
        exact .inl (by omega)
      · rw [show (Value.slice (some ⟨g', 0, none⟩) (n + 1) cap).ownBlock = some g' from rfl] at h5
        injection h5 with h5
        exact .inr h5
    have hT : Touch g (g + 1) w w' := ⟨h3.os, h3.tape, h3.output, h3.size, fun k hk' ho' => h3.block k hk' (by
      intro he
      have := hown.lo_le he.symm
      omega)⟩
    refine h g' cap w' hk ⟨⟨by simp [hl], .inr ⟨g', cap, cur, by simp [hl], Nat.le_refl _, ?_⟩⟩, ?_, by simp; omega⟩ hT
    · simpa [hl] using r
    · intro k hk'
      simp [Value.ownBlock] at hk'
      omega
theorem wpList_appAt (hgd : o.guard = none) (s x : Operand) (t e : TypeId) (ho : o.op = .call { callee := .builtin .append, args := #[s, x], argTypes := #[t, t] })
    (ht : P.underlying t = some (.slice e)) (hinfo : (P.info? e).map (fun i => (i.zero, i.size, i.bytes)) = some (some (.int .i64 0), 1, 8)) {g n : Nat} {A : Option Addr} {C : Nat} {zs : List Int}
    (hs : a.eval s = .slice A n C) (hown : Own e w g (g + 1) (.slice A n C) zs) (hl : zs.length = n)
    (ad : Addr) (c : Nat) (z : Int) (hx : a.eval x = .slice (some ad) 1 c) (hc : w.cell? (ad.add 0) = some (.int .i64 z)) (hn : n < 1000000000) (hlo : g ≤ w.heap.size)
    (h : ∀ g' C' w', g' = g ∨ g' = w.heap.size → Own e w' g' (g' + 1) (.slice (some ⟨g', 0, none⟩) (n + 1) C') (zs ++ [z]) → Touch g (g + 1) w w' → wpList P ops Q rest (a.put o.dst (.slice (some ⟨g', 0, none⟩) (n + 1) C')) w') :
    wpList P ops Q (o :: rest) a w :=
  wpList_plain hgd fun _ hK => wp_appAt s x t e ho ht hinfo hs hown hl ad c z hx hc hn hlo fun g' C' w' h0 h1 h2 => hK _ _ (h g' C' w' h0 h1 h2)
end
end Go.Proofs.YtlahobdopmdfmaaDoor

/- OrdC -/
namespace Go.Proofs.YtlahobdopmdfmaaDoor
open Go

section
variable {P : Program} {ops : Array Oper} {Q : Exit → Act → World → Prop} {md : Region.Mode} {S : World → Prop} {m : Nat}

/-- What is listed waits for nothing that is not. -/
def Shut (md : Region.Mode) (ops : Array Oper) (listed : Array Bool) : Prop := ∀ (k : Nat) (o : Oper), ops[k]? = some o → listed.getD k false = true → ∀ e ∈ o.after, Region.binds md e = true → listed.getD e.on false = true
def shutB (md : Region.Mode) (ops : Array Oper) (listed : Array Bool) : Bool :=
  (List.range ops.size).all fun k => match ops[k]? with
    | some o => !(listed.getD k false) || o.after.all fun e => !(Region.binds md e) || listed.getD e.on false
    | none => true
theorem shutB_spec {listed : Array Bool} (h : shutB md ops listed = true) : Shut md ops listed := by
  intro k o ho hl e he hb
  unfold shutB at h
  rw [List.all_eq_true] at h
  have hk : k < ops.size := by
    rcases Nat.lt_or_ge k ops.size with h' | h'
    · exact h'
    · rw [Array.getElem?_eq_none h'] at ho; cases ho
  have := h k (List.mem_range.2 hk)
  rw [ho] at this
  dsimp only at this
  rw [hl, Bool.not_true, Bool.false_or, ← Array.all_toList, List.all_eq_true] at this
  have := this e (by simpa using he)
  rwa [hb, Bool.not_true, Bool.false_or] at this
theorem Shut.ready {listed : Array Bool} (h : Shut md ops listed) {j : Nat} (hj : j ∈ Region.ready md ops listed) : Shut md ops (listed.setIfInBounds j true) := by
  obtain ⟨_, oj, hoj, hall⟩ := mem_ready.1 hj
  have up : ∀ k, listed.getD k false = true → (listed.setIfInBounds j true).getD k false = true := by
    intro k hk
    by_cases hjk : j = k
    · subst hjk
      rcases Nat.lt_or_ge j listed.size with h' | h'
      · simp [h']
      · simp [Array.getElem?_eq_none h'] at hk
    · rw [getD_set_ne false hjk]; exact hk
  intro k o ho hl e he hb
  by_cases hjk : j = k
  · subst hjk
    rw [hoj] at ho
    obtain rfl : oj = o := by injection ho
    exact up _ (hall e he hb)
  · rw [getD_set_ne false hjk] at hl
    exact up _ (h k o ho hl e he hb)

/-- Does number m wait for number i, maybe by way of others (n steps at most)? -/
def awaits (md : Region.Mode) (ops : Array Oper) : Nat → Nat → Nat → Bool
  | 0, _, _ => false
  | n + 1, m, i => match ops[m]? with
    | some o => o.after.any fun e => Region.binds md e && (e.on == i || awaits md ops n e.on i)
    | none => false
theorem awaits_spec {i : Nat} {listed : Array Bool} (h : Shut md ops listed) : ∀ (n m : Nat), awaits md ops n m i = true → (∀ o, ops[m]? = some o → ∀ e ∈ o.after, Region.binds md e = true → listed.getD e.on false = true) → listed.getD i false = true
  | 0, _, h0, _ => by simp [awaits] at h0
  | n + 1, m, h0, hm => by
    unfold awaits at h0
    cases ho : ops[m]? with
    | none => rw [ho] at h0; cases h0
    | some o =>
      rw [ho] at h0
      dsimp only at h0
      rw [← Array.any_toList, List.any_eq_true] at h0
      obtain ⟨e, he, h1⟩ := h0
      rw [Bool.and_eq_true, Bool.or_eq_true, beq_iff_eq] at h1
      have hl := hm o ho e (by simpa using he) h1.1
      rcases h1.2 with h2 | h2
      · rw [← h2]; exact hl
      · exact awaits_spec h n e.on h2 fun o' ho' e' he' hb' => h e.on o' ho' hl e' he' hb'

theorem wpAnyM_firstC {i : Nat} {oi : Oper} {v : Value} (hi : ops[i]? = some oi) (hsel : ∀ (j : Nat) (o : Oper) cs b, ops[j]? = some o → o.op ≠ .select cs b)
    (hQ : ∀ c a w, Q (.panic c) (a.put oi.dst v) w → Q (.panic c) a w) (hwait : ∀ listed, Shut md ops listed → listed.getD i false = false → m ∉ Region.ready md ops listed) :
    ∀ (fuel : Nat) (listed : Array Bool) (a : Act) (w : World), Shut md ops listed →
      (∀ j oj, ops[j]? = some oj → j ≠ i → listed.getD j true = false → (∀ e ∈ oj.after, Region.binds md e = true → e.on ≠ i) → oi.apart ops oj = true) →
      i ∈ Region.ready md ops listed → listed.getD m true = false → YieldsIf P ops S oi v a → S w →
      wpAnyM P md ops Q S m fuel (listed.setIfInBounds i true) (a.put oi.dst v) w → wpAnyM P md ops Q S m (fuel + 1) listed a w := by
  intro fuel
  induction fuel with
  | zero =>
    intro listed a w _ _ hr _ hy hS H
    refine ⟨fun h => (by rw [h] at hr; cases hr), fun j hj => ?_⟩
    by_cases hji : j = i
    · subst hji; exact hy.wpOp hi hS ⟨.inr hS, H⟩
    · have := ready_mono hj hji
      rw [H.1] at this
      cases this
  | succ fuel ih =>
    intro listed a w hsh hfree hr hmu hy hS H
    refine ⟨fun h => (by rw [h] at hr; cases hr), fun j hj => ?_⟩
    by_cases hji : j = i
    · subst hji; exact hy.wpOp hi hS ⟨.inr hS, H⟩
    · have h1 := H.2 j (ready_mono hj hji)
      obtain ⟨hjun, oj, hoj, hall⟩ := mem_ready.1 hj
      have iun' : listed.getD i true = false := (mem_ready.1 hr).1
      have iun : listed.getD i false = false := by
        rcases Nat.lt_or_ge i listed.size with h' | h'
        · simp [h'] at iun' ⊢; exact iun'
        · simp [Array.getElem?_eq_none h']
      have hjm : j ≠ m := by rintro rfl; exact hwait listed hsh iun hj
      have him : i ≠ m := by rintro rfl; exact hwait listed hsh iun hr
      have hnot : ∀ e ∈ oj.after, Region.binds md e = true → e.on ≠ i := fun e he hb heq => by
        have h1 := hall e he hb
        rw [heq, iun] at h1
        cases h1
      have h2 := wpOp_putIf hoj (hfree j oj hoj hji hjun hnot) (fun cs b => hsel i oi cs b hi) (fun cs b => hsel j oj cs b hoj) hQ hy h1
      have hfree' : ∀ k ok, ops[k]? = some ok → k ≠ i → (listed.setIfInBounds j true).getD k true = false →
          (∀ e ∈ ok.after, Region.binds md e = true → e.on ≠ i) → oi.apart ops ok = true := fun k ok hk hki hun hno => by
        refine hfree k ok hk hki ?_ hno
        by_cases hjk : j = k
        · subst hjk; exact hjun
        · rw [getD_set_ne true hjk] at hun; exact hun
      have hmj : (listed.setIfInBounds j true).getD m true = false := by rw [getD_set_ne true hjm]; exact hmu
      have hmi : ((listed.setIfInBounds i true).setIfInBounds j true).getD m true = false := by
        rw [getD_set_ne true hjm, getD_set_ne true him]; exact hmu
      refine wpOp_mono (fun a' w' h3 => ?_) h2
      obtain ⟨h4, h5, h6⟩ := h3
      have hS' : S w' := by
        rcases h5 with h5 | h5
        · rw [hmi] at h5; cases h5
        · exact h5
      refine ⟨.inr hS', ih (listed.setIfInBounds j true) a' w' (hsh.ready hj) hfree' (ready_mono hr (Ne.symm hji)) hmj h4 hS' ?_⟩
      rw [Array.setIfInBounds_comm _ _ hji]
      exact h6

/-- Number i is taken first. -/
theorem wpAnyM_takeC {i : Nat} {oi : Oper} {v : Value} {fuel : Nat} {listed : Array Bool} {a : Act} {w : World} (n : Nat) (hi : ops[i]? = some oi)
    (hs : Region.noSelect ops = true) (hf : Region.free md ops listed i = true) (hr : (Region.ready md ops listed).contains i = true) (hwm : awaits md ops n m i = true) (hsh : shutB md ops listed = true) (hm : listed.getD m true = false)
    (hQ : ∀ c a w, Q (.panic c) (a.put oi.dst v) w → Q (.panic c) a w) (hS : S w) (hy : YieldsIf P ops S oi v a)
    (h : wpAnyM P md ops Q S m fuel (listed.setIfInBounds i true) (a.put oi.dst v) w) : wpAnyM P md ops Q S m (fuel + 1) listed a w :=
  wpAnyM_firstC hi (Region.noSelect_spec hs) hQ (fun _ hsh' hun hmr => by
    obtain ⟨_, om, hom, hall⟩ := mem_ready.1 hmr
    have := awaits_spec hsh' n m hwm (fun o ho e he hb => by
      rw [hom] at ho
      obtain rfl : om = o := by injection ho
      exact hall e he hb)
    rw [hun] at this; cases this) fuel listed a w (shutB_spec hsh) (Region.free_spec hi hf) (by simpa using hr) hm hy hS h
end
end Go.Proofs.YtlahobdopmdfmaaDoor
