/-
  strings.Builder: copyCheck, WriteString, WriteByte, WriteRune at ASCII; String by the kit's contract.
-/
import Derived.Test.YtgfopieojpjddaaDoorProg
import Derived.Test.YtgfopieojpjddaaDoorByteF
import Derived.Test.YtgfopieojpjddaaDoorShBld
import Derived.Lib.AppendStr
import Derived.Laws.BitsLemmas
namespace Go.Proofs.YtgfopieojpjddaaDoor
open Go.RowKit

/-- A builder in the box b that holds these bytes; its row lies at L or behind it. -/
def Bld (L : Nat) (w : World) (b : Nat) (xs : List UInt8) : Prop := ∃ p A C, (p = none ∨ p = some ⟨b, 0, none⟩) ∧ Bx w b 116 #[.pointer p, .slice A xs.length C] ∧ GrowF byteF 5 L w A C xs
theorem bld_new {L : Nat} {w : World} {b : Nat} (h : Bx w b 116 #[.pointer none, .slice none 0 0]) : Bld L w b [] := ⟨none, none, 0, .inl rfl, h, growF_nil _ _ _ _⟩
theorem Bld.same {L : Nat} {w w' : World} {b : Nat} {xs : List UInt8} (h : Bld L w b xs) (hs : ∀ (k : Nat) (o : Obj), k = b ∨ L ≤ k → w.heap[k]? = some o → o.isCells = true → w'.heap[k]? = w.heap[k]?) : Bld L w' b xs := by
  obtain ⟨p, A, C, h1, h2, h3⟩ := h
  exact ⟨p, A, C, h1, (hs b _ (.inl rfl) h2 rfl).trans h2, h3.same fun k o hk => hs k o (.inr hk)⟩
theorem Bld.lt {L : Nat} {w : World} {b : Nat} {xs : List UInt8} (h : Bld L w b xs) : b < w.heap.size := by
  obtain ⟨_, _, _, _, h2, _⟩ := h
  exact h2.lt
theorem Bld.below {L : Nat} {w w' : World} {b : Nat} {xs : List UInt8} (h : Bld L w b xs) (hb : Below w.heap.size w w') : Bld L w' b xs := h.same fun k _ _ h1 _ => hb.block k (Array.getElem?_eq_some_iff.1 h1).1
/-- Outside the box b, below L nothing has turned, and nothing that is no row of bytes. -/
structure BTouch (b L : Nat) (w w' : World) : Prop where
  os : w'.os = w.os
  tape : w'.tape = w.tape
  output : w'.output = w.output
  size : w.heap.size ≤ w'.heap.size
  block : ∀ k, k < L → k ≠ b → w'.heap[k]? = w.heap[k]?
  others : ∀ (k : Nat) (o : Obj), k ≠ b → w.heap[k]? = some o → (∀ cur fz, o ≠ .cells cur 5 fz) → w'.heap[k]? = some o
theorem BTouch.refl (b L : Nat) (w : World) : BTouch b L w w := ⟨rfl, rfl, rfl, Nat.le_refl _, fun _ _ _ => rfl, fun _ _ _ h _ => h⟩
theorem BTouch.trans {b L : Nat} {u v w : World} (h : BTouch b L u v) (k : BTouch b L v w) : BTouch b L u w :=
  ⟨k.os.trans h.os, k.tape.trans h.tape, k.output.trans h.output, Nat.le_trans h.size k.size, fun i h1 h2 => (k.block i h1 h2).trans (h.block i h1 h2), fun i o h1 h2 h3 => k.others i o h1 (h.others i o h1 h2 h3) h3⟩
theorem BTouch.setCell {b L : Nat} {u w : World} (h : BTouch b L u w) (o : Nat) (v : Value) : BTouch b L u (w.setCell ⟨b, o, none⟩ v) :=
  ⟨h.os, h.tape, h.output, by simpa using h.size, fun k h1 h2 => (Below.heap_setCell _ _ _ _ h2).trans (h.block k h1 h2), fun k o h1 h2 h3 => (Below.heap_setCell _ _ _ _ h1).trans (h.others k o h1 h2 h3)⟩
theorem BTouch.of_grows {b L : Nat} {w w' : World} (h : Grows 5 L w w') : BTouch b L w w' := ⟨h.1.os, h.1.tape, h.1.output, h.1.size, fun k h1 _ => h.1.block k h1, fun k o _ h2 h3 => h.2 k o h2 h3⟩
theorem BTouch.alloc {b L : Nat} {u w : World} (h : BTouch b L u w) (hL : L ≤ w.heap.size) (o : Obj) : BTouch b L u (w.alloc o) :=
  ⟨h.os, h.tape, h.output, by have := h.size; simp; omega, fun k h1 h2 => (Below.heap_alloc _ _ _ (by omega)).trans (h.block k h1 h2), fun k o' h1 h2 h3 => by
    have h4 := h.others k o' h1 h2 h3
    exact (Below.heap_alloc _ _ _ (Array.getElem?_eq_some_iff.1 h4).1).trans h4⟩
theorem BTouch.below {b L B : Nat} {w w' : World} (h : BTouch b L w w') (h1 : B ≤ L) (h2 : B ≤ b) (_ : B ≤ w.heap.size) : Below B w w' :=
  ⟨h.os, h.tape, h.output, h.size, fun k hk => h.block k (by omega) (by omega)⟩

set_option maxRecDepth 100000 in
set_option maxHeartbeats 2000000 in
theorem copyCheck_fresh (b : Nat) (v : Value) (w : World) (h : Bx w b 116 #[.pointer none, v]) :
    Calls Tryd.prog 133 #[.pointer (some ⟨b, 0, none⟩)] w fun e w' => e = .returned (.tuple #[]) ∧ w' = w.setCell ⟨b, 0, none⟩ (.pointer (some ⟨b, 0, none⟩)) := by
  obtain ⟨j, hj, hjs⟩ := Option.map_eq_some_iff.1 Tryd.Builder_Extra_169.sizeBuilder
  have h0 := h.at_ 0 rfl
  have hfz := h.thaw 0
  have hsh : w.shape? b = some (116, 2) := by
    have hb : w.heap[b]? = some (.cells #[.pointer none, v] 116 (0, 0)) := h
    simp [World.shape?, hb]
  go_enter Tryd.func133, Tryd.ntmps133
  go_wp2
  rw [Lib.run_to_unsafe w ⟨b, 0, none⟩ Tryd.underlying114 Tryd.underlying187 hj (by rw [hjs]; decide) hsh (Nat.zero_lt_succ 1)]
  simp only [Result.andThen]
  rw [Oper.upon_value]
  go_wp2
  rw [run_callFunc_extern Tryd.func156 (by kernel_rfl) (by kernel_rfl) (by kernel_rfl) (e := Extern.AbiNoEscape.same) (by kernel_rfl)]
  rw [Lib.run_noEscape]
  simp only [Result.andThen]
  rw [Oper.upon_value]
  go_wp2
  rw [Lib.run_from_unsafe w ⟨b, 0, none⟩ Tryd.underlying187 Tryd.underlying114 hj hsh Tryd.Builder_Extra_169.liesBuilder]
  simp only [Result.andThen]
  rw [Oper.upon_value]
  go_wp2
  go_end0
  exact ⟨rfl, rfl⟩

set_option maxRecDepth 100000 in
set_option maxHeartbeats 2000000 in
theorem copyCheck_used (b : Nat) (v : Value) (w : World) (h : Bx w b 116 #[.pointer (some ⟨b, 0, none⟩), v]) :
    Calls Tryd.prog 133 #[.pointer (some ⟨b, 0, none⟩)] w fun e w' => e = .returned (.tuple #[]) ∧ w' = w := by
  have h0 := h.at_ 0 rfl
  obtain ⟨j, hj, _⟩ := Option.map_eq_some_iff.1 Tryd.Builder_Extra_169.sizeBuilder
  go_enter Tryd.func133, Tryd.ntmps133
  go_wp2
  rw [Lib.run_neq_ptr_same w _ Tryd.underlying114 hj]
  go_wp2
  go_end0
  exact ⟨rfl, rfl⟩
theorem copyCheck_any {L b : Nat} {xs : List UInt8} {w : World} (h : Bld L w b xs) (hb : b < L) :
    Calls Tryd.prog 133 #[.pointer (some ⟨b, 0, none⟩)] w fun e w' => e = .returned (.tuple #[]) ∧ (∃ A C, Bx w' b 116 #[.pointer (some ⟨b, 0, none⟩), .slice A xs.length C] ∧ GrowF byteF 5 L w' A C xs) ∧ BTouch b L w w' := by
  obtain ⟨p, A, C, hp, bx, gr⟩ := h
  rcases hp with rfl | rfl
  · refine (copyCheck_fresh b _ w bx).mono ?_
    rintro e w' ⟨rfl, rfl⟩
    exact ⟨rfl, ⟨A, C, by simpa using bx.set_ 0 (.pointer (some ⟨b, 0, none⟩)), gr.same fun k o h1 _ _ => Below.heap_setCell _ _ _ _ (by simp; omega)⟩, (BTouch.refl _ _ _).setCell 0 _⟩
  · refine (copyCheck_used b _ w bx).mono ?_
    rintro e w' ⟨rfl, rfl⟩
    exact ⟨rfl, ⟨A, C, bx, gr⟩, BTouch.refl _ _ _⟩

theorem flat_str (s : ByteArray) : flat byteF s.data.toList = Lib.strCells s := by
  rw [flat_byte]; rfl
theorem run_appGrowStr {P : Program} {w : World} (t u e ty : TypeId) (ht : P.underlying t = some (.slice e)) (hu : P.underlying u = some .string) (hinfo : (P.info? e).map (fun i => (i.zero, i.size, i.bytes)) = some (some (.int .u8 0), 1, 1))
    {L : Nat} {A : Option Addr} {C : Nat} {xs : List UInt8} (hg : GrowF byteF e L w A C xs) (hL : L ≤ w.heap.size) (s : ByteArray) (hn : xs.length + s.size ≤ 1000000000) :
    ∃ A' C' w', (Builtin.append_ #[t, u] ty #[.slice A xs.length C, .string s]).run P w = .ok (.slice A' (xs.length + s.size) C') w' ∧ GrowF byteF e L w' A' C' (xs ++ s.data.toList) ∧ Grows e L w w' := by
  obtain ⟨i, hi1, hi2, hi3, hi4⟩ := info_parts hinfo
  obtain ⟨l1, h1, hl1, hh1, hlw, row, hcells⟩ := hg.row hL
  obtain ⟨v', w', hrun, r1, r2, r3⟩ := Lib.run_append_own_string (P := P) (w := w) l1 t u ty e i ht hu hi1 hi2 hi3 hi4 _ xs.length (flat byteF xs) row.row s (by unfold maxLen; omega) (by omega) hlw
  have hform : ∃ A' C', v' = .slice A' (xs.length + s.size) C' := by
    rcases r1.2 with ⟨h0, h0'⟩ | ⟨g, cap, cur, hv, _⟩
    · exact ⟨none, 0, by rw [h0, h0']⟩
    · exact ⟨_, _, hv⟩
  obtain ⟨A', C', rfl⟩ := hform
  have hsz : s.data.toList.length = s.size := by rw [Array.length_toList]; rfl
  have ow : OwnF byteF e w' l1 w'.heap.size (.slice A' (xs.length + s.size) C') (xs ++ s.data.toList) := ownF_row (n := xs.length + s.size) ⟨by rw [flat_append, flat_str]; exact r1, fun k hk => (r1.lt k hk).2⟩ (by simp [hsz]) (by simp [hsz]; omega)
  have hblk : ∀ k, k < w.heap.size → k < l1 ∨ h1 ≤ k → w'.heap[k]? = w.heap[k]? := fun k hk ho => r2.block k hk (by
    intro he
    have := row.lo_le he.symm
    omega)
  refine ⟨A', C', w', hrun, ?_, ⟨r2.os, r2.tape, r2.output, by have := r2.size; omega, fun k hk => hblk k (by omega) (.inl (by omega))⟩, fun k o hk hc => ?_⟩
  · rcases ow.narrowF with ⟨e1, e2, _, e3⟩ | ⟨g', rfl, q1, _, nar'⟩
    · exact .inl ⟨e1, e2, e3⟩
    · refine .inr ⟨g', rfl, by omega, ?_⟩
      rw [List.length_append, hsz]
      exact nar'
  · refine (hblk k (Array.getElem?_eq_some_iff.1 hk).1 ?_).trans hk
    rcases Nat.lt_or_ge k l1 with q | q
    · exact .inl q
    · rcases Nat.lt_or_ge k h1 with q2 | q2
      · obtain ⟨cur, hcur⟩ := hcells k q q2
        rw [hcur] at hk
        injection hk with hk
        exact absurd hk.symm (hc _ _)
      · exact .inr q2
theorem wpList_appGrowStr {P : Program} {ops : Array Oper} {rest : List Oper} {o : Oper} {a : Act} {Q : Exit → Act → World → Prop} {w : World} (hgd : o.guard = none) (x y : Operand) (t u e : TypeId) (ho : o.op = .call { callee := .builtin .append, args := #[x, y], argTypes := #[t, u] })
    (ht : P.underlying t = some (.slice e)) (hu : P.underlying u = some .string) (hinfo : (P.info? e).map (fun i => (i.zero, i.size, i.bytes)) = some (some (.int .u8 0), 1, 1))
    {L : Nat} {A : Option Addr} {C : Nat} {xs : List UInt8} (hx : a.eval x = .slice A xs.length C) (hg : GrowF byteF e L w A C xs) (hL : L ≤ w.heap.size) (s : ByteArray) (hy : a.eval y = .string s) (hn : xs.length + s.size ≤ 1000000000)
    (h : ∀ A' C' w', GrowF byteF e L w' A' C' (xs ++ s.data.toList) → Grows e L w w' → wpList P ops Q rest (a.put o.dst (.slice A' (xs.length + s.size) C')) w') : wpList P ops Q (o :: rest) a w := by
  refine wpList_plain hgd fun K hK => ?_
  obtain ⟨A', C', w', hrun, r1, r2⟩ := run_appGrowStr t u e o.type ht hu hinfo hg hL s hn
  unfold Oper.wp
  simp [execOp, ho, resolve, invoke, builtin, hx, hy, hrun, Result.andThen]
  exact hK _ _ (h A' C' w' r1 r2)

set_option maxRecDepth 100000 in
set_option maxHeartbeats 2000000 in
theorem writeString_any {L b : Nat} {xs : List UInt8} (s : ByteArray) (w : World) (h : Bld L w b xs) (hb : b < L) (hL : L ≤ w.heap.size) (hn : xs.length + s.size ≤ 1000000000) :
    Calls Tryd.prog 90 #[.pointer (some ⟨b, 0, none⟩), .string s] w fun e w' => e = .returned (.tuple #[.int .i64 (s.size : Nat), .nilIface]) ∧ Bld L w' b (xs ++ s.data.toList) ∧ BTouch b L w w' := by
  go_enter Tryd.func90, Tryd.ntmps90
  go_wp2_with fail
  refine (copyCheck_any h hb).mono ?_
  rintro e w1 ⟨rfl, ⟨A, C, bx, gr⟩, ht⟩
  have c1 := bx.at_ 1 rfl
  have hz := ht.size
  have hsz : s.data.toList.length = s.size := by rw [Array.length_toList]; rfl
  go_wp2_with (at_builtin; go_must (refine wpList_appGrowStr rfl (.tmp 12) (.tmp 13) 57 9 5 rfl Tryd.underlying57 Tryd.underlying9 info_byte rfl gr (by omega) s rfl hn ?_); intro A' C' w2 gr2 hg2; have bx2 := bx.lo hg2.1 hb; have c1' := bx2.at_ 1 rfl; have f1' := bx2.thaw 1)
  go_ret2
  refine ⟨rfl, ⟨some ⟨b, 0, none⟩, A', C', .inr rfl, ?_, gr2.same fun k o h1 _ _ => Below.heap_setCell _ _ _ _ (by simp; omega)⟩, (ht.trans (BTouch.of_grows hg2)).setCell 1 _⟩
  rw [List.length_append, hsz]
  simpa using bx2.set_ 1 (.slice A' (xs.length + s.size) C')
theorem grows_alloc {e : TypeId} {L : Nat} {w w' : World} {o : Obj} (hL : L ≤ w.heap.size) (h : Grows e L (w.alloc o) w') : Grows e L w w' :=
  ⟨((Below.refl _ _).alloc hL o).trans h.1, fun k o' h1 h2 => h.2 k o' ((Below.heap_alloc w o k (Array.getElem?_eq_some_iff.1 h1).1).trans h1) h2⟩
theorem own_one (w : World) (c : UInt8) : OwnF byteF 5 (w.alloc (.cells #[.int .u8 (c.toNat : Int)] 5)) w.heap.size (w.heap.size + 1) (.slice (some ⟨w.heap.size, 0, none⟩) 1 1) [c] :=
  ownF_row (n := 1) (row_new 5 1 w #[.int .u8 (c.toNat : Int)] 1 (by simp) (by omega)) rfl (by simp)

set_option maxRecDepth 100000 in
set_option maxHeartbeats 2000000 in
theorem writeByte_any {L b : Nat} {xs : List UInt8} (c : UInt8) (z : Int) (hz : z = (c.toNat : Int)) (w : World) (h : Bld L w b xs) (hb : b < L) (hL : L ≤ w.heap.size) (hn : xs.length + 1 ≤ 1000000000) :
    Calls Tryd.prog 91 #[.pointer (some ⟨b, 0, none⟩), .int .u8 z] w fun e w' => e = .returned .nilIface ∧ Bld L w' b (xs ++ [c]) ∧ BTouch b L w w' := by
  subst hz
  go_enter Tryd.func91, Tryd.ntmps91
  go_wp2_with fail
  refine (copyCheck_any h hb).mono ?_
  rintro e w1 ⟨rfl, ⟨A, C, bx, gr⟩, ht⟩
  have c1 := bx.at_ 1 rfl
  have hz := ht.size
  have gr1 := gr.same (w' := w1.alloc (.cells #[.int .u8 (c.toNat : Int)] 5)) fun k o h1 h2 _ => Below.heap_alloc _ _ _ (Array.getElem?_eq_some_iff.1 h2).1
  go_wp2_with (at_builtin; go_must (refine wpList_appGrow byteF rfl (.tmp 11) (.tmp 13) 57 5 rfl (.int .u8 0) 1 Tryd.underlying57 info_byte rfl (by omega) rfl gr1 (by simp; omega) rfl (own_one w1 c) (by omega) ?_); intro A' C' w2 gr2 hg2; have bx2 := (bx.alloc (.cells #[.int .u8 (c.toNat : Int)] 5)).lo hg2.1 hb; have c1' := bx2.at_ 1 rfl; have f1' := bx2.thaw 1)
  go_ret
  refine ⟨rfl, ⟨some ⟨b, 0, none⟩, A', C', .inr rfl, ?_, gr2.same fun k o h1 _ _ => Below.heap_setCell _ _ _ _ (by simp; omega)⟩, ((ht.alloc (by omega) _).trans (BTouch.of_grows hg2)).setCell 1 _⟩
  rw [List.length_append]
  simpa using bx2.set_ 1 (.slice A' (xs.length + 1) C')

set_option maxRecDepth 100000 in
set_option maxHeartbeats 2000000 in
theorem appendRune_any {L : Nat} {A : Option Addr} {C : Nat} {xs : List UInt8} (c : UInt8) (z : Int) (hz : z = (c.toNat : Int)) (hc : z ≤ 127) (w : World) (gr : GrowF byteF 5 L w A C xs) (hL : L ≤ w.heap.size) (hn : xs.length + 1 ≤ 1000000000) :
    Calls Tryd.prog 135 #[.slice A xs.length C, .int .i32 z] w fun e w' => ∃ A' C', e = .returned (.slice A' (xs.length + 1) C') ∧ GrowF byteF 5 L w' A' C' (xs ++ [c]) ∧ Grows 5 L w w' := by
  subst hz
  have h0 : (0 : Int) ≤ (c.toNat : Int) := by omega
  have hw1 : IntKind.u32.wrap (c.toNat : Int) = (c.toNat : Int) := by rw [IntKind.wrap_u32]; omega
  have hw2 : IntKind.u8.wrap (c.toNat : Int) = (c.toNat : Int) := by rw [IntKind.wrap_u8]; omega
  have gr1 := gr.same (w' := w.alloc (.cells #[.int .u8 (c.toNat : Int)] 5)) fun k o h1 h2 _ => Below.heap_alloc _ _ _ (Array.getElem?_eq_some_iff.1 h2).1
  go_enter Tryd.func135, Tryd.ntmps135
  go_wp2_with (at_builtin; go_must (refine wpList_appGrow byteF rfl (.tmp 8) (.tmp 11) 57 5 rfl (.int .u8 0) 1 Tryd.underlying57 info_byte rfl (by omega) rfl gr1 (by simp; omega) rfl (own_one w c) (by omega) ?_); intro A' C' w2 gr2 hg2)
  go_ret
  exact ⟨A', C', rfl, gr2, grows_alloc hL hg2⟩

set_option maxRecDepth 100000 in
set_option maxHeartbeats 2000000 in
theorem writeRune_any {L b : Nat} {xs : List UInt8} (c : UInt8) (z : Int) (hz : z = (c.toNat : Int)) (hc : z ≤ 127) (w : World) (h : Bld L w b xs) (hb : b < L) (hL : L ≤ w.heap.size) (hn : xs.length + 1 ≤ 1000000000) :
    Calls Tryd.prog 93 #[.pointer (some ⟨b, 0, none⟩), .int .i32 z] w fun e w' => e = .returned (.tuple #[.int .i64 1, .nilIface]) ∧ Bld L w' b (xs ++ [c]) ∧ BTouch b L w w' := by
  subst hz
  go_enter Tryd.func93, Tryd.ntmps93
  go_wp2_with fail
  refine (copyCheck_any h hb).mono ?_
  rintro e w1 ⟨rfl, ⟨A, C, bx, gr⟩, ht⟩
  have c1 := bx.at_ 1 rfl
  have hz1 := ht.size
  go_wp2_with fail
  refine (appendRune_any c _ rfl hc w1 gr (by omega) hn).mono ?_
  rintro e w2 ⟨A', C', rfl, gr2, hg2⟩
  have bx2 := bx.lo hg2.1 hb
  have c1' := bx2.at_ 1 rfl
  have f1' := bx2.thaw 1
  have hw : IntKind.i64.wrap (((xs.length : Nat) : Int) + 1 - (xs.length : Nat)) = 1 := by rw [show ((xs.length : Nat) : Int) + 1 - (xs.length : Nat) = 1 by omega]; exact IntWalk.i64_in 1 (by omega)
  clear c1
  go_wp2
  go_ret2
  refine ⟨?_, ⟨some ⟨b, 0, none⟩, A', C', .inr rfl, ?_, gr2.same fun k o h1 _ _ => Below.heap_setCell _ _ _ _ (by simp; omega)⟩, (ht.trans (BTouch.of_grows hg2)).setCell 1 _⟩
  · congr 3
  · rw [List.length_append]
    simpa using bx2.set_ 1 (.slice A' (xs.length + 1) C')

/-- String(): the bytes. -/
theorem string_any {L b : Nat} {xs : List UInt8} (w : World) (h : Bld L w b xs) (hb : b < L) (hL : L ≤ w.heap.size) :
    Calls Tryd.prog 95 #[.pointer (some ⟨b, 0, none⟩)] w fun e w' => e = .returned (.string ⟨xs.toArray⟩) ∧ Below b w w' ∧ ∀ (k : Nat) (o : Obj), k ≠ b → w.heap[k]? = some o → (∀ cur fz, o ≠ .cells cur 5 fz) → w'.heap[k]? = some o := by
  obtain ⟨p, A, C, hp, bx, gr⟩ := h
  have hrow : w.ownsRow b 5 1 (.slice A xs.length C) xs.length (flat byteF xs) := ((gr.own hL).wide (lo' := b) (by omega) (Nat.le_refl _)).row.row
  have hne : (Value.slice A xs.length C).ownBlock ≠ some b := by
    intro e
    have := (gr.own hL).lo_le e
    omega
  have hat : ∀ q, Bx w b 116 #[q, .slice A xs.length C] → Lib.BuilderAtF 116 5 b b q (Lib.byteCells xs) w := fun q hq => by
    refine ⟨Nat.le_refl _, _, hq, ?_, hne⟩
    have hf : Lib.byteCells xs = flat byteF xs := by rw [flat_byte]; rfl
    rw [hf, show (flat byteF xs).length = xs.length by rw [flat_len]; exact Nat.mul_one _]
    exact World.ownsRowF_of hrow
  have hI : Lib.IsBuilderF 116 5 b b (Lib.byteCells xs) w := by
    rcases hp with rfl | rfl
    · exact .inl (hat _ bx)
    · exact .inr (hat _ bx)
  refine (Tryd.Builder_String_any_k b b xs w hI (by omega)).mono ?_
  rintro e w' ⟨he, _, hb', hk⟩
  exact ⟨he, hb', fun k o h1 h2 h3 => hk k o h2 (fun e => h1 (Option.some.inj e)) h3⟩
end Go.Proofs.YtgfopieojpjddaaDoor
