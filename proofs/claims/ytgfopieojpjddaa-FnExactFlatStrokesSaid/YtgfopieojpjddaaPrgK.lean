/-
  Programs: loopsOf.
-/
import Derived.Test.YtgfopieojpjddaaPrgJ
import Derived.Test.YtgfopieojpjddaaOrdC
import Derived.Laws.Rows
import Derived.Laws.Tables
import Derived.Laws.ResultCell
import Derived.Deep.WholeRow
namespace Go.Proofs.Ytgfopieojpjddaa
open Go.RowKit

theorem lp_info : (Try.prog.info? 46).map (fun i => (i.zero, i.size)) = some (some (.agg (lpC (.slice none 0 0) (fun _ => 0) 0)), 122) := by kernel_rfl
theorem lp_zero : ∀ w, (zeroValue 46).run Try.prog w = .ok (.agg (lpC (.slice none 0 0) (fun _ => 0) 0)) w := (zero_of_info lp_info).1
theorem lp_size : (Try.prog.info? 46).map (·.size) = some 122 := (zero_of_info lp_info).2
theorem lp_under : ∃ fs, Try.prog.underlying 46 = some (.struct fs) := ⟨_, Try.underlying46⟩
section
variable {w : World} {g : Nat} {cs old : Array Value} {t : TypeId}
theorem bx_load (h : Bx w g t cs) (hs : cs.size = 122) : (loadVar 46 ⟨g, 0, none⟩).run Try.prog w = .ok (.agg cs) w := by
  obtain ⟨fs, hf⟩ := lp_under
  exact run_loadVar_row _ _ _ _ cs (0, 0) _ h hf rfl (by rw [hs]; exact lp_size)
theorem bx_loadAt (h : Bx w g t cs) (hs : cs.size = 122) : (Instr.loadAt 46 (.pointer (some ⟨g, 0, none⟩))).run Try.prog w = .ok (.agg cs) w := by
  simp only [Instr.loadAt, Instr.sureAddr, Sem.run_bind, Sem.run_pure, Result.andThen]
  exact bx_load h hs
theorem bx_storeAt (h : Bx w g t old) (ho : old.size = 122) (hs : cs.size = 122) (h1 : cs.all (·.oneCell') = true) : (Instr.storeAt 46 (.pointer (some ⟨g, 0, none⟩)) (.agg cs)).run Try.prog w = .ok () (w.setRow g cs) := by
  simp only [Instr.storeAt, Instr.sureAddr, Sem.run_bind, Sem.run_pure, Result.andThen]
  exact run_storeVar_row _ _ _ _ old cs h (by rw [hs]; exact lp_size) (by omega) h1
theorem bx_storeCells (h : Bx w g t old) (ho : old.size = 122) (hs : cs.size = 122) (h1 : cs.all (·.oneCell') = true) : Sem.run Try.prog (storeCells ⟨g, 0, none⟩ cs.toList) w = .ok () (w.setRow g cs) := by
  have := run_storeVar_row (P := Try.prog) w g t 46 old cs h (by rw [hs]; exact lp_size) (by omega) h1
  cases hq : Try.prog.info? 46 with
  | none => have := lp_size; rw [hq] at this; cases this
  | some i =>
    have hi := lp_size
    rw [hq] at hi
    have hs2 : cs.size = i.size := by simp at hi; omega
    simpa [storeVar, sizeOf, typeInfo, hq, Value.cells, hs2] using this
theorem bx_loadCells (h : Bx w g t cs) (hs : cs.size = 122) : Sem.run Try.prog (loadCellsFrom ⟨g, 0, none⟩ 0 122 #[]) w = .ok cs w := by
  have := run_loadCells_list (P := Try.prog) w ⟨g, 0, none⟩ cs.toList (fun j v hv => by
    have hadd : (⟨g, 0, none⟩ : Addr).add j = ⟨g, j, none⟩ := by unfold Addr.add; split <;> simp_all
    rw [hadd, h.cell]
    simpa using hv)
  simpa [loadCells, hs] using this
theorem bx_setRow (h : Bx w g t old) : Bx (w.setRow g cs) g t cs := by
  unfold Bx at h ⊢
  simp [World.setRow, Array.getElem?_modify, h]
theorem setRow_size : (w.setRow g cs).heap.size = w.heap.size := by simp [World.setRow]
theorem setRow_far {k : Nat} (h : k ≠ g) : (w.setRow g cs).heap[k]? = w.heap[k]? := by
  simp [World.setRow, Array.getElem?_modify, h.symm]
theorem below_setRow {B : Nat} {a : World} (h : Below B a w) (hg : B ≤ g) : Below B a (w.setRow g cs) :=
  ⟨h.os, h.tape, h.output, by rw [setRow_size]; exact h.size, fun k hk => (setRow_far (by omega)).trans (h.block k hk)⟩
end

theorem wpStill_load {P : Program} {ops : Array Oper} {w : World} {Q : Act → Prop} {rest : List Oper} {o : Oper} {a : Act} (hg : o.guard = none) (t : TypeId) (x : Operand) (ho : o.op = Op.load t x) (v : Value) (h : (Instr.loadAt t (a.eval x)).run P w = .ok v w)
    (hk : wpStill P ops w Q rest (a.put o.dst v)) : wpStill P ops w Q (o :: rest) a := by
  unfold wpStill
  rw [if_pos (by simp [Region.wanted, hg])]
  unfold Oper.still
  have e : (execOp a.eval o).run P w = .ok (.value v) w := by simp [execOp, ho, h, Result.andThen]
  rw [e, Oper.stillUpon_value]
  exact hk
theorem exec_load {P : Program} {ρ : Operand → Value} {o : Oper} (t : TypeId) (x : Operand) (ho : o.op = Op.load t x) {v : Value} {w : World} (h : (Instr.loadAt t (ρ x)).run P w = .ok v w) : (execOp ρ o).run P w = .ok (.value v) w := by
  simp [execOp, ho, h, Result.andThen]
theorem results_ct {fn : Func} {a b : Nat} {t : TypeId} {p : Addr} {v : Value} {w : World} {tmps : Array Value} (h : fn.results = #[.cell a t, .tmp b]) (hp : tmps.getD a undef = .pointer (some p)) (hl : (loadVar t p).run Try.prog w = .ok v w) :
    (results fn tmps).run Try.prog w = .ok (.tuple #[v, tmps.getD b undef]) w := by
  rw [results_cell_tmp h, hp]
  simp [asAddr, hl]
/-- What loopsOf tells. -/
def LpV (xs : List (Int × Int)) (cs : Array Value) : Prop :=
  prgB xs = true → (∀ i, i < xs.length → opnB (elt pairF xs i).1 = true → cs[1 + i]? = some (.int .i64 (mtN xs i : Nat))) ∧ cs[121]? = some (.int .i64 (dpF 0 0 xs : Nat))

set_option maxRecDepth 100000 in
set_option maxHeartbeats 8000000 in
theorem loopsOf_any (a : Option Addr) (c : Nat) (xs : List (Int × Int)) (w : World) (ha : RdF pairF w a xs) :
    Calls Try.prog 27 #[.slice a xs.length c] w fun e w' => ∃ cs, e = .returned (.tuple #[.agg cs, .bool (prgB xs)]) ∧ cs.size = 122 ∧ cs.all (·.oneCell') = true ∧ LpV xs cs ∧ Below w.heap.size w w' := by
  have hx := ha.len
  obtain ⟨Z, hZ⟩ : ∃ Z, Z = lpC (.slice none 0 0) (fun _ => 0) 0 := ⟨_, rfl⟩
  have hzv := lp_zero
  rw [← hZ] at hzv
  have hZs : Z.size = 122 := by rw [hZ]; exact lpC_size _ _ _
  have hZ1 : Z.all (·.oneCell') = true := by rw [hZ]; exact lpC_one _ rfl _ _
  have HZ := Lib.hid hZ
  clear hZ
  by_cases hlen : 120 < xs.length
  · have HP := Lib.hid (prgB_long hlen)
    have hl : (120 : Int) < (xs.length : Int) := by omega
    have hd : decide ((xs.length : Int) > 120) = true := decide_eq_true (by omega)
    go_enter Try.func27, Try.ntmps27
    have hst : Sem.run Try.prog (storeCells ⟨w.heap.size, 0, none⟩ Z.toList) (w.alloc (.cells Z 46)) = .ok () (w.alloc (.cells Z 46)) := run_storeCells_new w _ Z Z (by rw [hZs]; exact lp_size) rfl hZ1
    have hld := bx_load (Bx.new w Z 46) hZs
    go_wp2
    refine bodyPost_ret (v := .tuple #[.agg Z, .bool false]) ?_ rfl ⟨Z, ?_, hZs, hZ1, fun h => ?_, (by repeat (first | exact Below.refl _ _ | refine Below.setCell ?_ (by first | omega | (simp <;> omega)) _ | refine Below.alloc ?_ (by first | omega | (simp <;> omega)) _ | refine Below.drew ?_))⟩
    · exact results_ct Try.results27 rfl hld
    · rw [HP.out]
    · rw [HP.out] at h; cases h
  · have hl : ¬ (120 : Int) < (xs.length : Int) := by omega
    have HL := Lib.hid (show xs.length ≤ 120 by omega)
    have hd : decide ((xs.length : Int) > 120) = false := decide_eq_false (by omega)
    go_enter Try.func27, Try.ntmps27
    go_wp2
    obtain ⟨V, hV⟩ : ∃ V, V = (w.alloc (.cells Z 46)).alloc (.cells Z 46) := ⟨_, rfl⟩
    have hbV : Below w.heap.size w V := by rw [hV]; exact (by repeat (first | exact Below.refl _ _ | refine Below.setCell ?_ (by first | omega | (simp <;> omega)) _ | refine Below.alloc ?_ (by first | omega | (simp <;> omega)) _ | refine Below.drew ?_))
    have bR : Bx V w.heap.size 46 Z := by rw [hV]; exact (Bx.new _ _ _).alloc _
    have bL : Bx V (w.heap.size + 1) 46 Z := by rw [hV]; simpa using Bx.new (w.alloc (.cells Z 46)) Z 46
    have hVs : V.heap.size = w.heap.size + 2 := by rw [hV]; simp
    rw [← hV]
    clear hV hl hd
    go_loopw [13] (fun i wr => ∃ (j : Nat) (A : Option Addr) (C : Nat) (st : List Nat) (e : Nat → Nat) (d : Nat), j ≤ xs.length ∧ i = .int .i64 j ∧ st.length ≤ 4 ∧ LpAt (w.heap.size + 2) (w.heap.size + 1) wr A C st e (d : Int) ∧ Bx wr w.heap.size 46 Z ∧ Below w.heap.size w wr ∧ w.heap.size + 2 ≤ wr.heap.size ∧
      Hid (LpInv xs j st e ∧ prgB xs = okF st.length (xs.drop j) ∧ st.length ≤ d ∧ dpF 0 0 xs = dpF st.length d (xs.drop j))) (fun i _ => xs.length - (intOf i).toNat)
    case atStart => exact ⟨0, none, 0, [], fun _ => 0, 0, Nat.zero_le _, rfl, by simp, ⟨by rw [HZ.out] at bL; exact bL, OpnR.nil (by omega) (by omega)⟩, bR, hbV, by omega, Lib.hid ⟨lpInv_start xs _, by rw [prgB_short HL.out]; rfl, by simp, rfl⟩⟩
    case round =>
      obtain ⟨j, A, C, st, e, d, hj, rfl, hs4, hlp, bR', hbw, hsz, HI⟩ := hrel
      clear bR bL hbV
      by_cases hlt : j < xs.length
      · obtain ⟨b, off, rfl, p0, p1⟩ := (ha.below hbw).at2 hlt
        obtain ⟨x, hx'⟩ : ∃ x, x = elt pairF xs j := ⟨_, rfl⟩
        rw [← hx'] at p0 p1
        have HX := Lib.hid hx'
        have HO := Lib.hid (show prgB xs = okF st.length (x :: xs.drop (j + 1)) by rw [HX.out, HI.out.2.1, okF_drop hlt])
        have HD := Lib.hid (show dpF 0 0 xs = dpF st.length d (x :: xs.drop (j + 1)) by rw [HX.out, HI.out.2.2.2, dropE (F := pairF) hlt])
        have HLI := Lib.hid HI.out.1
        have HLe := Lib.hid HI.out.2.2.1
        clear hx' HI
        go_wp2_with fail
        obtain ⟨W1, hW1⟩ : ∃ W1, W1 = wr.alloc (.cells #[.int .i64 x.1, .int .i64 x.2] 41) := ⟨_, rfl⟩
        have hb1 : Below wr.heap.size wr W1 := by rw [hW1]; exact (Below.refl _ _).alloc (Nat.le_refl _) _
        have b1 : Bx W1 wr.heap.size 41 #[.int .i64 x.1, .int .i64 x.2] := by rw [hW1]; exact Bx.new _ _ _
        rw [← hW1]
        clear hW1
        refine (hasForm_any x W1).mono ?_
        rintro e1 W2 ⟨rfl, hb2⟩
        replace b1 := b1.below hb2
        have hb12 := hb1.trans (hb2.mono hb1.size)
        have v0 := b1.at_ 0 rfl
        have v1 := b1.at_ 1 rfl
        have hlp2 := hlp.below hb12
        have bW := bR'.below hb12
        have hbW := hbw.trans (hb12.mono hbw.size)
        have hs12 := hb12.size
        clear hlp bR' hbw hb1 hb2 b1 hb12 p0 p1
        cases hi : insB x with
        | false =>
          have HP := Lib.hid (HO.out.trans (okF_bad hi))
          have hst := bx_storeCells bW hZs hZs hZ1
          clear hi
          go_wp2
          refine bodyPost_ret (v := .tuple #[.agg Z, .bool false]) (results_ct Try.results27 rfl (bx_load (bx_setRow (cs := Z) bW) hZs)) rfl ⟨Z, ?_, hZs, hZ1, fun h => ?_, below_setRow hbW (Nat.le_refl _)⟩
          · rw [HP.out]
          · rw [HP.out] at h; cases h
        | true =>
          by_cases ho : opnB x.1 = true
          · have hne : ¬ x.1 = 10 := by have := opnB_t ho; omega
            by_cases h4 : st.length < 4
            · have HF := Lib.hid (fun (W : World) (hW : LpAt (w.heap.size + 2) (w.heap.size + 1) W A C st e (d : Int)) (hL : w.heap.size + 2 ≤ W.heap.size) => follow_open (w.heap.size + 2) (w.heap.size + 1) j x A C st e (d : Int) W hW hL ho h4)
              have HN := Lib.hid (show prgB xs = okF (st.length + 1) (xs.drop (j + 1)) from HO.out.trans (okF_open hi ho h4))
              have HN2 := Lib.hid (show dpF 0 0 xs = dpF (st.length + 1) (max d (st.length + 1)) (xs.drop (j + 1)) by rw [HD.out, dpF, stepD_open ho])
              have HN3 := Lib.hid (HLI.out.open_ hlt (by rw [← HX.out]; exact ho))
              clear ho hne
              go_wp2_with fail
              refine (HF.out W2 hlp2 (by omega)).mono ?_
              rintro e1 W3 ⟨rfl, ⟨A', C', hlp3⟩, hk⟩
              go_wp2
              go_roundw
              case rel => exact ⟨j + 1, A', C', j :: st, e, max d (st.length + 1), by omega, by go_num, by simp; omega, by rw [show ((max d (st.length + 1) : Nat) : Int) = max (d : Int) ((st.length : Int) + 1) by omega]; exact hlp3, hk.rest _ _ bW (by omega) (fun cur fz h => by injection h with _ h2 _; exact absurd h2 (by decide)), hbW.trans (hk.bel.mono (by omega)), by have := hk.bel.size; omega, Lib.hid ⟨HN3.out, HN.out, by simp; omega, HN2.out⟩⟩
              case measure => (simp [intOf]) <;> omega
            · have HF := Lib.hid (fun (W : World) (hW : LpAt (w.heap.size + 2) (w.heap.size + 1) W A C st e (d : Int)) => follow_deep (w.heap.size + 2) (w.heap.size + 1) j x A C st e (d : Int) W hW ho (by omega))
              have HP := Lib.hid (HO.out.trans (okF_deep ho h4))
              clear ho hne
              go_wp2_with fail
              refine (HF.out W2 hlp2).mono ?_
              rintro e1 W3 ⟨rfl, hb3⟩
              replace bW := bW.below hb3
              replace hbW := hbW.trans (hb3.mono hbW.size)
              have hst := bx_storeCells bW hZs hZs hZ1
              go_wp2
              refine bodyPost_ret (v := .tuple #[.agg Z, .bool false]) (results_ct Try.results27 rfl (bx_load (bx_setRow (cs := Z) bW) hZs)) rfl ⟨Z, ?_, hZs, hZ1, fun h => ?_, below_setRow hbW (Nat.le_refl _)⟩
              · rw [HP.out]
              · rw [HP.out] at h; cases h
          · have ho' : opnB x.1 = false := by simpa using ho
            clear ho
            by_cases he : x.1 = 10
            · obtain ⟨op, n⟩ := x
              simp only at he
              subst he
              simp only at *
              cases st with
              | nil =>
                have HF := Lib.hid (fun (W : World) (hW : LpAt (w.heap.size + 2) (w.heap.size + 1) W A C [] e (d : Int)) => follow_loose (w.heap.size + 2) (w.heap.size + 1) j n A C e (d : Int) W hW)
                have HP := Lib.hid (HO.out.trans (okF_loose rfl))
                go_wp2_with fail
                refine (HF.out W2 hlp2).mono ?_
                rintro e1 W3 ⟨rfl, hb3⟩
                replace bW := bW.below hb3
                replace hbW := hbW.trans (hb3.mono hbW.size)
                have hst := bx_storeCells bW hZs hZs hZ1
                go_wp2
                refine bodyPost_ret (v := .tuple #[.agg Z, .bool false]) (results_ct Try.results27 rfl (bx_load (bx_setRow (cs := Z) bW) hZs)) rfl ⟨Z, ?_, hZs, hZ1, fun h => ?_, below_setRow hbW (Nat.le_refl _)⟩
                · rw [HP.out]
                · rw [HP.out] at h; cases h
              | cons top st =>
                have htop := HLI.out.top rfl
                have hlen2 := HL.out
                have HF := Lib.hid (fun (W : World) (hW : LpAt (w.heap.size + 2) (w.heap.size + 1) W A C (top :: st) e (d : Int)) => follow_end (w.heap.size + 2) (w.heap.size + 1) j top n A C st e (d : Int) W hW (by omega))
                have HN := Lib.hid (show prgB xs = okF st.length (xs.drop (j + 1)) from HO.out.trans (okF_end hi rfl (by simp)))
                have HN2 := Lib.hid (show dpF 0 0 xs = dpF st.length d (xs.drop (j + 1)) by rw [HD.out, dpF_le ho' HLe.out, stepD_end rfl]; rfl)
                have HN3 := Lib.hid (HLI.out.end_ hlt (by rw [← HX.out]))
                go_wp2_with fail
                refine (HF.out W2 hlp2).mono ?_
                rintro e1 W3 ⟨rfl, hlp3, hk⟩
                have hle := HLe.out
                simp only [List.length_cons] at hle hs4
                go_wp2
                go_roundw
                case rel => exact ⟨j + 1, A, C, st, updN e top j, d, by omega, by go_num, by omega, hlp3, hk.rest _ _ bW (by omega) (fun cur fz h => by injection h with _ h2 _; exact absurd h2 (by decide)), hbW.trans (hk.bel.mono (by omega)), by have := hk.bel.size; omega, Lib.hid ⟨HN3.out, HN.out, by omega, HN2.out⟩⟩
                case measure => (simp [intOf]) <;> omega
            · have HF := Lib.hid (fun (W : World) (hW : LpAt (w.heap.size + 2) (w.heap.size + 1) W A C st e (d : Int)) => follow_plain (w.heap.size + 2) (w.heap.size + 1) j x A C st e (d : Int) W hW ho' he)
              have HN := Lib.hid (show prgB xs = okF st.length (xs.drop (j + 1)) from HO.out.trans (okF_plain hi ho' he))
              have HN2 := Lib.hid (show dpF 0 0 xs = dpF st.length d (xs.drop (j + 1)) by rw [HD.out, dpF_le ho' HLe.out, stepD_plain ho' he])
              have HN3 := Lib.hid (HLI.out.plain hlt (by rw [← HX.out]; exact ho') (by rw [← HX.out]; exact he))
              clear ho' he
              go_wp2_with fail
              refine (HF.out W2 hlp2).mono ?_
              rintro e1 W3 ⟨rfl, hb3⟩
              have hs3 := hb3.size
              go_wp2
              go_roundw
              case rel => exact ⟨j + 1, A, C, st, e, d, by omega, by go_num, hs4, hlp2.below hb3, bW.below hb3, hbW.trans (hb3.mono hbW.size), by omega, Lib.hid ⟨HN3.out, HN.out, HLe.out, HN2.out⟩⟩
              case measure => (simp [intOf]) <;> omega
      · obtain rfl : j = xs.length := by omega
        have HO := Lib.hid (show prgB xs = decide (st.length = 0) by rw [HI.out.2.1, List.drop_length, okF_nil])
        have HD := Lib.hid (show dpF 0 0 xs = d by rw [HI.out.2.2.2, List.drop_length, dpF])
        have HLI := Lib.hid HI.out.1
        clear HI
        obtain ⟨cs, hcs⟩ : ∃ cs, cs = lpC (.slice A st.length C) e (d : Int) := ⟨_, rfl⟩
        have bl := hlp.bx
        rw [← hcs] at bl
        have hc0 : cs[0]? = some (.slice A st.length C) := by rw [hcs]; exact lpC_0 _ _ _
        have hcS : cs.size = 122 := by rw [hcs]; exact lpC_size _ _ _
        have hc1 : cs.all (·.oneCell') = true := by rw [hcs]; exact lpC_one _ rfl _ _
        have HC := Lib.hid hcs
        clear hcs hlp
        have c0 := bl.at_ 0 hc0
        go_wp2_with fail
        refine wp_region_marked (fun w2 => Bx w2 (w.heap.size + 1) 46 cs) 6 (by kernel_rfl) ?_
        have hS : Bx wr.drew (w.heap.size + 1) 46 cs := bl.drew
        have k0 : ∀ w2 : World, Bx w2 (w.heap.size + 1) 46 cs → w2.cell? ⟨w.heap.size + 1, 0, none⟩ = some (.slice A st.length C) := fun w2 h => h.at_ 0 hc0
        refine wpAnyM_take (i := 0) (v := .agg cs) rfl (by kernel_rfl) (by kernel_rfl) (by kernel_rfl) (by kernel_rfl) (by kernel_rfl) (fun _ _ _ h => h) hS (.inl ⟨by rfl, ?_⟩) ?_
        · intro w' hS'
          exact exec_load _ _ rfl (bx_loadAt hS' hcS)
        simp only [Act.put, List.setIfInBounds_toArray]
        refine wpAnyM_take (i := 1) (v := ?_) rfl (by kernel_rfl) (by kernel_rfl) (by kernel_rfl) (by kernel_rfl) (by kernel_rfl) (fun _ _ _ h => h) hS (.inl ⟨by rfl, ?_⟩) ?_
        rotate_left 1
        · intro w' hS'; go_simp; try with_reducible rfl
        simp only [Act.put]
        refine wpAnyM_take (i := 2) (v := ?_) rfl (by kernel_rfl) (by kernel_rfl) (by kernel_rfl) (by kernel_rfl) (by kernel_rfl) (fun _ _ _ h => h) hS (.inl ⟨by rfl, ?_⟩) ?_
        rotate_left 1
        · intro w' hS'; go_simp; try with_reducible rfl
        simp only [Act.put]
        refine wpAnyM_take (i := 3) (v := ?_) rfl (by kernel_rfl) (by kernel_rfl) (by kernel_rfl) (by kernel_rfl) (by kernel_rfl) (fun _ _ _ h => h) hS (.inl ⟨by rfl, ?_⟩) ?_
        rotate_left 1
        · intro w' hS'; go_simp; try with_reducible rfl
        simp only [Act.put]
        refine wpAnyM_take (i := 4) (v := ?_) rfl (by kernel_rfl) (by kernel_rfl) (by kernel_rfl) (by kernel_rfl) (by kernel_rfl) (fun _ _ _ h => h) hS (.inl ⟨by rfl, ?_⟩) ?_
        rotate_left 1
        · intro w' hS'; go_simp; try with_reducible rfl
        simp only [Act.put]
        have bD : Bx wr.drew w.heap.size 46 Z := bR'.drew
        have hbD : Below w.heap.size w wr.drew := hbw.drew
        have hst := bx_storeCells bD hZs hcS hc1
        have hS2 : Bx (wr.drew.setRow w.heap.size cs) (w.heap.size + 1) 46 cs := (setRow_far (by omega)).trans hS
        refine wpAnyM_one (i := 5) (by kernel_rfl) rfl (by rfl) (fun K hK => ?_)
        go_simp
        refine hK _ _ (.inr hS2) ?_
        clear hK K
        try simp only [Act.put, List.setIfInBounds_toArray]
        refine wpAnyM_one (i := 6) (by kernel_rfl) rfl (by rfl) (fun K hK => ?_)
        go_simp
        refine hK _ _ (.inl rfl) ?_
        clear hK K
        refine wpAnyM_done (by kernel_rfl) ?_ _
        try simp only [Act.put, List.setIfInBounds_toArray]
        go_wp2
        have hb0 : ((st.length : Int) == 0) = prgB xs := by rw [HO.out]; by_cases h0 : st.length = 0 <;> simp [h0]
        refine bodyPost_ret (v := .tuple #[.agg cs, .bool ((st.length : Int) == 0)]) (results_ct Try.results27 rfl (bx_load (bx_setRow (cs := cs) bD) hcS)) rfl ⟨cs, ?_, hcS, hc1, fun h => ⟨fun i hi hop => ?_, ?_⟩, below_setRow hbD (Nat.le_refl _)⟩
        · rw [hb0]
        · have h0 : st.length = 0 := by rw [HO.out] at h; simpa using h
          have h0' := List.eq_nil_of_length_eq_zero h0
          have hli := HLI.out
          rw [h0'] at hli
          rw [HC.out, lpC_e _ _ _ (by have := HL.out; omega), hli.done hi hop]
        · rw [HC.out, lpC_d, HD.out]
end Go.Proofs.Ytgfopieojpjddaa
