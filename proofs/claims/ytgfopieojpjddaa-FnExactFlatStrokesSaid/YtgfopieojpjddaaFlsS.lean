/-
  FlatStrokes, in the model.
-/
import Derived.Test.YtgfopieojpjddaaPrgS
import Derived.Test.YtgfopieojpjddaaPrdS
import Derived.Test.YtgfopieojpjddaaPfoM
import Derived.Test.YtgfopieojpjddaaApp
import Derived.Test.YtgfopieojpjddaaAppB
namespace Go.Proofs.Ytgfopieojpjddaa
open Go.RowKit

theorem info_i64s : (Try.prog.info? 2).map (fun i => (i.zero, i.size, i.bytes)) = some (some (.int .i64 0), 1, 8) := by kernel_rfl
/-- What flat strokes of a forest leave: they, or nothing if they are too many. -/
def FlatPost (f : Fo) (w : World) (e : Ending) (w' : World) : Prop :=
  Below w.heap.size w w' ∧ if (flS f).length ≤ 3000 then ∃ A C, e = .returned (.tuple #[.slice A (flS f).length C, .bool true]) ∧ Own 2 w' w.heap.size w'.heap.size (.slice A (flS f).length C) (flS f)
    else e = .returned (.tuple #[.slice none 0 0, .bool false])
theorem flatPost_bad {f : Fo} {w w' : World} (h : ¬ (flS f).length ≤ 3000) (hb : Below w.heap.size w w') : FlatPost f w (.returned (.tuple #[.slice none 0 0, .bool false])) w' := ⟨hb, by rw [if_neg h]⟩
theorem repL_add (l : List Int) (k n : Nat) (h : k ≤ n) : ∃ m, repL n l = repL k l ++ m := by
  induction n with
  | zero =>
    obtain rfl : k = 0 := by omega
    exact ⟨[], by simp⟩
  | succ n ih =>
    by_cases h1 : k = n + 1
    · subst h1; exact ⟨[], by simp⟩
    · obtain ⟨m, hm⟩ := ih (by omega)
      exact ⟨m ++ l, by rw [repL_snoc, hm, List.append_assoc]⟩
/-- The strokes of the first instruction. -/
def headS (op _ : Int) (k : Fo) : List Int := if op = 8 then flS k else [op - 1]
theorem flS_cons {op arg : Int} {k r : Fo} (h : op = 8 → 1 ≤ arg) : flS (.cons op arg k r) = repL (max 1 arg).toNat (headS op arg k) ++ flS r := by
  rw [flS, headS]
  by_cases h8 : op = 8
  · rw [if_pos h8, if_pos h8, show (max 1 arg).toNat = arg.toNat by have := h h8; omega]
  · rw [if_neg h8, if_neg h8, show (max 1 arg) = max arg 1 by omega]
theorem news_int {w : World} {A : Addr} {zs : List Int} (h : Rd w (some A) zs) : ∀ i u, (zs.map (Value.int .i64))[i]? = some u → w.cell? (A.add i) = some u := by
  intro i u hu
  have hi : i < zs.length := by have := (List.getElem?_eq_some_iff.1 hu).1; simpa using this
  obtain ⟨b, off, e, hc⟩ := h.at_ hi
  injection e with e
  subst e
  rw [List.getElem?_map, List.getElem?_eq_getElem hi] at hu
  simp only [Option.map_some, Option.some.injEq] at hu
  subst hu
  rw [nth_get hi] at hc
  have ea : (⟨b, off, none⟩ : Addr).add i = ⟨b, off + i, none⟩ := by
    by_cases h0 : i = 0
    · subst h0; rfl
    · simp [Addr.add, h0]
  rw [ea]; exact hc

theorem rd_touch {w w' : World} {b lo hi : Nat} {zs : List Int} (h : Rd w (some ⟨b, 0, none⟩) zs) (ht : Touch lo hi w w') (hd : b < lo ∨ hi ≤ b) : Rd w' (some ⟨b, 0, none⟩) zs := by
  refine ⟨h.len, fun hne => ?_⟩
  obtain ⟨b', off, e, hc⟩ := h.cells hne
  injection e with e
  injection e with e1 e2
  subst e1 e2
  exact ⟨_, _, rfl, fun i hi => keptT ht (hc i hi) hd⟩
theorem rd_one {w : World} {g : Nat} {z : Int} (h : w.cell? ⟨g, 0, none⟩ = some (.int .i64 z)) : Rd w (some ⟨g, 0, none⟩) [z] :=
  ⟨by simp, fun _ => ⟨g, 0, rfl, fun i hi => by
    have : i = 0 := by simpa using hi
    subst this
    simpa [nth] using h⟩⟩
/-- What an append of a body takes: it can be read, and lies apart from block lo. -/
structure Body (w : World) (lo : Nat) (B : Option Addr) (D : Nat) (zs : List Int) : Prop where
  nn : B = none → D = 0 ∧ zs = []
  blk : ∀ b, B = some b → b.off = 0 ∧ b.spot = none ∧ b.block ≠ lo ∧ b.block < w.heap.size
  rd : Rd w B zs
theorem Body.below {w w' : World} {lo D : Nat} {B : Option Addr} {zs : List Int} (h : Body w lo B D zs) (hb : Below w.heap.size w w') : Body w' lo B D zs :=
  ⟨h.nn, fun b e => by
    obtain ⟨q1, q2, q3, q4⟩ := h.blk b e
    have := hb.size
    exact ⟨q1, q2, q3, by omega⟩, h.rd.below hb⟩
theorem PF.step {xs : List (Int × Int)} {j e : Nat} {g : Fo} (h : PF xs j e g) (hj : j < e) :
    (∃ r, g = .cons (elt pairF xs j).1 (elt pairF xs j).2 .nil r ∧ j < xs.length ∧ opnB (elt pairF xs j).1 = false ∧ ¬ (elt pairF xs j).1 = 10 ∧ PF xs (j + 1) e r) ∨
    (∃ t k r, g = .cons (elt pairF xs j).1 (elt pairF xs j).2 k r ∧ j < xs.length ∧ opnB (elt pairF xs j).1 = true ∧ mtN xs j = t ∧ t < xs.length ∧ (elt pairF xs t).1 = 10 ∧ PF xs (j + 1) t k ∧ PF xs (t + 1) e r) := by
  cases h with
  | nil => omega
  | leaf ha ho hx hr => exact .inl ⟨_, rfl, ha, ho, hx, hr⟩
  | loop ha ho ht htl hx hk hr => exact .inr ⟨_, _, _, rfl, ha, ho, ht, htl, hx, hk, hr⟩
theorem PF.done {xs : List (Int × Int)} {e : Nat} {g : Fo} (h : PF xs e e g) : g = .nil := by
  cases h with
  | nil => rfl
  | leaf ha ho hx hr => have := hr.le; omega
  | loop ha ho ht htl hx hk hr => have := hr.le; have := hk.le; omega
theorem blk_own {w : World} {lo C : Nat} {A : Option Addr} {zs : List Int} {L : Nat} (h : Blk 2 1 w lo (.slice A zs.length C) zs.length (zs.map (Value.int .i64))) (hL : L ≤ lo) (hl : zs.length ≤ 1000000000) : Own 2 w L w.heap.size (.slice A zs.length C) zs :=
  own_of_row (h.wide hL) rfl hl

set_option maxRecDepth 100000 in
set_option maxHeartbeats 16000000 in
theorem l11Flat_any (xs : List (Int × Int)) (hp : prgB xs = true) (hf : flatB xs = true) : ∀ (n : Nat) (f : Fo) (s e : Nat) (a : Option Addr) (c : Nat) (w : World), f.size < n → PF xs s e f → e ≤ xs.length → RdF pairF w a xs →
    Calls Try.prog 36 #[.slice a xs.length c, .int .i64 (s : Int), .int .i64 (e : Int)] w (FlatPost f w) := by
  intro n
  induction n with
  | zero => intro f s e a c w hn; omega
  | succ n ih =>
    intro f s e a c w hn hpf he ha
    have hx := ha.len
    have row0 := row_new 2 1 w #[] 0 rfl (by omega)
    have HIH := Lib.hid ih
    have hx120 := prgB_len hp
    have HP := Lib.hid hp
    have HFl := Lib.hid hf
    clear ih hp hf
    go_enter Try.func36, Try.ntmps36
    go_wp2
    go_loopw [8, 9] (fun q i wr => ∃ (j : Nat) (g : Fo) (acc : List Int) (A : Option Addr) (C lo : Nat), j ≤ e ∧ i = .int .i64 j ∧ q = .slice A acc.length C ∧ acc.length ≤ 3000 ∧ Blk 2 1 wr lo (.slice A acc.length C) acc.length (acc.map (Value.int .i64)) ∧ w.heap.size ≤ lo ∧ lo < wr.heap.size ∧ Below w.heap.size w wr ∧ Hid (PF xs j e g ∧ g.size ≤ f.size ∧ flS f = acc ++ flS g)) (fun _ i _ => e - (intOf i).toNat)
    case atStart => exact ⟨s, f, [], _, _, w.heap.size, hpf.le, rfl, rfl, by simp, ⟨row0, by simp⟩, Nat.le_refl _, by simp, (Below.refl _ _).alloc (Nat.le_refl _) _, Lib.hid ⟨hpf, Nat.le_refl _, rfl⟩⟩
    case round =>
      clear row0 hpf
      obtain ⟨j, g, acc, A, C, lo, hj, rfl, rfl, hacc, bk, hlo, hlow, hb, HI⟩ := hrel
      have hs := hb.size
      by_cases hlt : j < e
      · have hjx : j < xs.length := by omega
        obtain ⟨b, off, rfl, p0, p1⟩ := (ha.below hb).at2 hjx
        have hin := prgB_ins HP.out hjx
        have hfl : ¬ (elt pairF xs j).1 = 1 ∧ ¬ (elt pairF xs j).1 = 9 := by
          have := List.all_eq_true.1 HFl.out _ (elt_mem (F := pairF) hjx)
          simpa using this
        have hop := insB_op hin
        have hbd := insB_bd hin
        have HM := Lib.hid (fun (W : World) => l00Max_any 1 (elt pairF xs j).2 W)
        rcases HI.out.1.step hlt with ⟨r, hg, _, ho, he10, hr⟩ | ⟨t, k, r, hg, _, ho, hmt, htl, hx10, hk, hr⟩
        · have HPr := Lib.hid hr
          have HRle := Lib.hid hr.le
          have hne8 : ¬ (elt pairF xs j).1 = 8 := (opnB_f ho).1
          have HF := Lib.hid (show flS f = acc ++ (repL (max 1 (elt pairF xs j).2).toNat [(elt pairF xs j).1 - 1] ++ flS r) by
            rw [HI.out.2.2, hg, flS_cons (fun h => absurd h hne8), headS, if_neg hne8])
          have HSz := Lib.hid (show r.size ≤ f.size by have := HI.out.2.1; rw [hg] at this; simp only [Fo.size] at this; omega)
          clear HI hg hr ho he10 hin
          obtain ⟨x, hx'⟩ : ∃ x, x = elt pairF xs j := ⟨_, rfl⟩
          rw [← hx'] at p0 p1 HM HF hne8 hfl hop hbd
          clear hx'
          obtain ⟨T, hT⟩ : ∃ T, T = (max 1 x.2).toNat := ⟨_, rfl⟩
          rw [← hT] at HF
          have hT2 : max 1 x.2 = (T : Int) := by omega
          have hTb : T ≤ 1000000000000 := by omega
          rw [hT2] at HM
          clear hT hT2
          obtain ⟨z, hz⟩ : ∃ z, z = x.1 - 1 := ⟨_, rfl⟩
          have hbb := World.block_lt_of_cell? _ _ p0
          simp only at hbb
          go_wp2_with (go_at_call 35; refine (HM.out _).mono ?_; rintro e5 w5 ⟨rfl, hq⟩; subst w5)
          rw [← hz] at HF
          rw [← hz]
          obtain ⟨W1, hW1⟩ : ∃ W1, W1 = wr.alloc (.cells #[.int .i64 z] 2) := ⟨_, rfl⟩
          have hbW : Below wr.heap.size wr W1 := by rw [hW1]; exact (Below.refl _ _).alloc (Nat.le_refl _) _
          have bz : Bx W1 wr.heap.size 2 #[.int .i64 z] := by rw [hW1]; exact Bx.new _ _ _
          rw [← hW1]
          clear hW1
          have hsW := hbW.size
          have hbl := bz.lt
          obtain ⟨zs, hzs⟩ : ∃ zs, zs = [z] := ⟨_, rfl⟩
          obtain ⟨B, hB⟩ : ∃ B : Option Addr, B = some ⟨wr.heap.size, 0, none⟩ := ⟨_, rfl⟩
          have hbody : Body W1 lo B 1 zs := by
            rw [hB, hzs]
            exact ⟨fun h => (by cases h), fun b e => (by injection e with e; subst e; exact ⟨rfl, rfl, (by show wr.heap.size ≠ lo; omega), hbl⟩), rd_one (bz.at_ 0 rfl)⟩
          have hzl : zs.length = 1 := by rw [hzs]; rfl
          replace bk := bk.below hbW
          replace hb := hb.trans (hbW.mono hs)
          replace hlow : lo < W1.heap.size := by omega
          rw [← hzs] at HF
          rw [← hB]
          have HZL := Lib.hid hzl
          have HZ3 := Lib.hid (show zs.length ≤ 3000 by omega)
          clear hB hzs bz hzl
          go_loopw [8, 15] (fun q i wr2 => ∃ (m : Nat) (ac2 : List Int) (A2 : Option Addr) (C2 lo2 : Nat), m ≤ T ∧ i = .int .i64 m ∧ q = .slice A2 ac2.length C2 ∧ ac2.length ≤ 3000 ∧ Blk 2 1 wr2 lo2 (.slice A2 ac2.length C2) ac2.length (ac2.map (Value.int .i64)) ∧ w.heap.size ≤ lo2 ∧ lo2 < wr2.heap.size ∧
            Body wr2 lo2 B 1 zs ∧ Below w.heap.size w wr2 ∧ Hid (ac2 = acc ++ repL m zs)) (fun _ i _ => T - (intOf i).toNat)
          case atStart => exact ⟨0, acc, A, C, lo, by omega, rfl, rfl, hacc, bk, hlo, hlow, hbody, hb, Lib.hid (by simp [repL])⟩
          case round =>
            clear bk hlow hbody hb hs
            obtain ⟨m, ac2, A2, C2, lo2, hm, rfl, rfl, hl3, bk, hlo2, hlow2, hbody, hb, HA2⟩ := hrel
            by_cases hmt : m < T
            · obtain ⟨q, hq⟩ := repL_add zs (m + 1) T (by omega)
              have HQ := Lib.hid hq
              have HR1 := Lib.hid (show ac2 ++ zs = acc ++ repL (m + 1) zs by rw [HA2.out, repL_snoc, List.append_assoc])
              clear hq
              have hzr := HZ3.out
              cases B with
              | none =>
                obtain ⟨hD0, hz0⟩ := hbody.nn rfl
                omega
              | some bb =>
                obtain ⟨b1, b2, b3, b4⟩ := hbody.blk bb rfl
                obtain ⟨bk0, bo, bs⟩ := bb
                simp only at b1 b2 b3 b4
                subst b1 b2
                have hnews := news_int hbody.rd
                have hlen2 : (ac2 ++ zs).length = ac2.length + zs.length := List.length_append
                by_cases h3 : ac2.length + zs.length ≤ 3000
                · have hn0 : ¬ (3000 : Int) < (ac2.length : Int) + (zs.length : Int) := by omega
                  go_wp2_with (at_builtin; (refine wpList_appB rfl (.tmp 62) (.tmp 63) 34 2 rfl (.int .i64 0) 1 8 Try.underlying34 info_i64s rfl (by omega) (by omega) rfl bk ⟨bk0, 0, none⟩ zs.length 1 (zs.map (Value.int .i64)) (by first | rfl | (rw [HZL.out]; rfl)) (by simp) hnews (by intro u hu; simp at hu; obtain ⟨z, _, rfl⟩ := hu; rfl) (by omega) ?_); intro A3 C3 w6 lo3 q1 q2 q3 bk3 ht3)
                  go_roundw
                  case rel => first | exact ⟨m + 1, ac2 ++ zs, A3, C3, lo3, by omega, by go_num, by rw [hlen2], by rw [hlen2]; exact h3, by rw [hlen2, List.map_append]; exact bk3, by omega, q3 hlow2, ⟨hbody.nn, fun b e => (by injection e with e; subst e; have := ht3.size; exact ⟨rfl, rfl, (by show bk0 ≠ lo3; omega), (by show bk0 < _; omega)⟩), rd_touch hbody.rd ht3 (by omega)⟩, hb.trans (ht3.below hlo2 (by omega)), Lib.hid HR1.out⟩ | exact ⟨_, _, .slice A3 (ac2.length + zs.length) C3, .int .i64 ((m + 1 : Nat) : Int), ⟨m + 1, by omega, rfl, ac2 ++ zs, A3, C3, by rw [hlen2], by rw [hlen2]; exact h3, lo3, by rw [hlen2, List.map_append]; exact bk3, by omega, q3 hlow2, ⟨hbody.nn, fun b e => (by injection e with e; subst e; have := ht3.size; exact ⟨rfl, rfl, (by show bk0 ≠ lo3; omega), (by show bk0 < _; omega)⟩), rd_touch hbody.rd ht3 (by omega)⟩, hb.trans (ht3.below hlo2 (by omega)), Lib.hid HR1.out⟩, rfl, rfl, rfl, by go_num⟩
                  case measure => (simp [intOf]) <;> omega
                · have hn0 : (3000 : Int) < (ac2.length : Int) + (zs.length : Int) := by omega
                  have HBig := Lib.hid (show ¬ (flS f).length ≤ 3000 by
                    have h4 := congrArg List.length HF.out
                    have h5 := congrArg List.length HR1.out
                    rw [HQ.out] at h4
                    simp only [List.length_append] at h4 h5
                    omega)
                  go_wp2_with (at_builtin; (refine wpList_appB rfl (.tmp 62) (.tmp 63) 34 2 rfl (.int .i64 0) 1 8 Try.underlying34 info_i64s rfl (by omega) (by omega) rfl bk ⟨bk0, 0, none⟩ zs.length 1 (zs.map (Value.int .i64)) (by first | rfl | (rw [HZL.out]; rfl)) (by simp) hnews (by intro u hu; simp at hu; obtain ⟨z, _, rfl⟩ := hu; rfl) (by omega) ?_); intro A3 C3 w6 lo3 q1 q2 q3 bk3 ht3)
                  exact bodyPost_ret (v := .tuple #[.slice none 0 0, .bool false]) (by simp [results, Try.results36, go_sem]) rfl (flatPost_bad HBig.out (hb.trans (ht3.below hlo2 (by omega))))
            · obtain rfl : m = T := by omega
              go_wp2
              go_roundw
              case rel => exact ⟨j + 1, r, ac2, A2, C2, lo2, by have := HRle.out; omega, by go_num, rfl, hl3, bk, hlo2, hlow2, hb, Lib.hid ⟨HPr.out, by have := HSz.out; omega, by rw [HF.out, HA2.out, List.append_assoc]⟩⟩
              case measure => (have := HRle.out); (simp [intOf]) <;> omega
        · have HPr := Lib.hid hr
          have HRle := Lib.hid hr.le
          have he8 : (elt pairF xs j).1 = 8 := by rcases opnB_t ho with h | h; exact h; exact absurd h hfl.2
          have harg := insB_arg hin
          rw [he8, argB_num (by omega)] at harg
          obtain ⟨ha1, ha2⟩ := inB_true harg
          have HF := Lib.hid (show flS f = acc ++ (repL (max 1 (elt pairF xs j).2).toNat (flS k) ++ flS r) by
            rw [HI.out.2.2, hg, flS_cons (fun _ => ha1), headS, if_pos he8])
          have HSz := Lib.hid (show r.size ≤ f.size ∧ k.size < f.size by have := HI.out.2.1; rw [hg] at this; simp only [Fo.size] at this; omega)
          have HMt := Lib.hid (fun (a : Option Addr) (W : World) (h : RdF pairF W a xs) => l11Match_any a c xs j W h (by omega) ho hjx)
          have HK := Lib.hid (fun (a : Option Addr) (W : World) (h : RdF pairF W a xs) => HIH.out k (j + 1) t a c W (by have := HSz.out.2; omega) hk (by omega) h)
          have hkl := hk.le
          have hrl := hr.le
          rw [hmt] at HMt
          clear HI hg hr ho hin hk harg hmt hx10 hfl
          obtain ⟨x, hx'⟩ : ∃ x, x = elt pairF xs j := ⟨_, rfl⟩
          rw [← hx'] at p0 p1 HM HF he8 hop hbd ha1 ha2
          clear hx'
          obtain ⟨T, hT⟩ : ∃ T, T = (max 1 x.2).toNat := ⟨_, rfl⟩
          rw [← hT] at HF
          have hT2 : max 1 x.2 = (T : Int) := by omega
          have hTb : T ≤ 1000000000000 := by omega
          rw [hT2] at HM
          obtain ⟨op, arg⟩ := x
          simp only at he8 p0 p1 HM HF hop hbd ha1 ha2 hT2
          subst he8
          have hT1 : 1 ≤ T := by omega
          clear hT hT2 ha1 ha2 hop hbd
          have hbb := World.block_lt_of_cell? _ _ p0
          simp only at hbb
          go_wp2_with (first | (go_at_call 35; refine (HM.out _).mono ?_; rintro e5 w5 ⟨rfl, hq⟩; subst w5))
          obtain ⟨W1, hW1⟩ : ∃ W1, W1 = wr.alloc (.cells #[.int .i64 7] 2) := ⟨_, rfl⟩
          have hbW : Below wr.heap.size wr W1 := by rw [hW1]; exact (Below.refl _ _).alloc (Nat.le_refl _) _
          rw [← hW1]
          clear hW1
          have hsW := hbW.size
          have ha1 := ha.below (hb.trans (hbW.mono hs))
          refine (HMt.out _ W1 ha1).mono ?_
          rintro e5 w5 ⟨rfl, hq⟩
          subst w5
          go_wp2_with fail
          refine (HK.out _ W1 ha1).mono ?_
          rintro e5 w6 ⟨hb6, hpost⟩
          have hs6 := hb6.size
          have hb16 := hbW.trans (hb6.mono hsW)
          replace bk := bk.below hb16
          replace hb := hb.trans (hb16.mono hs)
          have hlow1 := hlow
          replace hlow : lo < w6.heap.size := by omega
          clear HMt HK ha1 p0 p1
          by_cases h3k : (flS k).length ≤ 3000
          · rw [if_pos h3k] at hpost
            obtain ⟨B, D, rfl, owk⟩ := hpost
            have hbody : Body w6 lo B D (flS k) := by
              refine ⟨fun h => ?_, fun b' e' => ?_, owk.rd⟩
              · subst h
                rcases owk.row.2 with ⟨hv, h0⟩ | ⟨g9, cap, cur, hv, _⟩
                · injection hv with _ _ hD
                  exact ⟨hD, List.eq_nil_of_length_eq_zero h0⟩
                · cases hv
              · rcases owk.row.2 with ⟨hv, h0⟩ | ⟨g9, cap, cur, hv, _⟩
                · injection hv with hv _ _; rw [hv] at e'; cases e'
                · injection hv with hv _ _
                  rw [hv] at e'
                  injection e' with e'
                  subst e'
                  subst hv
                  have := owk.block
                  exact ⟨rfl, rfl, (by show g9 ≠ lo; omega), this.2.2⟩
            have HZ3 := Lib.hid h3k
            generalize flS k = zs at *
            clear owk h3k
            go_wp2
            go_loopw [8, 15] (fun q i wr2 => ∃ (m : Nat) (ac2 : List Int) (A2 : Option Addr) (C2 lo2 : Nat), m ≤ T ∧ i = .int .i64 m ∧ q = .slice A2 ac2.length C2 ∧ ac2.length ≤ 3000 ∧ Blk 2 1 wr2 lo2 (.slice A2 ac2.length C2) ac2.length (ac2.map (Value.int .i64)) ∧ w.heap.size ≤ lo2 ∧ lo2 < wr2.heap.size ∧
              Body wr2 lo2 B D zs ∧ Below w.heap.size w wr2 ∧ Hid (ac2 = acc ++ repL m zs)) (fun _ i _ => T - (intOf i).toNat)
            case atStart => exact ⟨0, acc, A, C, lo, by omega, rfl, rfl, hacc, bk, hlo, hlow, hbody, hb, Lib.hid (by simp [repL])⟩
            case round =>
              clear bk hlow hbody hb hs
              obtain ⟨m, ac2, A2, C2, lo2, hm, rfl, rfl, hl3, bk, hlo2, hlow2, hbody, hb, HA2⟩ := hrel
              by_cases hmt : m < T
              · obtain ⟨q, hq⟩ := repL_add zs (m + 1) T (by omega)
                have HQ := Lib.hid hq
                have HR1 := Lib.hid (show ac2 ++ zs = acc ++ repL (m + 1) zs by rw [HA2.out, repL_snoc, List.append_assoc])
                clear hq
                have hzr := HZ3.out
                cases B with
                | none =>
                  obtain ⟨hD0, hz0⟩ := hbody.nn rfl
                  subst hD0 hz0
                  have hn0 : ¬ (3000 : Int) < (ac2.length : Int) := by omega
                  go_wp2_with (at_builtin; obtain ⟨i, hi1, hi2, hi3, hi4⟩ := info_parts info_i64s; refine wpList_append_own_none rfl (.tmp 62) (.tmp 63) 34 rfl lo2 2 i 1 Try.underlying34 hi1 _ _ _ rfl bk.row.row rfl ?_)
                  go_roundw
                  case rel => first | exact ⟨m + 1, ac2, A2, C2, lo2, by omega, by go_num, rfl, hl3, bk, hlo2, hlow2, hbody, hb, Lib.hid (by have := HR1.out; rwa [List.append_nil] at this)⟩ | exact ⟨_, _, .slice A2 ac2.length C2, .int .i64 ((m + 1 : Nat) : Int), ⟨m + 1, by omega, rfl, ac2, A2, C2, rfl, hl3, lo2, bk, hlo2, hlow2, hbody, hb, Lib.hid (by have := HR1.out; rwa [List.append_nil] at this)⟩, rfl, rfl, rfl, by go_num⟩ | exact ⟨_, _, .slice A2 ac2.length C2, .int .i64 ((m + 1 : Nat) : Int), ⟨m + 1, by omega, rfl, ac2, A2, C2, rfl, hl3, lo2, bk, hlo2, hlow2, hbody, Lib.hid (by have := HR1.out; rwa [List.append_nil] at this)⟩, rfl, rfl, rfl, by go_num⟩
                  case measure => (simp [intOf]) <;> omega
                | some bb =>
                  obtain ⟨b1, b2, b3, b4⟩ := hbody.blk bb rfl
                  obtain ⟨bk0, bo, bs⟩ := bb
                  simp only at b1 b2 b3 b4
                  subst b1 b2
                  have hnews := news_int hbody.rd
                  have hlen2 : (ac2 ++ zs).length = ac2.length + zs.length := List.length_append
                  by_cases h3 : ac2.length + zs.length ≤ 3000
                  · have hn0 : ¬ (3000 : Int) < (ac2.length : Int) + (zs.length : Int) := by omega
                    go_wp2_with (at_builtin; refine wpList_appB rfl (.tmp 62) (.tmp 63) 34 2 rfl (.int .i64 0) 1 8 Try.underlying34 info_i64s rfl (by omega) (by omega) rfl bk ⟨bk0, 0, none⟩ zs.length D (zs.map (Value.int .i64)) (by first | rfl | (rw [HZL.out]; rfl)) (by simp) hnews (by intro u hu; simp at hu; obtain ⟨z, _, rfl⟩ := hu; rfl) (by omega) ?_; intro A3 C3 w6 lo3 q1 q2 q3 bk3 ht3)
                    go_roundw
                    case rel => first | exact ⟨m + 1, ac2 ++ zs, A3, C3, lo3, by omega, by go_num, by rw [hlen2], by rw [hlen2]; exact h3, by rw [hlen2, List.map_append]; exact bk3, by omega, q3 hlow2, ⟨hbody.nn, fun b e => (by injection e with e; subst e; have := ht3.size; exact ⟨rfl, rfl, (by show bk0 ≠ lo3; omega), (by show bk0 < _; omega)⟩), rd_touch hbody.rd ht3 (by omega)⟩, hb.trans (ht3.below hlo2 (by omega)), Lib.hid HR1.out⟩ | exact ⟨_, _, .slice A3 (ac2.length + zs.length) C3, .int .i64 ((m + 1 : Nat) : Int), ⟨m + 1, by omega, rfl, ac2 ++ zs, A3, C3, by rw [hlen2], by rw [hlen2]; exact h3, lo3, by rw [hlen2, List.map_append]; exact bk3, by omega, q3 hlow2, ⟨hbody.nn, fun b e => (by injection e with e; subst e; have := ht3.size; exact ⟨rfl, rfl, (by show bk0 ≠ lo3; omega), (by show bk0 < _; omega)⟩), rd_touch hbody.rd ht3 (by omega)⟩, hb.trans (ht3.below hlo2 (by omega)), Lib.hid HR1.out⟩, rfl, rfl, rfl, by go_num⟩
                    case measure => (simp [intOf]) <;> omega
                  · have hn0 : (3000 : Int) < (ac2.length : Int) + (zs.length : Int) := by omega
                    have HBig := Lib.hid (show ¬ (flS f).length ≤ 3000 by
                      have h4 := congrArg List.length HF.out
                      have h5 := congrArg List.length HR1.out
                      rw [HQ.out] at h4
                      simp only [List.length_append] at h4 h5
                      omega)
                    go_wp2_with (at_builtin; refine wpList_appB rfl (.tmp 62) (.tmp 63) 34 2 rfl (.int .i64 0) 1 8 Try.underlying34 info_i64s rfl (by omega) (by omega) rfl bk ⟨bk0, 0, none⟩ zs.length D (zs.map (Value.int .i64)) (by first | rfl | (rw [HZL.out]; rfl)) (by simp) hnews (by intro u hu; simp at hu; obtain ⟨z, _, rfl⟩ := hu; rfl) (by omega) ?_; intro A3 C3 w6 lo3 q1 q2 q3 bk3 ht3)
                    exact bodyPost_ret (v := .tuple #[.slice none 0 0, .bool false]) (by simp [results, Try.results36, go_sem]) rfl (flatPost_bad HBig.out (hb.trans (ht3.below hlo2 (by omega))))
              · obtain rfl : m = T := by omega
                go_wp2
                go_roundw
                case rel => exact ⟨t + 1, r, ac2, A2, C2, lo2, by have := HRle.out; omega, by go_num, rfl, hl3, bk, hlo2, hlow2, hb, Lib.hid ⟨HPr.out, by have := HSz.out; omega, by rw [HF.out, HA2.out, List.append_assoc]⟩⟩
                case measure => (have := HRle.out); (simp [intOf]) <;> omega
          · rw [if_neg h3k] at hpost
            subst hpost
            have HBig := Lib.hid (show ¬ (flS f).length ≤ 3000 by
              have h4 := congrArg List.length HF.out
              obtain ⟨q, hq⟩ := repL_add (flS k) 1 T (by omega)
              rw [hq] at h4
              simp only [List.length_append, repL, List.append_nil] at h4
              omega)
            go_wp2
            exact bodyPost_ret (v := .tuple #[.slice none 0 0, .bool false]) (by simp [results, Try.results36, go_sem]) rfl (flatPost_bad HBig.out hb)
      · obtain rfl : j = e := by omega
        have hg := HI.out.1.done
        have HF := Lib.hid (show flS f = acc by rw [HI.out.2.2, hg, flS, List.append_nil])
        go_wp2
        refine bodyPost_ret (v := .tuple #[.slice A acc.length C, .bool true]) (by simp [results, Try.results36, go_sem]) rfl ⟨hb, ?_⟩
        rw [HF.out, if_pos hacc]
        exact ⟨A, C, rfl, blk_own bk hlo (by omega)⟩

set_option maxRecDepth 100000 in
set_option maxHeartbeats 8000000 in
theorem specFlatStrokes (a : Option Addr) (c : Nat) (xs : List (Int × Int)) (w : World) (ha : RdF pairF w a xs) (_ : All2 xs) :
    Calls Try.prog 19 #[.slice a xs.length c] w fun e w' => ∃ A C, e = .returned (.tuple #[.slice A (flR xs).1.length C, .int .i64 (flR xs).2]) ∧
      Own 2 w' w.heap.size w'.heap.size (.slice A (flR xs).1.length C) (flR xs).1 ∧ Below w.heap.size w w' := by
  have hx := ha.len
  cases hp : prgB xs with
  | false =>
    have HR := Lib.hid (show flR xs = ([], 1) by rw [flR, if_pos hp])
    have HP := Lib.hid hp
    clear hp
    go_enter Try.func19, Try.ntmps19
    go_wp2_with (go_at_call 25; refine (l11Ok_at a c xs _ HP.out ha).mono ?_; rintro e w1 ⟨rfl, hb1⟩)
    rw [HR.out]
    exact bodyPost_ret (v := .tuple #[.slice none 0 0, .int .i64 1]) (by simp [results, Try.results19, go_sem]) rfl ⟨none, 0, rfl, own_nil _ _ _ _, hb1⟩
  | true =>
    have HP := Lib.hid hp
    have hn := prgB_len hp
    clear hp
    have HB := Lib.hid (show flatB xs = false → flR xs = ([], 6) from fun h => by rw [flR, if_neg (by rw [HP.out]; simp), if_pos h])
    have HG := Lib.hid (show flatB xs = true → flR xs = if 3000 < (flS (foOf xs)).length then ([], 5) else (flS (foOf xs), 0) from fun h => by rw [flR, if_neg (by rw [HP.out]; simp), if_neg (by rw [h]; simp)])
    go_enter Try.func19, Try.ntmps19
    go_wp2_with (go_at_call 25; refine (l11Ok_at a c xs _ HP.out ha).mono ?_; rintro e w1 ⟨rfl, hb1⟩)
    replace ha := ha.below hb1
    go_loopw [4] (fun i wr => ∃ j : Nat, j ≤ xs.length ∧ i = .int .i64 j ∧ Hid (wr = w1) ∧ Hid (∀ r ∈ xs.take j, ¬ r.1 = 1 ∧ ¬ r.1 = 9)) (fun i _ => xs.length - (intOf i).toNat)
    case atStart => exact ⟨0, Nat.zero_le _, rfl, Lib.hid rfl, Lib.hid (by simp)⟩
    case round =>
      obtain ⟨j, hj, rfl, HW, HT⟩ := hrel
      have hw := HW.out
      clear HW
      subst wr
      by_cases hlt : j < xs.length
      · obtain ⟨b, off, rfl, p0, p1⟩ := ha.at2 hlt
        have HN := Lib.hid (fun (h : ¬ (elt pairF xs j).1 = 1 ∧ ¬ (elt pairF xs j).1 = 9) => allE_succ (F := pairF) (p := fun r => ¬ r.1 = 1 ∧ ¬ r.1 = 9) hlt HT.out h)
        have HM := Lib.hid (fun (h : ¬ (¬ (elt pairF xs j).1 = 1 ∧ ¬ (elt pairF xs j).1 = 9)) => show flatB xs = false from by
          cases hq : flatB xs with
          | false => rfl
          | true =>
            have := List.all_eq_true.1 hq _ (elt_mem (F := pairF) hlt)
            exact absurd (by simpa using this) h)
        obtain ⟨x, hx'⟩ : ∃ x, x = elt pairF xs j := ⟨_, rfl⟩
        rw [← hx'] at p0 p1 HN HM
        clear hx'
        obtain ⟨op, n⟩ := x
        simp only at p0 p1 HN HM
        by_cases h1 : op = 1
        · have HF := Lib.hid (HB.out (HM.out (fun h => h.1 h1)))
          subst h1
          clear HN HM
          go_wp2
          rw [HF.out]
          exact bodyPost_ret (v := .tuple #[.slice none 0 0, .int .i64 6]) (by simp [results, Try.results19, go_sem]) rfl ⟨none, 0, rfl, own_nil _ _ _ _, hb1⟩
        · by_cases h9 : op = 9
          · have HF := Lib.hid (HB.out (HM.out (fun h => h.2 h9)))
            subst h9
            clear HN HM
            go_wp2
            rw [HF.out]
            exact bodyPost_ret (v := .tuple #[.slice none 0 0, .int .i64 6]) (by simp [results, Try.results19, go_sem]) rfl ⟨none, 0, rfl, own_nil _ _ _ _, hb1⟩
          · have HN2 := Lib.hid (HN.out ⟨h1, h9⟩)
            have b1 : (op == 1) = false := by simpa using h1
            have b9 : (op == 9) = false := by simpa using h9
            clear HN HM h1 h9
            go_wp2
            go_roundw
            case rel => exact ⟨j + 1, by omega, by go_num, Lib.hid (by trivial), HN2⟩
            case measure => (simp [intOf]) <;> omega
      · obtain rfl : j = xs.length := by omega
        have hfl : flatB xs = true := by
          have := HT.out
          rw [List.take_of_length_le (Nat.le_refl _)] at this
          exact List.all_eq_true.2 fun r hr => by simpa using this r hr
        have HG2 := Lib.hid (HG.out hfl)
        have HC := Lib.hid (fun (W : World) (h : RdF pairF W a xs) => l11Flat_any xs HP.out hfl _ (foOf xs) 0 xs.length a c W (Nat.lt_succ_self _) (foOf_pf HP.out) (Nat.le_refl _) h)
        generalize foOf xs = f at *
        clear hfl HB HG HT
        go_wp2_with fail
        refine (HC.out w1 ha).mono ?_
        rintro e5 w6 ⟨hb6, hpost⟩
        have hbw := hb1.trans (hb6.mono hb1.size)
        by_cases h3 : (flS f).length ≤ 3000
        · rw [if_pos h3] at hpost
          obtain ⟨A, C, rfl, ow⟩ := hpost
          have HF := Lib.hid (HG2.out.trans (if_neg (by omega)))
          go_wp2
          rw [HF.out]
          exact bodyPost_ret (v := .tuple #[.slice A (flS f).length C, .int .i64 0]) (by simp [results, Try.results19, go_sem]) rfl ⟨A, C, rfl, ow.wide hb1.size (Nat.le_refl _), hbw⟩
        · rw [if_neg h3] at hpost
          subst hpost
          have HF := Lib.hid (HG2.out.trans (if_pos (by omega)))
          go_wp2
          rw [HF.out]
          exact bodyPost_ret (v := .tuple #[.slice none 0 0, .int .i64 5]) (by simp [results, Try.results19, go_sem]) rfl ⟨none, 0, rfl, own_nil _ _ _ _, hbw⟩
end Go.Proofs.Ytgfopieojpjddaa
