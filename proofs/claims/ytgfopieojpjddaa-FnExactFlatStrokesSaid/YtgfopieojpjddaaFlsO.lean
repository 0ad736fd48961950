/-
  Programs as trees, in the program: nodesOf.
-/
import Derived.Test.YtgfopieojpjddaaFlsN
namespace Go.Proofs.Ytgfopieojpjddaa
open Go.RowKit

set_option maxRecDepth 100000 in
set_option maxHeartbeats 16000000 in
theorem nodesOf_any {w0 : World} {xs : List (Int × Int)} (hxl : xs.length ≤ 1000) : ∀ (n : Nat) (f : Fo) (s e : Nat) (A : Option Addr) (c : Nat) (w : World), f.size < n → PF xs s e f → (e = xs.length ∨ (e < xs.length ∧ (elt pairF xs e).1 = 10)) → s ≤ xs.length → Below w0.heap.size w0 w → RdF pairF w0 A (xs.drop s) → xs.length - s ≤ c →
    Calls Try.prog 38 #[.slice A (xs.length - s) c] w (NodesPost w0 xs e f w) := by
  intro n
  induction n with
  | zero => intro f s e A c w hn; omega
  | succ n ih =>
    intro f s e A c w hn hpf he hsl hbw hrd hc
    have HIH := Lib.hid ih
    have HP := Lib.hid (show PF xs s e f ∧ f.size ≤ f.size ∧ f = ksF [] f from ⟨hpf, Nat.le_refl _, rfl⟩)
    have HE := Lib.hid he
    have HSN := Lib.hid hn
    clear ih hpf he hn
    go_enter Try.func38, Try.ntmps38
    go_wp2
    go_loopw [0, 2] (fun sl q wr => ∃ (j m : Nat) (g : Fo) (ks : List Kd) (A : Option Addr) (c : Nat) (B : Option Addr) (C lo : Nat), j + m = xs.length ∧ sl = .slice A m c ∧ m ≤ c ∧ RdF pairF w0 A (xs.drop j) ∧ q = .slice B ks.length C ∧ ks.length ≤ j ∧
      Blk 64 3 wr lo (.slice B ks.length C) ks.length (ksC ks) ∧ w.heap.size ≤ lo ∧ Below w.heap.size w wr ∧ Hid (∀ z ∈ ks, FoP (fun b => b ≠ lo ∧ w.heap.size ≤ b) wr z.2.2.1 z.2.2.2.2) ∧ Hid (PF xs j e g ∧ g.size ≤ f.size ∧ f = ksF ks g)) (fun sl _ _ => slLen sl)
    case atStart => exact ⟨s, xs.length - s, f, [], A, c, none, 0, w.heap.size, by omega, rfl, hc, hrd, rfl, by simp, ⟨row_nil _ _ _ _ _, Nat.le_refl _⟩, Nat.le_refl _, Below.refl _ _, Lib.hid (fun z hz => by simp at hz), Lib.hid HP.out⟩
    case round =>
      clear hrd hc hsl A c
      obtain ⟨j, m, g, ks, A, c, B, C, lo, hj, rfl, hmc, hrd, rfl, hkj, bk, hlo, hb, HK, HI⟩ := hrel
      have hs := hb.size
      have hb0 := hbw.trans (hb.mono hbw.size)
      by_cases hm : m = 0
      · subst hm
        obtain ⟨hp, hsz, hF⟩ := HI.out
        have hje : j = e := by
          have := hp.le
          rcases HE.out with h | h <;> omega
        have hg : g = .nil := by
          cases hp with
          | nil => rfl
          | leaf ha _ _ _ => omega
          | loop ha _ _ _ _ _ _ => omega
        subst hg
        have HF := Lib.hid hF
        have HQ := Lib.hid (show ¬ e < xs.length by omega)
        clear HI hp hF hsz
        go_wp2
        refine bodyPost_ret (v := .tuple #[.slice B ks.length C, .slice none 0 0]) (by simp [results, Try.results38, go_sem]) rfl ?_
        rw [HF.out]
        exact nodesPost_of bk hlo hb HK.out (fun h => absurd h HQ.out)
      · have hjl : j < xs.length := by omega
        have hm1 : 1 ≤ m := by omega
        obtain ⟨b, off, rfl, hcc⟩ := (hrd.below hb0).cells (fun h0 => by rw [List.drop_eq_nil_iff] at h0; omega)
        have hx0 : (xs.drop j)[0]? = some (elt pairF xs j) := by rw [List.getElem?_drop, Nat.add_zero, elt_get hjl, List.getElem?_eq_getElem hjl]
        have p0 : wr.cell? ⟨b, off, none⟩ = some (.int .i64 (elt pairF xs j).1) := by simpa using hcc 0 _ hx0 0 _ rfl
        have p1 : wr.cell? ⟨b, off + 1, none⟩ = some (.int .i64 (elt pairF xs j).2) := by simpa using hcc 0 _ hx0 1 _ rfl
        have HT := Lib.hid (fun W => run_tail (w := W) (b := b) (off := off) (n := m) (c := c) hm1)
        have HRT := Lib.hid (rdF_tail hrd (c := c) (by omega))
        obtain ⟨op, hop⟩ : ∃ op, op = (elt pairF xs j).1 := ⟨_, rfl⟩
        obtain ⟨arg, harg⟩ : ∃ arg, arg = (elt pairF xs j).2 := ⟨_, rfl⟩
        have HOp := Lib.hid hop
        have HArg := Lib.hid harg
        rw [← hop] at p0
        rw [← harg] at p1
        clear hop harg hx0 hcc
        obtain ⟨A2, hA2⟩ : ∃ A2, A2 = (if c = 1 then some (⟨b, off, none⟩ : Addr) else some ⟨b, off + 2, none⟩) := ⟨_, rfl⟩
        have HT2 : ∀ W : World, (Instr.slice 25 (.slice (some ⟨b, off, none⟩) m c) (some (.int .i64 1)) none none).run Try.prog W = .ok (.slice A2 (m - 1) (c - 1)) W := fun W => by rw [hA2]; exact HT.out W
        rw [← hA2] at HRT
        clear hA2 HT
        have hpos : (0 : Int) < (m : Int) := by omega
        by_cases h10 : op = 10
        · subst h10
          obtain ⟨hp, hsz, hF⟩ := HI.out
          have hg : g = .nil ∧ j = e := by
            cases hp with
            | nil => exact ⟨rfl, rfl⟩
            | leaf _ _ hx _ => exact absurd HOp.out.symm hx
            | loop _ ho _ _ _ _ _ => rw [← HOp.out] at ho; cases ho
          obtain ⟨rfl, rfl⟩ := hg
          have HF := Lib.hid hF
          clear HI hp hF hsz
          go_wp2_with fail
          refine bodyPost_ret (v := .tuple #[.slice B ks.length C, .slice A2 (m - 1) (c - 1)]) (by simp [results, Try.results38, go_sem]) rfl ?_
          rw [HF.out]
          have hba : Below wr.heap.size wr (wr.alloc (.cells #[.int .i64 10, .int .i64 arg, .slice none 0 0] 64)) := (Below.refl _ _).alloc (Nat.le_refl _) _
          exact nodesPost_of (bk.below hba) hlo (hb.trans (hba.mono hs)) (fun z hz => (HK.out z hz).below hba) (fun _ => ⟨A2, c - 1, by rw [show xs.length - (j + 1) = m - 1 by omega], by omega, HRT.out⟩)
        · have h10b : (op == 10) = false := by simpa using h10
          obtain ⟨V, hV⟩ : ∃ V, V = wr.alloc (.cells #[.int .i64 op, .int .i64 arg, .slice none 0 0] 64) := ⟨_, rfl⟩
          have hba : Below wr.heap.size wr V := by rw [hV]; exact (Below.refl _ _).alloc (Nat.le_refl _) _
          have bn : Bx V wr.heap.size 64 #[.int .i64 op, .int .i64 arg, .slice none 0 0] := by rw [hV]; exact Bx.new _ _ _
          have HV := Lib.hid hV
          clear hV
          have hsV := hba.size
          have hltV := bn.lt
          by_cases ho : opnB op = true
          · have HB := Lib.hid (show Calls Try.prog 34 #[.agg #[.int .i64 op, .int .i64 arg]] V fun e w' => e = .returned (.bool true) ∧ Below V.heap.size V w' from by rw [← ho]; exact begins_any (op, arg) V)
            go_wp2_with fail
            rw [← HV.out]
            refine HB.out.mono ?_
            rintro e1 w1 ⟨rfl, hb1⟩
            have hb2 := hba.trans (hb1.mono hsV)
            replace bn := bn.below hb1
            have hs1 := hb1.size
            obtain ⟨t, k, r, htl, ht10, hpk, hpr, hg⟩ : ∃ t k r, t < xs.length ∧ (elt pairF xs t).1 = 10 ∧ PF xs (j + 1) t k ∧ PF xs (t + 1) e r ∧ g = .cons op arg k r := by
              rw [HOp.out] at ho h10
              cases HI.out.1 with
              | nil => rcases HE.out with h | ⟨_, h⟩ <;> first | omega | exact absurd h h10
              | leaf _ ho2 _ _ => rw [ho] at ho2; cases ho2
              | loop _ _ _ htl hx hk hr => exact ⟨_, _, _, htl, hx, hk, hr, by rw [HOp.out, HArg.out]⟩
            have hsz : k.size < n ∧ r.size ≤ f.size := by
              have h1 := HI.out.2.1
              have h2 := HSN.out
              rw [hg] at h1
              simp only [Fo.size] at h1
              omega
            have HF := Lib.hid (show f = ksF ks (.cons op arg k r) by rw [← hg]; exact HI.out.2.2)
            have HPr := Lib.hid hpr
            have HSz := Lib.hid hsz
            have hjt := hpk.le
            have HC := Lib.hid (show Calls Try.prog 38 #[.slice A2 (m - 1) (c - 1)] w1 (NodesPost w0 xs t k w1) by
              rw [show m - 1 = xs.length - (j + 1) by omega]
              exact HIH.out k (j + 1) t A2 (c - 1) w1 hsz.1 hpk (.inr ⟨htl, ht10⟩) (by omega) (hb0.trans (hb2.mono hb0.size)) HRT.out (by omega))
            clear HI hg hpk hpr hsz ht10 HRT HT2 HB
            go_wp2_with fail
            refine HC.out.mono ?_
            rintro e2 w2 ⟨N, C1, V1, rfl, hfo, hb3, hV1⟩
            obtain ⟨A3, c3, rfl, hc3, hr3⟩ := hV1 htl
            have hb4 := hb2.trans (hb3.mono (by have := hb2.size; omega))
            replace bn := bn.below hb3
            have f2 := bn.thaw 2
            have n2 := bn.at_ 2 rfl
            clear HC
            have n0 := bn.at_ 0 rfl
            have n1 := bn.at_ 1 rfl
            have bn5 := bn.set_ 2 (.slice N k.len C1)
            have hb5 := hb4.setCell (p := ⟨wr.heap.size, 2, none⟩) (Nat.le_refl _) (.slice N k.len C1)
            have hfo5 : FoP (fun b => w1.heap.size ≤ b) (w2.setCell ⟨wr.heap.size, 2, none⟩ (.slice N k.len C1)) N k := hfo.go fun b o v hp hv => ⟨cell_far hv (by simp only; omega) _, hp⟩
            have bk5 := bk.below hb5
            have HK5 := Lib.hid (fun z hz => (HK.out z hz).below hb5)
            have hnn := node_news (w2.setCell ⟨wr.heap.size, 2, none⟩ (.slice N k.len C1)) (.int .i64 op) (.int .i64 arg) (.slice N k.len C1) rfl rfl rfl
            have hh := hb5.size
            have hba2 : Below (w2.setCell ⟨wr.heap.size, 2, none⟩ (.slice N k.len C1)).heap.size (w2.setCell ⟨wr.heap.size, 2, none⟩ (.slice N k.len C1)) ((w2.setCell ⟨wr.heap.size, 2, none⟩ (.slice N k.len C1)).alloc (.cells #[.int .i64 op, .int .i64 arg, .slice N k.len C1] 64)) := (Below.refl _ _).alloc (Nat.le_refl _) _
            clear hb4 hfo bn hb3 HK
            go_wp2_with (at_builtin; refine wpList_appB rfl (.tmp 29) (.tmp 31) 57 64 rfl (.agg #[.int .i64 0, .int .i64 0, .slice none 0 0]) 3 40 Try.underlying57 info_node rfl (by omega) (by omega) rfl (bk5.alloc _) ⟨w2.heap.size, 0, none⟩ 1 1 [.int .i64 op, .int .i64 arg, .slice N k.len C1] rfl rfl (by simpa using hnn.1) hnn.2 (by omega) ?_; intro A4 C4 w6 lo3 q1 q2 q3 bk6 ht6)
            go_roundw
            case rel =>
              refine ⟨t + 1, xs.length - (t + 1), r, ks ++ [(op, arg, N, C1, k)], A3, c3, A4, C4, lo3, by omega, rfl, hc3, hr3, by rw [List.length_append]; rfl, by rw [List.length_append]; simp; omega, ?_, by omega, ?_, Lib.hid ?_, Lib.hid ⟨HPr.out, HSz.out.2, by rw [ksF_app]; exact HF.out⟩⟩
              · rw [ksC_app, List.length_append]; exact bk6
              · exact (hb.trans ((hb5.trans (hba2.mono hh)).mono hs)).trans (ht6.below hlo (by have := hba2.size; omega))
              · exact nodes_step ht6 q1 (fun y hy => (HK5.out y hy).below hba2) ((hfo5.go fun b o v hp hv => ⟨hv, by
                  have h1 := bk.le
                  have h2 := hs1
                  have h3 := hltV
                  have h4 := hp
                  exact ⟨by omega, by omega⟩⟩).below hba2)
            case measure => (simp [slLen]) <;> omega
          · have ho' : opnB op = false := by simpa using ho
            have HB := Lib.hid (show Calls Try.prog 34 #[.agg #[.int .i64 op, .int .i64 arg]] V fun e w' => e = .returned (.bool false) ∧ Below V.heap.size V w' from by rw [← ho']; exact begins_any (op, arg) V)
            go_wp2_with fail
            rw [← HV.out]
            refine HB.out.mono ?_
            rintro e1 w1 ⟨rfl, hb1⟩
            have hb2 := hba.trans (hb1.mono hsV)
            have bk2 := bk.below hb2
            replace bn := bn.below hb1
            have n0 := bn.at_ 0 rfl
            have n1 := bn.at_ 1 rfl
            have n2 := bn.at_ 2 rfl
            clear bk
            obtain ⟨r, hpr, hg⟩ : ∃ r, PF xs (j + 1) e r ∧ g = .cons op arg .nil r := by
              rw [HOp.out] at ho' h10
              cases HI.out.1 with
              | nil => rcases HE.out with h | ⟨_, h⟩ <;> first | omega | exact absurd h h10
              | leaf _ _ _ hr => exact ⟨_, hr, by rw [HOp.out, HArg.out]⟩
              | loop _ ho2 _ _ _ _ _ => rw [ho'] at ho2; cases ho2
            have hsz : r.size ≤ f.size := by
              have h1 := HI.out.2.1
              rw [hg] at h1
              simp only [Fo.size] at h1
              omega
            have HF := Lib.hid (show f = ksF (ks ++ [(op, arg, none, 0, .nil)]) r by rw [ksF_app, ← hg]; exact HI.out.2.2)
            have HPr := Lib.hid hpr
            have HSz := Lib.hid hsz
            have HK2 := Lib.hid (fun z hz => (HK.out z hz).below hb2)
            clear HI hg hpr hsz HT2 HB HK
            have hnn := node_news w1 (.int .i64 op) (.int .i64 arg) (.slice none 0 0) rfl rfl rfl
            have hh := hb2.size
            go_wp2_with (at_builtin; refine wpList_appB rfl (.tmp 29) (.tmp 31) 57 64 rfl (.agg #[.int .i64 0, .int .i64 0, .slice none 0 0]) 3 40 Try.underlying57 info_node rfl (by omega) (by omega) rfl (bk2.alloc _) ⟨w1.heap.size, 0, none⟩ 1 1 [.int .i64 op, .int .i64 arg, .slice none 0 0] rfl rfl hnn.1 hnn.2 (by omega) ?_; intro A4 C4 w6 lo3 q1 q2 q3 bk6 ht6)
            have hba2 : Below w1.heap.size w1 (w1.alloc (.cells #[.int .i64 op, .int .i64 arg, .slice none 0 0] 64)) := (Below.refl _ _).alloc (Nat.le_refl _) _
            go_roundw
            case rel =>
              refine ⟨j + 1, m - 1, r, ks ++ [(op, arg, none, 0, .nil)], A2, c - 1, A4, C4, lo3, by omega, rfl, by omega, HRT.out, by rw [List.length_append]; rfl, by rw [List.length_append]; simp; omega, ?_, by omega, ?_, Lib.hid ?_, Lib.hid ⟨HPr.out, HSz.out, HF.out⟩⟩
              · rw [ksC_app, List.length_append]; exact bk6
              · exact (hb.trans ((hb2.trans (hba2.mono hh)).mono hs)).trans (ht6.below hlo (by have := hba2.size; omega))
              · exact nodes_step ht6 q1 (fun y hy => (HK2.out y hy).below hba2) trivial
            case measure => (simp [slLen]) <;> omega
end Go.Proofs.Ytgfopieojpjddaa
