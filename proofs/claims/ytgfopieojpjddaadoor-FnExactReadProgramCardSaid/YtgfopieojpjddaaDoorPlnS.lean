/-
  Lines of programs, in the model: l11Words, l11Text, ProgramLines.
-/
import Derived.Test.YtgfopieojpjddaaDoorPrlM
import Derived.Test.YtgfopieojpjddaaDoorPrgS
import Derived.Test.YtgfopieojpjddaaDoorDec
import Derived.Test.YtgfopieojpjddaaDoorStrS
import Derived.Test.YtgfopieojpjddaaDoorOrdC
namespace Go.Proofs.YtgfopieojpjddaaDoor
open Go.RowKit

def wdC : Array Value := #[.string (wdO 1), .string (wdO 2), .string (wdO 3), .string (wdO 4), .string (wdO 5), .string (wdO 6), .string (wdO 7), .string (wdO 8), .string (wdO 9), .string (wdO 10)]
theorem wdC_at {k : Nat} (h : k < 10) : wdC[k]? = some (.string (wdO (k + 1))) := by
  have hc : k = 0 ∨ k = 1 ∨ k = 2 ∨ k = 3 ∨ k = 4 ∨ k = 5 ∨ k = 6 ∨ k = 7 ∨ k = 8 ∨ k = 9 := by omega
  rcases hc with rfl | rfl | rfl | rfl | rfl | rfl | rfl | rfl | rfl | rfl <;> rfl
set_option maxHeartbeats 1000000 in
theorem words_any (w : World) : Calls Tryd.prog 116 #[] w fun e w' => e = .returned (.slice (some ⟨w.heap.size, 0, none⟩) 10 10) ∧ w' = w.alloc (.cells wdC 9) := by
  go_enter Tryd.func116, Tryd.ntmps116
  go_wp2
  go_ret
  exact ⟨rfl, rfl⟩

theorem ret_strS {a b : ByteArray} (h : a = b) : Ending.returned (.string a) = .returned (.string b) := by rw [h]

theorem txS_full {x : Int × Int} (h : ¬ (x.2 = impN x.1 ∧ ¬ x.1 = 1)) : txP x = wdO x.1.toNat ++ (⟨#[32]⟩ ++ ⟨(Lib.itoa x.2).toArray⟩) := by rw [txP_full h, ByteArray.append_assoc]

set_option maxRecDepth 100000 in
set_option maxHeartbeats 4000000 in
theorem l11Text_any (x : Int × Int) (b off : Nat) (w : World) (hi : insB x = true) (h0 : w.cell? ⟨b, off, none⟩ = some (.int .i64 x.1)) (h1 : w.cell? ⟨b, off + 1, none⟩ = some (.int .i64 x.2)) :
    Calls Tryd.prog 65 #[.pointer (some ⟨b, off, none⟩)] w fun e w' => e = .returned (.string (txP x)) ∧ Below w.heap.size w w' := by
  have hop := insB_op hi
  have hbd := insB_bd hi
  have hask := txP_ask hi
  obtain ⟨op, n⟩ := x
  simp only at hop hbd hask h0 h1 ⊢
  obtain ⟨k, hk⟩ := Int.eq_ofNat_of_zero_le (show 0 ≤ op - 1 by omega)
  obtain rfl : op = (k : Int) + 1 := by omega
  clear hk
  have hk : k < 10 := by omega
  have hws := wdO_len ⟨k + 1, by omega⟩
  have his := itoa_len hbd.1 hbd.2
  have HB := Lib.hid (fun h1 h2 => txP_bare (x := ((k : Int) + 1, n)) h1 h2)
  have HF := Lib.hid (fun h => txS_full (x := ((k : Int) + 1, n)) h)
  have e0 : ((k : Int) + 1).toNat = k + 1 := by omega
  simp only [e0] at HB HF
  have HW := Lib.hid (wdC_at hk)
  clear hi e0
  have k0 := kept_all h0
  have k1 := kept_all h1
  have hb0 := World.block_lt_of_cell? _ _ h0
  simp only at hb0
  simp only at hws
  generalize wdO (k + 1) = W at *
  have d1 : (9223372036854775807 < W.size + (1 + (Lib.itoa n).length)) = False := eq_false (by omega)
  have d2 : (9223372036854775807 < 1 + (Lib.itoa n).length) = False := eq_false (by omega)
  have hwr : IntKind.i64.wrap (k : Int) = (k : Int) := fits_int _ (by omega) (by omega)
  have hk' : (k : Int) < 10 := by omega
  have HB2 := Lib.hid (show ¬ (k = 0 ∨ k = 7 ∨ 1 < n) → txP ((k : Int) + 1, n) = W from fun h => by
    have h2 := hask.2 (by omega)
    exact HB.out h2.1 h2.2)
  have HF2 := Lib.hid (show (k = 0 ∨ k = 7 ∨ 1 < n) → txP ((k : Int) + 1, n) = W ++ (⟨#[32]⟩ ++ ⟨(Lib.itoa n).toArray⟩) from fun h => HF.out (fun h2 => hask.1 h2 (by omega)))
  clear HB HF hask
  go_enter Tryd.func65, Tryd.ntmps65
  go_wp2
  refine wp_region_marked (fun w2 => Below w.heap.size w w2) 8 (by kernel_rfl) ?_
  have hS : Below w.heap.size w w.drew := (Below.refl _ _).drew
  refine wpAnyM_take (i := 1) (v := ?_) rfl (by kernel_rfl) (by kernel_rfl) (by kernel_rfl) (by kernel_rfl) (by kernel_rfl) (fun _ _ _ h => h) hS (.inl ⟨by rfl, ?_⟩) ?_
  rotate_left 1
  · intro w' hS'; go_simp; try with_reducible rfl
  simp only [Act.put, List.setIfInBounds_toArray, List.set_cons_succ, List.set_cons_zero, List.getElem_toArray, List.getElem_cons_succ, List.getElem_cons_zero]
  refine wpAnyM_take (i := 2) (v := ?_) rfl (by kernel_rfl) (by kernel_rfl) (by kernel_rfl) (by kernel_rfl) (by kernel_rfl) (fun _ _ _ h => h) hS (.inl ⟨by rfl, ?_⟩) ?_
  rotate_left 1
  · intro w' hS'; go_simp; try with_reducible rfl
  simp only [Act.put, List.setIfInBounds_toArray, List.set_cons_succ, List.set_cons_zero, List.getElem_toArray, List.getElem_cons_succ, List.getElem_cons_zero]
  refine wpAnyM_take (i := 3) (v := ?_) rfl (by kernel_rfl) (by kernel_rfl) (by kernel_rfl) (by kernel_rfl) (by kernel_rfl) (fun _ _ _ h => h) hS (.inl ⟨by rfl, ?_⟩) ?_
  rotate_left 1
  · intro w' hS'; go_simp; try with_reducible rfl
  simp only [Act.put, List.setIfInBounds_toArray, List.set_cons_succ, List.set_cons_zero, List.getElem_toArray, List.getElem_cons_succ, List.getElem_cons_zero]
  refine wpAnyM_take (i := 4) (v := ?_) rfl (by kernel_rfl) (by kernel_rfl) (by kernel_rfl) (by kernel_rfl) (by kernel_rfl) (fun _ _ _ h => h) hS (.inl ⟨by rfl, ?_⟩) ?_
  rotate_left 1
  · intro w' hS'; go_simp; try with_reducible rfl
  simp only [Act.put, List.setIfInBounds_toArray, List.set_cons_succ, List.set_cons_zero, List.getElem_toArray, List.getElem_cons_succ, List.getElem_cons_zero]
  refine wpAnyM_take (i := 5) (v := ?_) rfl (by kernel_rfl) (by kernel_rfl) (by kernel_rfl) (by kernel_rfl) (by kernel_rfl) (fun _ _ _ h => h) hS (.inl ⟨by rfl, ?_⟩) ?_
  rotate_left 1
  · intro w' hS'; go_simp; try with_reducible rfl
  simp only [Act.put, List.setIfInBounds_toArray, List.set_cons_succ, List.set_cons_zero, List.getElem_toArray, List.getElem_cons_succ, List.getElem_cons_zero]
  refine wpAnyM_one (i := 0) (by kernel_rfl) rfl (by rfl) (fun K hK => ?_)
  go_simp
  refine (words_any w.drew).mono ?_
  rintro e w2 ⟨rfl, hq⟩
  have cw : w2.cell? ⟨w.heap.size, k, none⟩ = some (.string W) := by rw [hq]; exact (Bx.new w.drew wdC 9).at_ k HW.out
  replace hS : Below w.heap.size w w2 := by rw [hq]; exact hS.alloc (Nat.le_refl _) _
  clear hq
  refine hK _ _ (.inr hS) ?_
  clear hK K
  try simp only [Act.put, List.setIfInBounds_toArray, List.set_cons_succ, List.set_cons_zero, List.getElem_toArray, List.getElem_cons_succ, List.getElem_cons_zero]
  refine wpAnyM_one (i := 6) (by kernel_rfl) rfl (by rfl) (fun K hK => ?_)
  go_simp
  refine hK _ _ (.inr hS) ?_
  clear hK K
  try simp only [Act.put, List.setIfInBounds_toArray, List.set_cons_succ, List.set_cons_zero, List.getElem_toArray, List.getElem_cons_succ, List.getElem_cons_zero]
  refine wpAnyM_one (i := 7) (by kernel_rfl) rfl (by rfl) (fun K hK => ?_)
  go_simp
  refine hK _ _ (.inr hS) ?_
  clear hK K
  try simp only [Act.put, List.setIfInBounds_toArray, List.set_cons_succ, List.set_cons_zero, List.getElem_toArray, List.getElem_cons_succ, List.getElem_cons_zero]
  refine wpAnyM_one (i := 8) (by kernel_rfl) rfl (by rfl) (fun K hK => ?_)
  go_simp
  refine hK _ _ (.inl rfl) ?_
  clear hK K
  refine wpAnyM_done (by kernel_rfl) ?_ _
  try simp only [Act.put, List.setIfInBounds_toArray, List.set_cons_succ, List.set_cons_zero, List.getElem_toArray, List.getElem_cons_succ, List.getElem_cons_zero]
  have q0 := kept hS h0
  have q1 := kept hS h1
  have hs := hS.size
  clear k0 k1 h0 h1 cw hwr hk'
  have HDec := Lib.hid (fun (V : World) => l01Dec_any n V (by omega) (by omega))
  by_cases hn : 1 < n
  · have HR := Lib.hid (HF2.out (.inr (.inr hn)))
    have hd : decide (n > 1) = true := decide_eq_true hn
    have hc : k = 0 ∨ k = 1 ∨ k = 2 ∨ k = 3 ∨ k = 4 ∨ k = 5 ∨ k = 6 ∨ k = 7 ∨ k = 8 ∨ k = 9 := by omega
    clear HB2 HF2 hk
    rcases hc with rfl | rfl | rfl | rfl | rfl | rfl | rfl | rfl | rfl | rfl
    all_goals
      go_wp2_with fail
      refine (HDec.out _).mono ?_
      rintro e w3 ⟨rfl, hb3⟩
      go_wp2
      go_ret
      exact ⟨ret_strS HR.out.symm, hS.trans (hb3.mono hs)⟩
  · have hd : decide (n > 1) = false := decide_eq_false hn
    by_cases hc : k = 0 ∨ k = 7
    · have HR := Lib.hid (HF2.out (by omega))
      clear HB2 HF2 hk
      rcases hc with rfl | rfl
      all_goals
        go_wp2_with fail
        refine (HDec.out _).mono ?_
        rintro e w3 ⟨rfl, hb3⟩
        go_wp2
        go_ret
        exact ⟨ret_strS HR.out.symm, hS.trans (hb3.mono hs)⟩
    · have HR := Lib.hid (HB2.out (by omega))
      have hc2 : k = 1 ∨ k = 2 ∨ k = 3 ∨ k = 4 ∨ k = 5 ∨ k = 6 ∨ k = 8 ∨ k = 9 := by omega
      clear HB2 HF2 hk hc
      rcases hc2 with rfl | rfl | rfl | rfl | rfl | rfl | rfl | rfl
      all_goals
        go_wp2
        go_ret
        exact ⟨ret_strS HR.out.symm, hS⟩

theorem growS_list {xs : List (Int × Int)} {j : Nat} (hj : j < xs.length) : (xs.take (j + 1)).map txP = (xs.take j).map txP ++ [txP (elt pairF xs j)] := by
  rw [takeE_succ (F := pairF) hj, List.map_append, List.map_singleton]
theorem newsS_str (w : World) (x : ByteArray) (e : TypeId) : ∀ i u, (flat textF [x])[i]? = some u → (w.alloc (.cells #[.string x] e)).cell? ((⟨w.heap.size, 0, none⟩ : Addr).add i) = some u := by
  intro i u hu
  match i, hu with
  | 0, hu => simp [flat, textF] at hu; subst hu; exact cell_new1 w _ e

set_option maxRecDepth 100000 in
set_option maxHeartbeats 4000000 in
theorem specProgramLines (a : Option Addr) (c : Nat) (xs : List (Int × Int)) (w : World) (ha : RdF pairF w a xs) (_ : All2 xs) :
    Calls Tryd.prog 24 #[.slice a xs.length c] w fun e w' => ∃ A C, e = .returned (.tuple #[.slice A (plR xs).1.length C, .int .i64 (plR xs).2]) ∧
      OwnF textF 9 w' w.heap.size w'.heap.size (.slice A (plR xs).1.length C) (plR xs).1 ∧ Below w.heap.size w w' := by
  have hx := ha.len
  cases hp : prgB xs with
  | false =>
    have HR := Lib.hid (plR_bad hp)
    have HP := Lib.hid hp
    clear hp
    go_enter Tryd.func24, Tryd.ntmps24
    go_wp2_with (go_at_call 64; refine (l11Ok_at a c xs _ HP.out ha).mono ?_; rintro e w1 ⟨rfl, hb1⟩)
    rw [HR.out]
    exact bodyPost_ret (v := .tuple #[.slice none 0 0, .int .i64 1]) (by simp [results, Tryd.results24, go_sem]) rfl ⟨none, 0, rfl, ownF_nil _ _ _ _ _, hb1⟩
  | true =>
    have HR := Lib.hid (plR_ok hp)
    have HP := Lib.hid hp
    have hn := prgB_len hp
    clear hp
    go_enter Tryd.func24, Tryd.ntmps24
    go_wp2_with (go_at_call 64; refine (l11Ok_at a c xs _ HP.out ha).mono ?_; rintro e w1 ⟨rfl, hb1⟩)
    have hs1 := hb1.size
    have row0 := row_new 9 1 w1 #[] 0 rfl (by omega)
    go_loopw [4, 5] (fun q i wr => ∃ (j : Nat) (A : Option Addr) (C : Nat), j ≤ xs.length ∧ i = .int .i64 j ∧ q = .slice A j C ∧ Row 9 1 wr w.heap.size wr.heap.size (.slice A j C) j (flat textF ((xs.take j).map txP)) ∧ Below w.heap.size w wr) (fun _ i _ => xs.length - (intOf i).toNat)
    case atStart => exact ⟨0, _, _, Nat.zero_le _, rfl, rfl, row0.wide hs1 (by simp), hb1.alloc hs1 _⟩
    case round =>
      clear hb1 hs1 row0
      obtain ⟨j, A, C, hj, rfl, rfl, row, hb⟩ := hrel
      have hs := hb.size
      by_cases hlt : j < xs.length
      · obtain ⟨b, off, rfl, p0, p1⟩ := (ha.below hb).at2 hlt
        have hin := prgB_ins HP.out hlt
        have HL := Lib.hid (growS_list hlt)
        have HT := Lib.hid (l11Text_any (elt pairF xs j) b (off + j * 2) wr hin p0 p1)
        generalize elt pairF xs j = x at *
        go_wp2_with fail
        refine HT.out.mono ?_
        rintro e w2 ⟨rfl, hb3⟩
        have row2 := (row.below hb3).alloc (.cells #[.string (txP x)] 9)
        have hbw2 := hb.trans (hb3.mono hs)
        have hs2 := hbw2.size
        clear row p0 p1 hin HT
        generalize txP x = s at *
        go_wp2_with (at_builtin; refine wpList_appR rfl (.tmp 16) (.tmp 21) 22 9 rfl (.string ByteArray.empty) 1 16 Tryd.underlying22 info_string rfl (by omega) (by omega) rfl row2 ⟨w2.heap.size, 0, none⟩ 1 1 (flat textF [s]) rfl rfl (newsS_str w2 s _) (by intro u hu; simp [flat, textF] at hu; subst hu; rfl) (by omega) (by simp; omega) ?_; intro A' C' w5 row5 ht5)
        go_roundw
        case rel => exact ⟨j + 1, A', C', by omega, by go_num, rfl, by rw [HL.out, flat_append]; exact row5, (hbw2.alloc hs2 _).trans (ht5.below (Nat.le_refl _) (by simp; omega))⟩
        case measure => (simp [intOf]) <;> omega
      · obtain rfl : j = xs.length := by omega
        go_wp2
        rw [HR.out]
        rw [List.take_of_length_le (Nat.le_refl _)] at row
        exact bodyPost_ret (v := .tuple #[.slice A xs.length C, .int .i64 0]) (by simp [results, Tryd.results24, go_sem]) rfl ⟨A, C, by simp, by simp only [List.length_map]; exact ownF_row (F := textF) row (by simp) (by simp; omega), hb⟩
end Go.Proofs.YtgfopieojpjddaaDoor
