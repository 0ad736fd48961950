/-
  Lines of programs, in the program: impliedArg, line, ProgramLines.
-/
import Derived.Test.YtgfopieojpjddaaDoorPrlM
import Derived.Test.YtgfopieojpjddaaDoorPrgL
import Derived.Test.YtgfopieojpjddaaDoorDecI
import Derived.Test.YtgfopieojpjddaaDoorStrS
namespace Go.Proofs.YtgfopieojpjddaaDoor
open Go.RowKit

/-- The table of words, as the program's variable holds it. -/
def OpWords (w : World) : Prop := ∀ k : Nat, k < 11 → w.cell? ⟨2, k, none⟩ = some (.string (wdO k))
theorem opWords_below {w w' : World} (h : OpWords w) (hb : Below w.heap.size w w') : OpWords w' := fun k hk => kept hb (h k hk)

set_option maxHeartbeats 1000000 in
theorem implied_any (op : Int) (w : World) : Calls Tryd.prog 119 #[.int .i64 op] w fun e w' => e = .returned (.int .i64 (impN op)) ∧ Below w.heap.size w w' := by
  cases hi : inB op 2 5 with
  | false =>
    have HN := Lib.hid (show impN op = 0 by rw [impN, hi, if_neg (by simp)])
    have HI := Lib.hid hi
    clear hi
    go_enter Tryd.func119, Tryd.ntmps119
    go_wp2_with (go_at_call 70; refine (within1_at _ _ op _ _ _ (by go_simp)).mono ?_; rintro e w1 ⟨rfl, hq⟩; subst w1; rw [HI.out])
    go_ret
    exact ⟨ret_int HN.out.symm, (by repeat (first | exact Below.refl _ _ | refine Below.setCell ?_ (by first | omega | (simp <;> omega)) _ | refine Below.alloc ?_ (by first | omega | (simp <;> omega)) _ | refine Below.drew ?_))⟩
  | true =>
    have HN := Lib.hid (show impN op = 1 by rw [impN, hi, if_pos rfl])
    have HI := Lib.hid hi
    clear hi
    go_enter Tryd.func119, Tryd.ntmps119
    go_wp2_with (go_at_call 70; refine (within1_at _ _ op _ _ _ (by go_simp)).mono ?_; rintro e w1 ⟨rfl, hq⟩; subst w1; rw [HI.out])
    go_ret
    exact ⟨ret_int HN.out.symm, (by repeat (first | exact Below.refl _ _ | refine Below.setCell ?_ (by first | omega | (simp <;> omega)) _ | refine Below.alloc ?_ (by first | omega | (simp <;> omega)) _ | refine Below.drew ?_))⟩

theorem ret_str {a b : ByteArray} (h : a = b) : Ending.returned (.string a) = .returned (.string b) := by rw [h]

theorem insB_64 {x : Int × Int} (h : insB x = true) : I64 x.2 := by
  have := insB_bd h
  exact i64_of (by omega) (by omega)

set_option maxRecDepth 100000 in
set_option maxHeartbeats 4000000 in
theorem line_any (x : Int × Int) (w : World) (hi : insB x = true) (hD : PowTab w) (hW : OpWords w) :
    Calls Tryd.prog 68 #[.agg #[.int .i64 x.1, .int .i64 x.2]] w fun e w' => e = .returned (.string (txP x)) ∧ Below w.heap.size w w' := by
  have hop := insB_op hi
  have hbd := insB_bd hi
  have h64 := insB_64 hi
  obtain ⟨op, n⟩ := x
  simp only at hop h64 hbd ⊢
  obtain ⟨k, rfl⟩ := Int.eq_ofNat_of_zero_le (show 0 ≤ op by omega)
  have hk : k < 11 := by omega
  have hk2 : (k : Int) < 11 := by omega
  have c0 := hW k hk
  have hg := World.block_lt_of_cell? _ _ c0
  simp only at hg
  have HI := Lib.hid (implied_any (k : Int))
  have HT := Lib.hid (show txP ((k : Int), n) = txP ((k : Int), n) from rfl)
  have HB := Lib.hid (fun h1 h2 => txP_bare (x := ((k : Int), n)) h1 h2)
  have HF := Lib.hid (fun h => txP_full (x := ((k : Int), n)) h)
  simp only [Int.toNat_natCast] at HB HF
  have hws := wdO_len ⟨k, hk⟩
  have his := itoa_len hbd.1 hbd.2
  clear hi hop HT hbd
  obtain ⟨V, hV⟩ : ∃ V, V = w.alloc (.cells #[.int .i64 (k : Int), .int .i64 n] 83) := ⟨_, rfl⟩
  have hbV : Below w.heap.size w V := by rw [hV]; exact (Below.refl _ _).alloc (Nat.le_refl _) _
  have bV : Bx V w.heap.size 83 #[.int .i64 (k : Int), .int .i64 n] := by rw [hV]; exact Bx.new _ _ _
  have hDV := powTab_below hD hbV
  have HV := Lib.hid hV
  clear hV
  generalize impN (k : Int) = m at *
  generalize wdO k = W at *
  have d1 : (9223372036854775807 < W.size + 1) = False := eq_false (by omega)
  have d2 : (9223372036854775807 < W.size + 1 + (Lib.itoa n).length) = False := eq_false (by omega)
  go_enter Tryd.func68, Tryd.ntmps68
  go_wp2
  rw [← HV.out]
  have v0 := kept_after (bV.at_ 0 rfl)
  have v1 := kept_after (bV.at_ 1 rfl)
  have hs := hbV.size
  by_cases hc : n = m ∧ ¬ (k : Int) = 1
  · have HR := Lib.hid (HB.out hc.1 hc.2)
    obtain ⟨rfl, h1⟩ := hc
    have e1 : (n == n) = true := by simp
    have e2 : ((k : Int) != 1) = true := by simpa using h1
    clear HB HF h1
    refine wp_region_after (by kernel_rfl) (by kernel_rfl) ?_
    repeat (go_big_quiet_step ((go_at_call 119; exact calls_after (HI.out _))))
    refine wpQuiet_nil ?_
    intro u
    go_wp2
    go_ret
    exact ⟨ret_str HR.out.symm, hbV.trans (u.ok.mono hs)⟩
  · have HR := Lib.hid (HF.out hc)
    have HC := Lib.hid hc
    clear HB HF
    have hfin : ∀ u : After V, Calls Tryd.prog 73 #[.int .i64 n] u.now fun e w' => e = .returned (.string ⟨(Lib.itoa n).toArray⟩) ∧ Below u.now.heap.size u.now w' := fun u => implDecimal n u.now h64 (powTab_below hDV u.ok)
    have HD := Lib.hid hfin
    clear hfin
    by_cases h1 : n = m
    · have h2 : (k : Int) = 1 := by
        rcases Classical.em ((k : Int) = 1) with h | h
        · exact h
        · exact absurd ⟨h1, h⟩ hc
      subst h1
      obtain rfl : k = 1 := by omega
      have e1 : (n == n) = true := by simp
      clear hc h2
      refine wp_region_after (by kernel_rfl) (by kernel_rfl) ?_
      repeat (go_big_quiet_step ((go_at_call 119; exact calls_after (HI.out _))))
      refine wpQuiet_nil ?_
      intro u
      have v1u := v1 u
      go_wp2_with fail
      refine (HD.out u).mono ?_
      rintro e w2 ⟨rfl, hb2⟩
      go_wp2
      go_ret
      exact ⟨ret_str HR.out.symm, hbV.trans ((u.ok.mono hs).trans (hb2.mono (Nat.le_trans hs u.ok.size)))⟩
    · have e1 : (n == m) = false := by simpa using h1
      clear hc
      refine wp_region_after (by kernel_rfl) (by kernel_rfl) ?_
      repeat (go_big_quiet_step ((go_at_call 119; exact calls_after (HI.out _))))
      refine wpQuiet_nil ?_
      intro u
      have v1u := v1 u
      go_wp2_with fail
      refine (HD.out u).mono ?_
      rintro e w2 ⟨rfl, hb2⟩
      go_wp2
      go_ret
      exact ⟨ret_str HR.out.symm, hbV.trans ((u.ok.mono hs).trans (hb2.mono (Nat.le_trans hs u.ok.size)))⟩

theorem growT_list {xs : List (Int × Int)} {j : Nat} (hj : j < xs.length) : (xs.take (j + 1)).map txP = (xs.take j).map txP ++ [txP (elt pairF xs j)] := by
  rw [takeE_succ (F := pairF) hj, List.map_append, List.map_singleton]
theorem news_str (w : World) (x : ByteArray) (e : TypeId) : ∀ i u, (flat textF [x])[i]? = some u → (w.alloc (.cells #[.string x] e)).cell? ((⟨w.heap.size, 0, none⟩ : Addr).add i) = some u := by
  intro i u hu
  match i, hu with
  | 0, hu => simp [flat, textF] at hu; subst hu; exact cell_new1 w _ e

set_option maxRecDepth 100000 in
set_option maxHeartbeats 4000000 in
theorem implProgramLines (a : Option Addr) (c : Nat) (xs : List (Int × Int)) (w : World) (ha : RdF pairF w a xs) (hz : All2 xs) (hD : PowTab w ∧ OpWords w) :
    Calls Tryd.prog 26 #[.slice a xs.length c] w fun e w' => ∃ A C, e = .returned (.tuple #[.slice A (plR xs).1.length C, .int .i64 (plR xs).2]) ∧
      OwnF textF 9 w' w.heap.size w'.heap.size (.slice A (plR xs).1.length C) (plR xs).1 ∧ Below w.heap.size w w' := by
  have hx := ha.len
  cases hp : prgB xs with
  | false =>
    have HR := Lib.hid (plR_bad hp)
    have HV := Lib.hid (implValidProgram_at a c xs w hp ha hz)
    clear hp
    go_enter Tryd.func26, Tryd.ntmps26
    go_wp2_with (go_at_call 67; refine HV.out.mono ?_; rintro e w1 ⟨rfl, hb1⟩)
    rw [HR.out]
    exact bodyPost_ret (v := .tuple #[.slice none 0 0, .int .i64 1]) (by simp [results, Tryd.results26, go_sem]) rfl ⟨none, 0, rfl, ownF_nil _ _ _ _ _, hb1⟩
  | true =>
    have HR := Lib.hid (plR_ok hp)
    have HV := Lib.hid (implValidProgram_at a c xs w hp ha hz)
    have HP := Lib.hid hp
    have hn := prgB_len hp
    clear hp
    go_enter Tryd.func26, Tryd.ntmps26
    go_wp2_with (go_at_call 67; refine HV.out.mono ?_; rintro e w1 ⟨rfl, hb1⟩)
    have hs1 := hb1.size
    go_loopw [4, 12] (fun q i wr => ∃ (j : Nat) (A : Option Addr) (C : Nat), j ≤ xs.length ∧ i = .int .i64 j ∧ q = .slice A j C ∧ Row 9 1 wr w.heap.size wr.heap.size (.slice A j C) j (flat textF ((xs.take j).map txP)) ∧ Below w.heap.size w wr) (fun _ i _ => xs.length - (intOf i).toNat)
    case atStart => exact ⟨0, none, 0, Nat.zero_le _, rfl, rfl, row_nil _ _ _ _ _, hb1⟩
    case round =>
      clear hb1 hs1
      obtain ⟨j, A, C, hj, rfl, rfl, row, hb⟩ := hrel
      have hs := hb.size
      by_cases hlt : j < xs.length
      · obtain ⟨b, off, rfl, p0, p1⟩ := (ha.below hb).at2 hlt
        have hin := prgB_ins HP.out hlt
        have HL := Lib.hid (growT_list hlt)
        obtain ⟨x, hx'⟩ : ∃ x, x = elt pairF xs j := ⟨_, rfl⟩
        rw [← hx'] at p0 p1 hin HL
        clear hx'
        go_wp2_with fail
        obtain ⟨W1, hW1⟩ : ∃ W1, W1 = wr.alloc (.cells #[.int .i64 x.1, .int .i64 x.2] 83) := ⟨_, rfl⟩
        have hbW : Below wr.heap.size wr W1 := by rw [hW1]; exact (Below.refl _ _).alloc (Nat.le_refl _) _
        rw [← hW1]
        clear hW1
        refine (line_any x W1 hin (powTab_below hD.1 (hb.trans (hbW.mono hs))) (opWords_below hD.2 (hb.trans (hbW.mono hs)))).mono ?_
        rintro e w2 ⟨rfl, hb2⟩
        have hb3 := hbW.trans (hb2.mono hbW.size)
        have row2 := (row.below hb3).alloc (.cells #[.string (txP x)] 9)
        have hbw2 := hb.trans (hb3.mono hs)
        have hs2 := hbw2.size
        clear hbW hb2 row p0 p1 hin
        generalize txP x = s at *
        go_wp2_with (at_builtin; refine wpList_appR rfl (.tmp 16) (.tmp 19) 22 9 rfl (.string ByteArray.empty) 1 16 Tryd.underlying22 info_string rfl (by omega) (by omega) rfl row2 ⟨w2.heap.size, 0, none⟩ 1 1 (flat textF [s]) rfl rfl (news_str w2 s _) (by intro u hu; simp [flat, textF] at hu; subst hu; rfl) (by omega) (by simp; omega) ?_; intro A' C' w5 row5 ht5)
        go_roundw
        case rel => exact ⟨j + 1, A', C', by omega, by go_num, rfl, by rw [HL.out, flat_append]; exact row5, hbw2.trans ((hbw2.alloc hs2 _).trans (ht5.below (Nat.le_refl _) (by simp; omega)) |> fun h => ⟨h.os.trans hbw2.os.symm, h.tape.trans hbw2.tape.symm, h.output.trans hbw2.output.symm, by have := ht5.size; simp at this; omega, fun k hk => by rw [h.block k hk, hbw2.block k hk]⟩)⟩
        case measure => (simp [intOf]) <;> omega
      · obtain rfl : j = xs.length := by omega
        go_wp2
        rw [HR.out]
        rw [List.take_of_length_le (Nat.le_refl _)] at row
        exact bodyPost_ret (v := .tuple #[.slice A xs.length C, .int .i64 0]) (by simp [results, Tryd.results26, go_sem]) rfl ⟨A, C, by simp, by simp only [List.length_map]; exact ownF_row (F := textF) row (by simp) (by simp; omega), hb⟩
end Go.Proofs.YtgfopieojpjddaaDoor
