/-
  Programs as trees, in the program: a forest in memory; isFlat, strokes, flatStrokes.
-/
import Derived.Test.YtgfopieojpjddaaSlRep
import Derived.Test.YtgfopieojpjddaaPrgI
import Derived.Test.YtgfopieojpjddaaAppB
import Derived.Laws.IdiomCopy
import Derived.Laws.AppendOwnNone
namespace Go.Proofs.Ytgfopieojpjddaa
open Go.RowKit

/-- A forest lies at an address: its first node, and behind it the rest. -/
def FoR (w : World) : Option Addr → Fo → Prop
  | _, .nil => True
  | a, .cons op arg k r => ∃ (b off : Nat) (A : Option Addr) (C : Nat), a = some ⟨b, off, none⟩ ∧ w.cell? ⟨b, off, none⟩ = some (.int .i64 op) ∧ w.cell? ⟨b, off + 1, none⟩ = some (.int .i64 arg) ∧ w.cell? ⟨b, off + 2, none⟩ = some (.slice A k.len C) ∧
      FoR w A k ∧ FoR w (some ⟨b, off + 3, none⟩) r
theorem FoR.below {w w' : World} (hb : Below w.heap.size w w') : ∀ {f : Fo} {a : Option Addr}, FoR w a f → FoR w' a f
  | .nil, _, _ => trivial
  | .cons op arg k r, a, h => by
    obtain ⟨b, off, A, C, e, h0, h1, h2, hk, hr⟩ := h
    exact ⟨b, off, A, C, e, kept hb h0, kept hb h1, kept hb h2, FoR.below hb hk, FoR.below hb hr⟩
/-- What the forest of a flat program holds. -/
def FoOk : Fo → Prop
  | .nil => True
  | .cons op arg k r => ((op = 8 ∧ 1 ≤ arg ∧ arg ≤ 100) ∨ (2 ≤ op ∧ op ≤ 7 ∧ 0 ≤ arg ∧ arg ≤ 100 ∧ k = .nil)) ∧ (FoOk k ∧ k.len ≤ 1000) ∧ FoOk r
/-- Flat strokes of nodes: they, or nothing if they are too many. -/
def FlatPostI (f : Fo) (w : World) (e : Ending) (w' : World) : Prop :=
  Below w.heap.size w w' ∧ if (flS f).length ≤ 3000 then ∃ A C, e = .returned (.tuple #[.slice A (flS f).length C, .bool true]) ∧ Own 2 w' w.heap.size w'.heap.size (.slice A (flS f).length C) (flS f)
    else e = .returned (.tuple #[.slice none 0 0, .bool false])
/-- The strokes of one node. -/
def nodeS (op arg : Int) (k : Fo) : List Int := if op = 8 then repL arg.toNat (flS k) else repL (max arg 1).toNat [op - 1]
theorem flS_node (op arg : Int) (k r : Fo) : flS (.cons op arg k r) = nodeS op arg k ++ flS r := rfl
def NodePost (op arg : Int) (k : Fo) (w : World) (e : Ending) (w' : World) : Prop :=
  Below w.heap.size w w' ∧ if op = 8 ∧ ¬ (flS k).length ≤ 3000 then ∃ v, e = .returned (.tuple #[v, .bool false]) ∧ ∃ A n C, v = .slice A n C
    else ∃ A C, e = .returned (.tuple #[.slice A (nodeS op arg k).length C, .bool true]) ∧ Own 2 w' w.heap.size w'.heap.size (.slice A (nodeS op arg k).length C) (nodeS op arg k)

set_option maxHeartbeats 1000000 in
theorem isFlat_any (x : Int × Int) (w : World) :
    Calls Try.prog 37 #[.agg #[.int .i64 x.1, .int .i64 x.2]] w fun e w' => e = .returned (.bool (decide (¬ x.1 = 1) && decide (¬ x.1 = 9))) ∧ Below w.heap.size w w' := by
  obtain ⟨op, n⟩ := x
  simp only
  by_cases h1 : op = 1
  · subst h1
    go_enter Try.func37, Try.ntmps37
    go_wp2
    go_ret
    exact ⟨rfl, (by repeat (first | exact Below.refl _ _ | refine Below.setCell ?_ (by first | omega | (simp <;> omega)) _ | refine Below.alloc ?_ (by first | omega | (simp <;> omega)) _ | refine Below.drew ?_))⟩
  · by_cases h9 : op = 9
    · subst h9
      go_enter Try.func37, Try.ntmps37
      go_wp2
      go_ret
      exact ⟨rfl, (by repeat (first | exact Below.refl _ _ | refine Below.setCell ?_ (by first | omega | (simp <;> omega)) _ | refine Below.alloc ?_ (by first | omega | (simp <;> omega)) _ | refine Below.drew ?_))⟩
    · have b1 : (op != 1) = true := by simpa using h1
      have b9 : (op != 9) = true := by simpa using h9
      have HR := Lib.hid (show (decide (¬ op = 1) && decide (¬ op = 9)) = true by simp [h1, h9])
      clear h1 h9
      go_enter Try.func37, Try.ntmps37
      go_wp2
      go_ret
      exact ⟨ret_bool HR.out.symm, (by repeat (first | exact Below.refl _ _ | refine Below.setCell ?_ (by first | omega | (simp <;> omega)) _ | refine Below.alloc ?_ (by first | omega | (simp <;> omega)) _ | refine Below.drew ?_))⟩

set_option maxRecDepth 100000 in
set_option maxHeartbeats 4000000 in
theorem strokes_any (x : Int × Int) (w : World) (h1 : 2 ≤ x.1 ∧ x.1 ≤ 7) (h2 : 0 ≤ x.2 ∧ x.2 ≤ 100) :
    Calls Try.prog 44 #[.agg #[.int .i64 x.1, .int .i64 x.2]] w fun e w' => ∃ A C, e = .returned (.slice A (repL (max x.2 1).toNat [x.1 - 1]).length C) ∧ Own 2 w' w.heap.size w'.heap.size (.slice A (repL (max x.2 1).toNat [x.1 - 1]).length C) (repL (max x.2 1).toNat [x.1 - 1]) ∧ Below w.heap.size w w' := by
  obtain ⟨op, n⟩ := x
  simp only at h1 h2 ⊢
  obtain ⟨m, hm⟩ : ∃ m, m = (max n 1).toNat := ⟨_, rfl⟩
  have hmx : max n 1 = (m : Int) := by omega
  rw [← hm]
  have hmb : 1 ≤ m ∧ m ≤ 100 := by omega
  clear hm
  obtain ⟨z, hz⟩ : ∃ z, z = op - 1 := ⟨_, rfl⟩
  have hw2 : op - 2 + 1 = z := by omega
  rw [← hz]
  clear hz
  go_enter Try.func44, Try.ntmps44
  go_wp2_with fail
  obtain ⟨V, hV⟩ : ∃ V, V = (w.alloc (.cells #[.int .i64 op, .int .i64 n] 41)).alloc (.cells #[.int .i64 z] 2) := ⟨_, rfl⟩
  have hb : Below w.heap.size w V := by rw [hV]; exact (by repeat (first | exact Below.refl _ _ | refine Below.setCell ?_ (by first | omega | (simp <;> omega)) _ | refine Below.alloc ?_ (by first | omega | (simp <;> omega)) _ | refine Below.drew ?_))
  have bz : Bx V (w.heap.size + 1) 2 #[.int .i64 z] := by rw [hV]; simpa using Bx.new (w.alloc (.cells #[.int .i64 op, .int .i64 n] 41)) #[.int .i64 z] 2
  rw [← hV]
  clear hV
  have hrd : Rd V (some ⟨w.heap.size + 1, 0, none⟩) [z] := ⟨by simp, fun _ => ⟨_, 0, rfl, fun i hi => by
    have : i = 0 := by simpa using hi
    subst this
    simpa [nth] using bz.at_ 0 rfl⟩⟩
  refine (repI_any (some ⟨w.heap.size + 1, 0, none⟩) 1 [z] m V hrd hmb.1 (by simp) (by simp; omega)).mono ?_
  rintro e w2 ⟨A, C, rfl, ow, hb2⟩
  have hs := hb.size
  go_wp2
  go_ret
  exact ⟨A, C, rfl, ow.wide hs (Nat.le_refl _), hb.trans (hb2.mono hs)⟩

set_option maxRecDepth 100000 in
set_option maxHeartbeats 4000000 in
/-- Nothing, repeated. -/
theorem repI_nil (a : Option Addr) (c : Nat) (m : Nat) (w : World) (h2 : m ≤ 1000000) :
    Calls Try.prog 45 #[.slice a 0 c, .int .i64 (m : Int)] w fun e w' => ∃ A C, e = .returned (.slice A 0 C) ∧ Own 2 w' w.heap.size w'.heap.size (.slice A 0 C) [] ∧ Below w.heap.size w w' := by
  have HM := Lib.hid (show Calls Try.prog 46 #[.int .u64 0, .int .u64 (m : Int)] w fun e w' => e = .returned (.tuple #[.int .u64 0, .int .u64 0]) ∧ w' = w by
    have h := Try.bits_Mul 0 m (by omega) (by omega) w
    simpa using h)
  go_enter Try.func45, Try.ntmps45
  go_wp2_with fail
  refine HM.out.mono ?_
  rintro e w' ⟨rfl, hw'⟩
  subst w'
  have hcp : ∀ W : World, (Builtin.copy_ #[34, 34] 3 #[.slice (some ⟨w.heap.size, 0, none⟩) 0 0, .slice a 0 c]).run Try.prog W = .ok (.int .i64 0) W := fun W => run_copy_none W 34 34 3 2 _ a 0 0 0 c Try.underlying34 (by kernel_rfl) (by rfl)
  go_wp2_with (at_make; refine wpList_makeI rfl _ _ 34 2 rfl Try.underlying34 info_i64r 0 rfl rfl (by omega) ?_; intro w1 own1 hb1)
  clear hcp
  go_loopw [8] (fun b wr => b = .int .i64 0 ∧ Hid (wr = w1)) (fun _ _ => 0)
  case atStart => exact ⟨rfl, Lib.hid rfl⟩
  case round =>
    obtain ⟨rfl, HW⟩ := hrel
    have hw := HW.out
    clear HW
    subst wr
    go_wp2
    go_ret
    exact ⟨some ⟨w.heap.size, 0, none⟩, 0, rfl, by simpa [pad] using own1, hb1⟩

theorem nodeS_loop {arg : Int} {k : Fo} : nodeS 8 arg k = repL arg.toNat (flS k) := by rw [nodeS, if_pos rfl]
theorem nodeS_leaf {op arg : Int} {k : Fo} (h : ¬ op = 8) : nodeS op arg k = repL (max arg 1).toNat [op - 1] := by rw [nodeS, if_neg h]

set_option maxRecDepth 100000 in
set_option maxHeartbeats 8000000 in
theorem nodeFlat_any (op arg : Int) (k : Fo) (A : Option Addr) (C : Nat) (w : World) (hok : (op = 8 ∧ 1 ≤ arg ∧ arg ≤ 100) ∨ (2 ≤ op ∧ op ≤ 7 ∧ 0 ≤ arg ∧ arg ≤ 100 ∧ k = .nil)) (hk : FoR w A k)
    (ih : ∀ W : World, FoR W A k → Calls Try.prog 39 #[.slice A k.len C] W (FlatPostI k W)) :
    Calls Try.prog 43 #[.agg #[.int .i64 op, .int .i64 arg, .slice A k.len C]] w (NodePost op arg k w) := by
  obtain ⟨V, hV⟩ : ∃ V, V = w.alloc (.cells #[.int .i64 op, .int .i64 arg, .slice A k.len C] 64) := ⟨_, rfl⟩
  have hb : Below w.heap.size w V := by rw [hV]; exact (Below.refl _ _).alloc (Nat.le_refl _) _
  have bn : Bx V w.heap.size 64 #[.int .i64 op, .int .i64 arg, .slice A k.len C] := by rw [hV]; exact Bx.new _ _ _
  have hs := hb.size
  have hkV := FoR.below hb hk
  have HV := Lib.hid hV
  clear hV hk
  rcases hok with ⟨rfl, ha1, ha2⟩ | ⟨ho1, ho2, ha1, ha2, rfl⟩
  · have HI := Lib.hid (ih V hkV)
    obtain ⟨m, rfl⟩ := Int.eq_ofNat_of_zero_le (show 0 ≤ arg by omega)
    have hm : 1 ≤ m ∧ m ≤ 100 := by omega
    clear ih ha1 ha2
    go_enter Try.func43, Try.ntmps43
    go_wp2_with fail
    rw [← HV.out]
    refine HI.out.mono ?_
    rintro e w2 ⟨hb2, hpost⟩
    have hb3 := hb.trans (hb2.mono hs)
    have hs3 := hb3.size
    have bn2 := bn.below hb2
    have c1 := bn2.at_ 1 rfl
    clear HI HV bn bn2
    by_cases h3 : (flS k).length ≤ 3000
    · rw [if_pos h3] at hpost
      obtain ⟨B, D, rfl, ow⟩ := hpost
      have HS := Lib.hid (show nodeS 8 (m : Int) k = repL m (flS k) by rw [nodeS_loop]; rfl)
      have HN := Lib.hid (show ∀ (W : World) (v : Value), Below w.heap.size w W → (∃ A2 C2, v = .slice A2 (nodeS 8 (m : Int) k).length C2 ∧ Own 2 W w.heap.size W.heap.size v (nodeS 8 (m : Int) k)) → NodePost 8 (m : Int) k w (.returned (.tuple #[v, .bool true])) W from fun W v h1 ⟨A2, C2, h2, h4⟩ => by
        subst h2
        exact ⟨h1, by rw [if_neg (fun h => h.2 h3)]; exact ⟨A2, C2, rfl, h4⟩⟩)
      by_cases h0 : flS k = []
      · have HS0 := Lib.hid (show nodeS 8 (m : Int) k = [] by
          rw [HS.out, h0]
          exact List.eq_nil_of_length_eq_zero (by rw [repL_len]; simp))
        rw [h0]
        clear h0 HS ow
        go_wp2_with fail
        refine (repI_nil B D m w2 (by omega)).mono ?_
        rintro e w4 ⟨A4, C4, rfl, ow4, hb4⟩
        go_wp2
        exact bodyPost_ret (v := .tuple #[.slice A4 0 C4, .bool true]) (by simp [results, Try.results43, go_sem]) rfl (HN.out _ _ (hb3.trans (hb4.mono hs3)) ⟨A4, C4, by rw [HS0.out]; rfl, by rw [HS0.out]; exact ow4.wide hs3 (Nat.le_refl _)⟩)
      · have hlen : 1 ≤ (flS k).length := by
          rcases Nat.eq_zero_or_pos (flS k).length with h | h
          · exact absurd (List.eq_nil_of_length_eq_zero h) h0
          · exact h
        have hprod : m * (flS k).length ≤ 1000000 := by
          have := Nat.mul_le_mul hm.2 h3
          omega
        have hrd := ow.rd
        generalize flS k = zs at *
        clear h0
        go_wp2_with fail
        refine (repI_any B D zs m w2 hrd hm.1 hlen hprod).mono ?_
        rintro e w4 ⟨A4, C4, rfl, ow4, hb4⟩
        go_wp2
        exact bodyPost_ret (v := .tuple #[.slice A4 (repL m zs).length C4, .bool true]) (by simp [results, Try.results43, go_sem]) rfl (HN.out _ _ (hb3.trans (hb4.mono hs3)) ⟨A4, C4, by rw [HS.out], by rw [HS.out]; exact ow4.wide hs3 (Nat.le_refl _)⟩)
    · rw [if_neg h3] at hpost
      subst hpost
      go_wp2_with fail
      refine (repI_nil none 0 m w2 (by omega)).mono ?_
      rintro e w4 ⟨A4, C4, rfl, ow4, hb4⟩
      go_wp2
      exact bodyPost_ret (v := .tuple #[.slice A4 0 C4, .bool false]) (by simp [results, Try.results43, go_sem]) rfl ⟨hb3.trans (hb4.mono hs3), by rw [if_pos ⟨rfl, h3⟩]; exact ⟨_, rfl, A4, 0, C4, rfl⟩⟩
  · have hne : ¬ op = 8 := by omega
    have hb8 : (op != 8) = true := by simpa using hne
    have HS := Lib.hid (nodeS_leaf (arg := arg) (k := .nil) hne)
    have HI := Lib.hid (strokes_any (op, arg) V ⟨ho1, ho2⟩ ⟨ha1, ha2⟩)
    clear ih
    go_enter Try.func43, Try.ntmps43
    go_wp2_with fail
    rw [← HV.out]
    refine HI.out.mono ?_
    rintro e w2 ⟨A4, C4, rfl, ow4, hb4⟩
    try simp only at ow4
    rw [← HS.out] at ow4 ⊢
    go_wp2
    exact bodyPost_ret (v := .tuple #[.slice A4 (nodeS op arg .nil).length C4, .bool true]) (by simp [results, Try.results43, go_sem]) rfl ⟨hb.trans (hb4.mono hs), by rw [if_neg (fun h => hne h.1)]; exact ⟨A4, C4, rfl, ow4.wide hs (Nat.le_refl _)⟩⟩

theorem news_intI {w : World} {A : Addr} {zs : List Int} (h : Rd w (some A) zs) : ∀ i u, (zs.map (Value.int .i64))[i]? = some u → w.cell? (A.add i) = some u := by
  intro i u hu
  have hi : i < zs.length := by have := (List.getElem?_eq_some_iff.1 hu).1; simpa using this
  obtain ⟨b, off, e, hc⟩ := h.at_ hi
  injection e with e
  subst e
  rw [List.getElem?_map, List.getElem?_eq_getElem hi] at hu
  simp only [Option.map_some, Option.some.injEq] at hu
  subst hu
  rw [nth_get hi] at hc
  have ea : (⟨b, off, none⟩ : Addr).add i = ⟨b, off + i, none⟩ := by
    by_cases h0 : i = 0
    · subst h0; rfl
    · simp [Addr.add, h0]
  rw [ea]; exact hc
theorem flatPostI_bad {f : Fo} {w w' : World} (h : ¬ (flS f).length ≤ 3000) (hb : Below w.heap.size w w') : FlatPostI f w (.returned (.tuple #[.slice none 0 0, .bool false])) w' := ⟨hb, by rw [if_neg h]⟩
theorem own_none {w : World} {lo hi D n : Nat} {zs : List Int} (h : Own 2 w lo hi (.slice none n D) zs) : n = 0 ∧ D = 0 ∧ zs = [] := by
  rcases h.row.2 with ⟨hv, h0⟩ | ⟨g9, cap, cur, hv, _⟩
  · injection hv with _ hn hD
    exact ⟨hn, hD, List.eq_nil_of_length_eq_zero h0⟩
  · cases hv
theorem own_some {w : World} {lo hi D n : Nat} {a : Addr} {zs : List Int} (h : Own 2 w lo hi (.slice (some a) n D) zs) : ∃ g, a = ⟨g, 0, none⟩ ∧ lo ≤ g ∧ g < w.heap.size := by
  rcases h.row.2 with ⟨hv, h0⟩ | ⟨g9, cap, cur, hv, _⟩
  · cases hv
  · injection hv with hv _ _
    injection hv with hv
    subst hv
    have := h.block
    exact ⟨g9, rfl, this.1, this.2.2⟩

set_option maxRecDepth 100000 in
set_option maxHeartbeats 16000000 in
theorem flatStrokes_any : ∀ (n : Nat) (f : Fo) (a : Option Addr) (c : Nat) (w : World), f.size < n → FoOk f → f.len ≤ 1000 → FoR w a f →
    Calls Try.prog 39 #[.slice a f.len c] w (FlatPostI f w) := by
  intro n
  induction n with
  | zero => intro f a c w hn; omega
  | succ n ih =>
    intro f a c w hn hok hlen hf
    have HIH := Lib.hid ih
    have HF0 := Lib.hid (show (f = .nil ∨ ∃ b off, a = some ⟨b, off, none⟩ ∧ FoR w (some ⟨b, off + 0 * 3, none⟩) f) ∧ FoOk f from ⟨by
      cases f with
      | nil => exact .inl rfl
      | cons op arg k r =>
        obtain ⟨b, off, A, C, e, h⟩ := hf
        exact .inr ⟨b, off, e, by rw [Nat.zero_mul, Nat.add_zero, ← e]; exact ⟨b, off, A, C, e, h⟩⟩, hok⟩)
    clear ih hok hf
    go_enter Try.func39, Try.ntmps39
    go_wp2
    go_loopw [4, 11] (fun q i wr => ∃ (j : Nat) (g : Fo) (acc : List Int) (A : Option Addr) (C lo : Nat), j + g.len = f.len ∧ i = .int .i64 j ∧ q = .slice A acc.length C ∧ acc.length ≤ 3000 ∧ Blk 2 1 wr lo (.slice A acc.length C) acc.length (acc.map (Value.int .i64)) ∧ w.heap.size ≤ lo ∧ Below w.heap.size w wr ∧
      Hid (((g = .nil ∨ ∃ b off, a = some ⟨b, off, none⟩ ∧ FoR w (some ⟨b, off + j * 3, none⟩) g) ∧ FoOk g) ∧ g.size ≤ f.size ∧ flS f = acc ++ flS g)) (fun _ i _ => f.len - (intOf i).toNat)
    case atStart => exact ⟨0, f, [], none, 0, w.heap.size, by omega, rfl, rfl, by simp, ⟨row_nil _ _ _ _ _, Nat.le_refl _⟩, Nat.le_refl _, Below.refl _ _, Lib.hid ⟨HF0.out, Nat.le_refl _, rfl⟩⟩
    case round =>
      obtain ⟨j, g, acc, A, C, lo, hj, rfl, rfl, hacc, bk, hlo, hb, HI⟩ := hrel
      have hs := hb.size
      by_cases hlt : j < f.len
      · cases g with
        | nil => simp only [Fo.len] at hj; omega
        | cons op arg k r =>
          obtain ⟨⟨hg, hok, ⟨hokk, hkl⟩, hokr⟩, hsz, hF⟩ := HI.out
          rcases hg with hg | ⟨b, off, rfl, hg⟩
          · cases hg
          · obtain ⟨b', off', A1, C1, e1, p0, p1, p2, hk, hr⟩ := hg
            injection e1 with e1
            injection e1 with e1 e2
            subst e1 e2
            replace p0 := kept hb p0
            replace p1 := kept hb p1
            replace p2 := kept hb p2
            have hbb := World.block_lt_of_cell? _ _ p0
            simp only at hbb
            simp only [Fo.size] at hsz
            simp only [Fo.len] at hj
            have HJ := Lib.hid (show off + j * 3 + 3 = off + (j + 1) * 3 by omega)
            have HR := Lib.hid hr
            have HOr := Lib.hid hokr
            have HSz := Lib.hid hsz
            have HFs := Lib.hid (show flS f = acc ++ (nodeS op arg k ++ flS r) from hF)
            have HC := Lib.hid (fun (W : World) (hW : Below w.heap.size w W) => nodeFlat_any op arg k A1 C1 W hok (FoR.below hW hk) (fun W2 h2 => HIH.out k A1 C1 W2 (by have := HSz.out; omega) hokk hkl h2))
            have hlen8 : op = 8 → (flS k).length ≤ (nodeS op arg k).length := fun h8 => by
              subst h8
              rw [nodeS_loop, repL_len]
              rcases hok with ⟨_, h, _⟩ | ⟨_, h, _⟩
              · have := Nat.mul_le_mul_right (flS k).length (show 1 ≤ arg.toNat by omega)
                omega
              · omega
            have HL8 := Lib.hid hlen8
            have HNl := Lib.hid (show (nodeS op arg k).length ≤ 1000000 ∨ (op = 8 ∧ ¬ (flS k).length ≤ 3000) by
              by_cases h8 : op = 8
              · by_cases h3 : (flS k).length ≤ 3000
                · left
                  subst h8
                  rw [nodeS_loop, repL_len]
                  have : arg.toNat ≤ 100 := by rcases hok with ⟨_, _, h⟩ | ⟨_, h, _⟩ <;> omega
                  have := Nat.mul_le_mul this h3
                  omega
                · exact .inr ⟨h8, h3⟩
              · left
                rw [nodeS_leaf h8, repL_len]
                rcases hok with ⟨h, _⟩ | ⟨_, _, h1, h2, _⟩
                · exact absurd h h8
                · simp; omega)
            clear HI hok hokk hokr hsz hF hlen8 hr hk
            go_wp2_with fail
            obtain ⟨W1, hW1⟩ : ∃ W1, W1 = wr.alloc (.cells #[.int .i64 op, .int .i64 arg, .slice A1 k.len C1] 64) := ⟨_, rfl⟩
            have hbW : Below wr.heap.size wr W1 := by rw [hW1]; exact (Below.refl _ _).alloc (Nat.le_refl _) _
            rw [← hW1]
            clear hW1
            have hsW := hbW.size
            refine (HC.out W1 (hb.trans (hbW.mono hs))).mono ?_
            rintro e5 w2 ⟨hb2, hpost⟩
            have hb12 := hbW.trans (hb2.mono hsW)
            have bk2 := bk.below hb12
            have hbw := hb.trans (hb12.mono hs)
            have hs2 := hb2.size
            clear HC p0 p1 p2 bk hbW
            by_cases hbad : op = 8 ∧ ¬ (flS k).length ≤ 3000
            · rw [if_pos hbad] at hpost
              obtain ⟨v, rfl, A9, n9, C9, rfl⟩ := hpost
              have HBig := Lib.hid (show ¬ (flS f).length ≤ 3000 by
                have := HL8.out hbad.1
                rw [HFs.out]
                simp only [List.length_append]
                omega)
              go_wp2
              exact bodyPost_ret (v := .tuple #[.slice none 0 0, .bool false]) (by simp [results, Try.results39, go_sem]) rfl (flatPostI_bad HBig.out hbw)
            · rw [if_neg hbad] at hpost
              obtain ⟨B, D, rfl, ow⟩ := hpost
              have hz6 : (nodeS op arg k).length ≤ 1000000 := by
                rcases HNl.out with h | h
                · exact h
                · exact absurd h hbad
              have HSr := Lib.hid (show r.size ≤ f.size by have := HSz.out; omega)
              clear hbad HL8 HNl HSz
              generalize nodeS op arg k = zs at *
              by_cases h3 : acc.length + zs.length ≤ 3000
              · have hn0 : ¬ (3000 : Int) < (acc.length : Int) + (zs.length : Int) := by omega
                have HFin := Lib.hid (show flS f = (acc ++ zs) ++ flS r by rw [HFs.out, List.append_assoc])
                have hl2 : (acc ++ zs).length = acc.length + zs.length := List.length_append
                have HR2 := Lib.hid (show FoR w (some ⟨b, off + (j + 1) * 3, none⟩) r by rw [← HJ.out]; exact HR.out)
                cases B with
                | none =>
                  obtain ⟨hz0, hD0, hzn⟩ := own_none ow
                  subst hzn
                  subst hD0
                  have hn1 : ¬ (3000 : Int) < (acc.length : Int) := by omega
                  have HFin2 := Lib.hid (show flS f = acc ++ flS r by rw [HFin.out, List.append_nil])
                  go_wp2_with (at_builtin; obtain ⟨i, hi1, hi2, hi3, hi4⟩ := info_parts info_i64r; refine wpList_append_own_none rfl (.tmp 30) (.tmp 31) 34 rfl lo 2 i 1 Try.underlying34 hi1 _ _ _ rfl bk2.row.row rfl ?_)
                  go_roundw
                  case rel => exact ⟨j + 1, r, acc, A, C, lo, by omega, by go_num, rfl, hacc, bk2, hlo, hbw, Lib.hid ⟨⟨.inr ⟨b, off, rfl, HR2.out⟩, HOr.out⟩, HSr.out, HFin2.out⟩⟩
                  case measure => (simp [intOf]) <;> omega
                | some bb =>
                  obtain ⟨gB, rfl, hg1, hg2⟩ := own_some ow
                  have hnews := news_intI ow.rd
                  go_wp2_with (at_builtin; refine wpList_appB rfl (.tmp 30) (.tmp 31) 34 2 rfl (.int .i64 0) 1 8 Try.underlying34 info_i64r rfl (by omega) (by omega) rfl bk2 ⟨gB, 0, none⟩ zs.length D (zs.map (Value.int .i64)) rfl (by simp) hnews (by intro u hu; simp at hu; obtain ⟨z, _, rfl⟩ := hu; rfl) (by omega) ?_; intro A3 C3 w6 lo3 q1 q2 q3 bk3 ht3)
                  go_roundw
                  case rel => exact ⟨j + 1, r, acc ++ zs, A3, C3, lo3, by omega, by go_num, by rw [hl2], by rw [hl2]; exact h3, by rw [hl2, List.map_append]; exact bk3, by omega, hbw.trans (ht3.below hlo (by omega)), Lib.hid ⟨⟨.inr ⟨b, off, rfl, HR2.out⟩, HOr.out⟩, HSr.out, HFin.out⟩⟩
                  case measure => (simp [intOf]) <;> omega
              · have hn0 : (3000 : Int) < (acc.length : Int) + (zs.length : Int) := by omega
                have HBig := Lib.hid (show ¬ (flS f).length ≤ 3000 by
                  rw [HFs.out]
                  simp only [List.length_append]
                  omega)
                go_wp2
                exact bodyPost_ret (v := .tuple #[.slice none 0 0, .bool false]) (by simp [results, Try.results39, go_sem]) rfl (flatPostI_bad HBig.out hbw)
      · cases g with
        | cons op arg k r => simp only [Fo.len] at hj; omega
        | nil =>
          simp only [Fo.len] at hj
          obtain rfl : j = f.len := by omega
          have HF := Lib.hid (show flS f = acc by rw [HI.out.2.2, flS, List.append_nil])
          go_wp2
          refine bodyPost_ret (v := .tuple #[.slice A acc.length C, .bool true]) (by simp [results, Try.results39, go_sem]) rfl ⟨hb, ?_⟩
          rw [HF.out, if_pos hacc]
          exact ⟨A, C, rfl, own_of_row (bk.wide hlo) rfl (by omega)⟩
end Go.Proofs.Ytgfopieojpjddaa
